import PyProof.Rows.All
import Wide.All
import OpenK.AllK
import Wide.FinOn
import Lean
import PyProof.EqAt
import PyProof.EqKinds
import PyProof.TupleCall
import PyProof.Rows.StrJoin2
import PyProof.TupleOfGen
import PyProof.ListRange
import PyProof.Draws
import PyProof.Rows.StrClose3
import KE.KSortedM
import PyProof.Rows.SortWalk
import PyProof.WalkInts
import PyProof.Rows.Range3
import PyProof.ZipIter
import PyProof.ConsumeWalk
import PyProof.Rows.SeqMore
import KE.KRevIter
import KE.KRevSl
import KE.KUnpack
import KE.KDictSum
import PySem.Challenge.RW_bearfaults_k22_surest_by_trial
noncomputable section
set_option bootstrap.genMatcherCode false
def PySem.W.Fast.tw2734459416804610711:=0
def PySem.W.Fast.tw11397048988787226102:=0
def PySem.W.Fast.tw10852587583684120594:=0
def PySem.W.Fast.tw15829544996668095998:=0
def PySem.W.Fast.tw18287302845547271881:=0
def PySem.W.Fast.tw451012408779883552:=0
def PySem.W.Fast.tw4810449287054567669:=0
def PySem.W.Fast.tw1762591626594593820:=0
def PySem.W.Fast.tw4664719320577130589:=0
def PySem.W.Fast.tw4670220690485512921:=0
def PySem.W.Fast.tw17944295329337741398:=0
def PySem.W.Fast.tw363744468159618919:=0
def PySem.W.Fast.tw5108648616910035504:=0
def PySem.W.Fast.tw15827103786448202587:=0
def PySem.W.Fast.tw5095776684251200761:=0
def PySem.W.Fast.tw11446513580580557895:=0
def PySem.W.Fast.tw11609574370974692103:=0
def PySem.W.Fast.tw3086041868862980833:=0
def PySem.W.Fast.tw16284115858094276653:=0
def PySem.W.Fast.tw18029568962343133972:=0
def PySem.W.Fast.tw11929563986071481813:=0
def PySem.W.Fast.tw12645542653513791672:=0
def PySem.W.Fast.tw12884592156054194710:=0
def PySem.W.Fast.tw355063867190002509:=0
def PySem.W.Fast.tw7451405599495852249:=0
def PySem.W.Fast.tw2461442941279722064:=0
def PySem.W.Fast.tw12645315310721806504:=0
def PySem.W.Fast.tw3254098469856883741:=0
def PySem.W.Fast.tw14045786203846856736:=0
def PySem.W.Fast.tw15276780935270028309:=0
def PySem.W.Fast.tw6960492215645676151:=0
def PySem.W.Fast.tw16690057762502915251:=0
def PySem.W.Fast.tw15192490247120344799:=0
def PySem.W.Fast.tw9612842861848077852:=0
def PySem.W.Fast.tw15785934189710496963:=0
def PySem.W.Fast.tw15865662950100389852:=0
def PySem.W.Fast.tw17757534572888416835:=0
def PySem.W.Fast.tw10951754766639355984:=0
def PySem.W.Fast.tw5183827115222597247:=0
def PySem.W.Fast.tw16826310597448469811:=0
set_option Elab.async false
set_option linter.all false
set_option maxRecDepth 100000
set_option maxHeartbeats 4000000
section
namespace L2
open PySem PySem.Spec PyProof.Rows
abbrev Key:=Sum Int Str
def wo:Key->Value->Bool
 | .inl k,v=>Value.isInt k v
 | .inr x,v=>Value.isStrOf x v
def Sg(w:World):Key->Int
 | .inl k=>hashInt k
 | .inr x=>hashStr w x
theorem dk:∀{k:Key} {v:Value},wo k v=true->(∃i t,k=Sum.inl i/\v=Value.int i t)\/(∃x t,k=Sum.inr x/\v=Value.str x t)
 | .inl i,v,h=>by
   obtain⟨t,e⟩:=Value.isInt_shape (k:=i) (v:=v) h;exact .inl ⟨i,t,rfl,e⟩
 | .inr x,v,h=>by
   obtain⟨t,e⟩:=Value.isStrOf_shape (x:=x) (v:=v) h;exact .inr ⟨x,t,rfl,e⟩
theorem EK(i:Int)(t:Tok):wo (.inl i) (.int i t)=true:=by simp [wo,Value.isInt]
theorem Ft(x:Str)(t:Tok):wo (.inr x) (.str x t)=true:=by simp [wo,Value.isStrOf]
theorem N4(a b:Int):decide ((Sum.inl a:Key)=Sum.inl b)=(a==b):=by
 by_cases e:a=b
 .subst e;simp
 .have h:¬(Sum.inl a:Key)=Sum.inl b:=fun q=>e (Sum.inl.inj q)
  rw[decide_eq_false h];exact(beq_eq_false_iff_ne.mpr e).symm
theorem Nu(a b:Str):decide ((Sum.inr a:Key)=Sum.inr b)=decide (a=b):=by
 by_cases e:a=b
 .subst e;simp
 .have h:¬(Sum.inr a:Key)=Sum.inr b:=fun q=>e (Sum.inr.inj q)
  rw[decide_eq_false h,decide_eq_false e]
theorem ME(a:Int)(b:Str):decide ((Sum.inl a:Key)=Sum.inr b)=false:=decide_eq_false (fun q=>nomatch q)
theorem OB(a:Str)(b:Int):decide ((Sum.inr a:Key)=Sum.inl b)=false:=decide_eq_false (fun q=>nomatch q)
def cW(prog:Program)(w:World):PySem.KeyKind prog w Key where
 is:=wo
 hash:=Sg w
 inj:=fun v a b ha hb=>by
  rcases dk ha with⟨i,t,rfl,rfl⟩ | ⟨x,t,rfl,rfl⟩
  .rcases dk hb with⟨j,u,rfl,e⟩ | ⟨y,u,rfl,e⟩
   .injection e with e1 _;rw [e1]
   .exact nomatch e
  .rcases dk hb with⟨j,u,rfl,e⟩ | ⟨y,u,rfl,e⟩
   .exact nomatch e
   .injection e with e1 _;rw [e1]
 byValue:=fun k v h=>by
  rcases dk h with⟨i,t,rfl,rfl⟩ | ⟨x,t,rfl,rfl⟩ <;> rfl
 pyHash:=fun hv h=>by
  rcases dk hv with⟨i,t,rfl,rfl⟩ | ⟨x,t,rfl,rfl⟩
  .exact wpAny_pyHash_int h
  .exact wpAny_pyHash_str h
 eqBool:=fun hu hv h=>by
  rcases dk hu with⟨i,t,rfl,rfl⟩ | ⟨x,t,rfl,rfl⟩
  .rcases dk hv with⟨j,u,rfl,rfl⟩ | ⟨y,u,rfl,rfl⟩
   .rw [N4] at h;exact wpAny_eqBool_int h
   .rw [ME] at h;exact SeqAt.EqAt.int_str i t y u _ _ _ _ h
  .rcases dk hv with⟨j,u,rfl,rfl⟩ | ⟨y,u,rfl,rfl⟩
   .rw [OB] at h;exact SeqAt.EqAt.str_int x t j u _ _ _ _ h
   .rw [Nu] at h;exact wpAny_eqBool_str h
 «strs»:=fun k x t v h=>by
  rcases dk h with⟨i,u,rfl,e⟩ | ⟨y,u,rfl,e⟩
  .exact nomatch e
  .injection e with e1 _
   subst e1;cases v <;> rfl
theorem AF(prog:Program)(w:World)(i:Int)(t:Tok):(cW prog w).is (.inl i) (.int i t)=true:=EK i t
theorem z8(prog:Program)(w:World)(x:Str)(t:Tok):(cW prog w).is (.inr x) (.str x t)=true:=Ft x t
inductive V where
 | cK | bl (b:Bool) | int (i:Int) | str (x:Str) | byt (b:Array UInt8) | flt (b:UInt64) | ref (a:Addr) | ty (n:String)
 deriving DecidableEq
def RelV:V->Value->Prop
 | .cK,u=>u=Value.none
 | .bl b,u=>u=Value.bool b
 | .int i,u=>∃t,u=Value.int i t
 | .str x,u=>∃t,u=Value.str x t
 | .byt b,u=>∃t,u=Value.bytes b t
 | .flt b,u=>∃t,u=Value.float b t
 | .ref a,u=>u=Value.ref a
 | .ty n,u=>u=Value.type n
abbrev Vals:List V->List Value->Prop:=Paired RelV
theorem Vals.length{xs:List V}{us:List Value}(r:Vals xs us):xs.length=us.length:=Paired.length r
theorem Vals.get:∀{xs:List V} {us:List Value} {i:Nat} {x:V},Vals xs us->xs[i]? =some x->∃u,us[i]? =some u/\RelV x u
 | _,_,_,_, .nil,e=>by simp at e
 | _,_,0,_, .cons r _,e=>by simp at e;subst e;exact⟨_,rfl,r⟩
 | _,_,i+1,x, .cons _ t,e=>by
   obtain⟨u,h1,h2⟩:=Vals.get (i:=i) (x:=x) t (by simpa using e)
   exact⟨u,by simpa using h1,h2⟩
theorem Vals.set{x:V}{u:Value}(r:RelV x u):∀{xs:List V} {us:List Value} (i:Nat),Vals xs us->Vals (xs.set i x) (us.set i u)
 | _,_,_, .nil=> .nil
 | _,_,0, .cons _ t=> .cons r t
 | _,_,i+1, .cons q t=> .cons q (Vals.set r i t)
theorem Vals.append:∀{xs ys:List V} {us ws:List Value},Vals xs us->Vals ys ws->Vals (xs++ys) (us++ws)
 | _,_,_,_, .nil,s=>s
 | _,_,_,_, .cons r t,s=> .cons r (Vals.append t s)
theorem Vals.take:∀{xs:List V} {us:List Value} (n:Nat),Vals xs us->Vals (xs.take n) (us.take n)
 | _,_,0,_=> .nil
 | _,_,_+1, .nil=> .nil
 | _,_,n+1, .cons r t=> .cons r (Vals.take n t)
theorem Vals.drop:∀{xs:List V} {us:List Value} (n:Nat),Vals xs us->Vals (xs.drop n) (us.drop n)
 | _,_,0,r=>r
 | _,_,_+1, .nil=> .nil
 | _,_,n+1, .cons _ t=>Vals.drop n t
def pO:Option V->Option Value->Prop
 | some v,some u=>RelV v u
 | none,none=>True
 | _,_=>False
def KV{κ:Type}:List (κ × V)->List (κ × Value)->Prop:=Paired fun(p:κ × V) (q:κ × Value)=>p.1=q.1/\RelV p.2 q.2
def kV:Key->V
 | .inl i=> .int i
 | .inr x=> .str x
inductive HO where
 | lst (xs:List V)
 | tup (xs:List V)
 | dK (kvs:List (Key × V)) | dT (kvs:List (List Key × V))
 | set (S:Int->Bool) (n:Nat)
 | ins (C dx:Addr) (fs:List (Str × V))
 | own (x:Addr)
 | xd (fs:List (Str × V))
 | met (f x:Addr)
 | rng (lo hi:Int)
 | lp (o:Obj) (u:HO)
 | tbl (ps:Array Value)
 | ext (φ:Heap->Prop)
abbrev Hp:=Addr->Option HO
def upd(H:Hp)(a:Addr)(o:HO):Hp:=fun b=>if b=a then some o else H b
theorem aV{a:Addr}{o:HO}:upd H a o a=some o:=by unfold upd;rw [if_pos rfl]
theorem br{H:Hp}{a b:Addr}{o:HO}(h:b≠a):upd H a o b=H b:=by unfold upd;rw [if_neg h]
theorem Lp{a:Addr}{o u:HO}:upd (upd H a o) a u=upd H a u:=by
 funext b;unfold upd;split <;> rfl
theorem QI{H:Hp}{a b:Addr}{o u:HO}(h:H a=some o)(h':H b=some u)(d:o≠u):a≠b:=by
 intro e;subst e;rw [h] at h';exact d (Option.some.inj h')
theorem cz{H:Hp}{a b:Addr}{o:HO}(h:H a=some o)(h':H b=none):a≠b:=by
 intro e;subst e;rw [h] at h';cases h'
section
variable (P:Program) (w:World)
def dQ(H:Hp)(h:Heap)(a:Addr):HO->Prop
 | .lst xs=>xs.length<=sizeLine/\∃(its:List Value) (n:Nat),Vals xs its/\h.get? a=some {cls:= .type "list",data:= .seq its.toArray n}
 | .tup xs=>xs.length<=sizeLine/\∃its:List Value,Vals xs its/\IsTup h a its.toArray
 | .dK kvs=>kvs.length<=sizeLine/\(a==sysModules)=false/\∃vs,KV kvs vs/\h.DictOf (cW P w) a vs
 | .dT kvs=>kvs.length<=sizeLine/\(a==sysModules)=false/\∃xs:List (List Key × Addr × Value),
    Paired (fun(p:List Key × V) (q:List Key × Addr × Value)=>p.1=q.1/\H q.2.1=some (.tup (p.1.map kV))/\RelV p.2 q.2.2) kvs xs/\
    ∃o es ep,h.get? a=some o/\o.ExactDict/\o.data= .dict es ep/\es.toList=xs.map (entryOfKey (tupleKind (cW P w)))/\(xs.map (·.1)).Nodup
 | .set S n=>h.SetOf (intKind P w) a S n
 | .ins C dx fs=>H dx=some (.own a)/\fs.length<=1000/\dx≠a/\h.get? a=some (PySem.W.instObj C dx)/\
    ∃mA,h.Ns1 dx mA/\(∀f,pO (fs.lookup f) (mA f))/\PySem.Within mA (fs.map (·.1))
 | .own _=>∃o,h.get? a=some o
 | .xd fs=>∃mA,h.Ns1 a mA/\∀f,pO (fs.lookup f) (mA f)
 | .rng lo hi=>∃t u v,h.get? a=some {cls:= .type "range",data:= .fields #[.int lo t, .int hi u, .int 1 v]}
 | .lp o u=>h.get? a=some o/\dQ H h a u
 | .tbl ps=>h.get? a=some {cls:= .none,data:= .fields ps}
 | .met f x=>h.get? a=some (PySem.W.methodObj (.ref f) (.ref x))
 | .ext φ=>φ h/\(∃o,h.get? a=some o)/\∀h1 h2:Heap,φ h1->(∀o,h1.get? a=some o->h2.get? a=some o)->φ h2
def pN(H:Hp)(h:Heap):Prop:=∀a o,H a=some o->dQ P w H h a o
end
section
variable {P:Program} {w:World} {H H':Hp} {h h':Heap} {a:Addr} {o:HO}
theorem dQ.lt(x:dQ P w H h a o):a < h.objs.size:=by
 cases o with
 | lst xs=>obtain⟨_,_,_,_,e⟩:=x;exact Heap.lt_size e
 | tup xs=>obtain⟨_,_,_,p⟩:=x;exact p.lt
 | dK kvs=>obtain⟨_,_,_,_,o,_,_,e,_⟩:=x;exact Heap.lt_size e
 | dT kvs=>obtain⟨_,_,_,_,o,_,_,e,_⟩:=x;exact Heap.lt_size e
 | set S n=>obtain⟨o,_,_,_,e,_⟩:=x;exact Heap.lt_size e
 | ins C dx fs=>obtain⟨_,_,_,e,_⟩:=x;exact Heap.lt_size e
 | own y=>obtain⟨_,e⟩:=x;exact Heap.lt_size e
 | xd fs=>obtain⟨_,⟨_,_,_,e,_⟩,_⟩:=x;exact Heap.lt_size e
 | rng lo hi=>obtain⟨_,_,_,e⟩:=x;exact Heap.lt_size e
 | lp ob u=>obtain⟨e,_⟩:=x;exact Heap.lt_size e
 | tbl ps=>exact Heap.lt_size (show h.get? a=some _ from x)
 | met f y=>exact Heap.lt_size (show h.get? a=some _ from x)
 | ext φ=>obtain⟨_,⟨_,e⟩,_⟩:=x;exact Heap.lt_size e
theorem Paired.Np{α β:Type}{F G:α->β->Prop}:∀{Ra:List α} {Q2:List β},Paired F Ra Q2->(∀a b,F a b->G a b)->Paired G Ra Q2
 | _,_, .nil,_=> .nil
 | _,_, .cons r t,f=> .cons (f _ _ r) (Paired.Np t f)
theorem dQ.zx(x:dQ P w H h a o)(k:∀b u,(b=a\/H b=some (.own a))->h.get? b=some u->h'.get? b=some u)
 (ho:∀b,H b=some (.own a)->H' b=some (.own a)) (ht:∀b xs,H b=some (.tup xs)->H' b=some (.tup xs)):dQ P w H' h' a o:=by
 induction o with
 | lst xs=>obtain⟨z,its,n,r,e⟩:=x;exact⟨z,its,n,r,k _ _ (.inl rfl) e⟩
 | tup xs=>obtain⟨z,its,r,ob,e,c⟩:=x;exact⟨z,its,r,ob,k _ _ (.inl rfl) e,c⟩
 | dK kvs=>obtain⟨z,y,vs,r,ob,es,ep,e,c⟩:=x;exact⟨z,y,vs,r,ob,es,ep,k _ _ (.inl rfl) e,c⟩
 | dT kvs=>
   obtain⟨z,y,xs,r,ob,es,ep,e,c⟩:=x;exact⟨z,y,xs,Paired.Np r fun p q z=>⟨z.1,ht _ _ z.2.1,z.2.2⟩,ob,es,ep,k _ _ (.inl rfl) e,c⟩
 | set S n=>obtain⟨ob,es,ep,t,e,c⟩:=x;exact⟨ob,es,ep,t,k _ _ (.inl rfl) e,c⟩
 | ins C dx fs=>
   obtain⟨d,z,ne,e,mA,⟨od,es,ep,e2,c⟩,r⟩:=x;exact⟨ho _ d,z,ne,k _ _ (.inl rfl) e,mA,⟨od,es,ep,k _ _ (.inr d) e2,c⟩,r⟩
 | own y=>obtain⟨ob,e⟩:=x;exact⟨ob,k _ _ (.inl rfl) e⟩
 | xd fs=>obtain⟨mA,⟨od,es,ep,e,c⟩,r⟩:=x;exact⟨mA,⟨od,es,ep,k _ _ (.inl rfl) e,c⟩,r⟩
 | rng lo hi=>obtain⟨t,u,v,e⟩:=x;exact⟨t,u,v,k _ _ (.inl rfl) e⟩
 | lp ob u ih=>obtain⟨e,q⟩:=x;exact⟨k _ _ (.inl rfl) e,ih q⟩
 | tbl ps=>
   have e:h.get? a=some {cls:= .none,data:= .fields ps}:=x;show h'.get? a=some {cls:= .none,data:= .fields ps};exact k a _ (.inl rfl) e
 | met f y=>
   have e:h.get? a=some (PySem.W.methodObj (.ref f) (.ref y)):=x;show h'.get? a=some (PySem.W.methodObj (.ref f) (.ref y));exact k a _ (.inl rfl) e
 | ext φ=>obtain⟨p,⟨o,e⟩,st⟩:=x;exact⟨st _ _ p fun o q=>k _ _ (.inl rfl) q,⟨o,k _ _ (.inl rfl) e⟩,st⟩
theorem pN.lt(x:pN P w H h)(e:H a=some o):a < h.objs.size:=(x a o e).lt
theorem pN.fresh(x:pN P w H h)(e:h.objs.size<=a):H a=none:=by
 cases q:H a with
 | none=>rfl
 | some u=>exact absurd (Nat.lt_of_lt_of_le (x.lt q) e) (Nat.lt_irrefl _)
theorem pN.kept(x:pN P w H h)(k:∀b u,h.get? b=some u->h'.get? b=some u):pN P w H h':=fun a o e=>
 (x a o e).zx (fun b u _ q=>k b u q) (fun _ q=>q) fun _ _ q=>q
theorem pN.laid(x:pN P w H h)(k:∀b u,h.get? b=some u->h'.get? b=some u)(hp:h.objs.size<=a)(new:dQ P w (upd H a o) h' a o):pN P w (upd H a o) h':=fun b u e=>by
 have hn:=x.fresh hp;by_cases hb:b=a
 .subst hb;rw [aV] at e;cases e;exact new
 .rw [br hb] at e;exact(x b u e).zx (fun c v _ q=>k c v q) (fun c q=>by rw[br (cz q hn)];exact q) fun c xs q=>by rw[br (cz q hn)];exact q
end
def Rd(H:Hp)(a:Addr)(u:HO):Prop:=H a=some u\/∃o,H a=some (.lp o u)
theorem Rd.of{H:Hp}{a:Addr}{u:HO}(h:H a=some u):Rd H a u:= .inl h
theorem Rd.ok{a:Addr}{u:HO}(r:Rd H a u)(x:pN P w H h):dQ P w H h a u:=by
 rcases r with r | ⟨o,r⟩
 .exact x a u r
 .obtain⟨_,q⟩:=x a _ r;exact q
def Pz:Option HO->Prop
 | some (.lst _)=>True
 | some (.dK _)=>True
 | some (.dT _)=>True
 | some (.set _ _)=>True
 | some (.ins _ _ _)=>True
 | some (.ext _)=>True
 | _=>False
section
variable {P:Program} {w:World} {H:Hp} {h h':Heap} {x e:Addr} {o':HO}
theorem pN.write(ok:pN P w H h)(mu:Pz (H x))(he:e=x\/H e=some (.own x))(k:∀b u,b≠e->h.get? b=some u->h'.get? b=some u)(JA:∃u,h'.get? e=some u)
 (new:dQ P w (upd H x o') h' x o'):pN P w (upd H x o') h':=fun b u q=>by
 have nown:∀c y,H c=some (.own y)->c≠x:=fun c y r z=>by subst z;rw [r] at mu;exact mu
 have ntup:∀c xs,H c=some (.tup xs)->c≠x:=fun c xs r z=>by subst z;rw [r] at mu;exact mu
 by_cases hb:b=x
 .subst hb;rw [aV] at q;cases q;exact new
 .rw [br hb] at q;by_cases hbe:b=e
  .have q':H b=some (.own x):=by
    rcases he with z | z
    .exact absurd (hbe.trans z) hb
    .rw [hbe];exact z
   rw[q] at q';cases q';obtain⟨v,hv⟩:=JA;exact⟨v,by rw[hbe];exact hv⟩
  .refine(ok b u q).zx (fun c v hc r=>k c v ?_ r) (fun c r=>by rw[br (nown c b r)];exact r) fun c xs r=>by rw[br (ntup c xs r)];exact r
   rcases hc with rfl | hc
   .exact hbe
   .rintro rfl;rcases he with z | z
    .exact nown c b hc z
    .rw [hc] at z;cases z;exact hb rfl
end
structure Un (fs ex:List Addr) (H H':Hp) (h h':Heap):Prop where
 keep:∀b o,h.get? b=some o->H b=none->b ∉ fs->b ∉ ex->h'.get? b=some o
 slot:∀b o,h.get? b=some o->H b=none->b∈fs->b ∉ ex->∃sl,h'.get? b=some {o with slots:=sl}
 free:∀b o,h.get? b=some o->H b=none->b ∉ ex->H' b=none
 there:∀b o,h.get? b=some o->b ∉ ex->∃o',h'.get? b=some o'
 tups:∀b xs,H b=some (.tup xs)->H' b=some (.tup xs)
 frzs:∀b o u,H b=some (.lp o u)->H' b=some (.lp o u)
 tbls:∀b ps,H b=some (.tbl ps)->∃more,H' b=some (.tbl (ps++more))
section
variable {fs Pj ex YN:List Addr} {H H1 H2:Hp} {h h1 h2 h':Heap} {a x e:Addr} {o:HO}
theorem Un.any(u:Un fs ex H H1 h h1){b:Addr}{ob:Obj}(q:h.get? b=some ob)(n:H b=none)(hx:b ∉ ex):∃sl,h1.get? b=some {ob with slots:=sl}:=by
 by_cases hb:b∈fs
 .exact u.slot b ob q n hb hx
 .exact⟨ob.slots,u.keep b ob q n hb hx⟩
theorem Un.kept(k:∀b u,h.get? b=some u->h'.get? b=some u):Un fs ex H H h h':=
 ⟨fun b ob q _ _ _=>k b ob q,fun b ob q _ _ _=>⟨ob.slots,k b ob q⟩,fun _ _ _ n _=>n,fun b ob q _=>⟨ob,k b ob q⟩,fun _ _ q=>q,fun _ _ _ q=>q,fun _ ps q=>⟨#[],by rw[q];simp⟩⟩
theorem Un.refl:Un fs ex H H h h:=Un.kept fun _ _ q=>q
theorem Un.laid(k:∀b u,h.get? b=some u->h'.get? b=some u)(hp:h.objs.size<=a)(hn:H a=none):Un fs ex H (upd H a o) h h' where
 keep:=fun b u q _ _ _=>k b u q
 slot:=fun b u q _ _ _=>⟨u.slots,k b u q⟩
 free:=fun b u q n _=>by rw[br (Nat.ne_of_lt (Nat.lt_of_lt_of_le (Heap.lt_size q) hp))];exact n
 there:=fun b u q _=>⟨u,k b u q⟩
 tups:=fun b xs q=>by rw[br (cz q hn)];exact q
 frzs:=fun b u xs q=>by rw[br (cz q hn)];exact q
 tbls:=fun b ps q=>⟨#[],by rw[br (cz q hn),q];simp⟩
theorem Un.write(mu:Pz (H x))(he:e=x\/H e=some (.own x))(k:∀b u,b≠e->h.get? b=some u->h'.get? b=some u)(JA:∃u,h'.get? e=some u):Un fs ex H (upd H x o) h h':=by
 have hx:∀b,H b=none->b≠x:=fun b n z=>by subst z;rw [n] at mu;exact mu
 have hb:∀b,H b=none->b≠e:=fun b n z=>by
  subst z;rcases he with r | r
  .exact hx b n r
  .rw [n] at r;cases r
 have hm:∀b u,H b=some u->¬Pz (some u)->b≠x:=fun b u q nm z=>by subst z;rw [q] at mu;exact nm mu
 refine⟨fun b u q n _ _=>k b u (hb b n) q,fun b u q n _ _=>⟨u.slots,k b u (hb b n) q⟩,fun b u q n _=>by rw[br (hx b n)];exact n,fun b u q _=>?_,
  fun b xs q=>by rw[br (hm b _ q fun z=>z)];exact q,fun b u xs q=>by rw[br (hm b _ q fun z=>z)];exact q,fun b ps q=>⟨#[],by rw[br (hm b _ q fun z=>z),q];simp⟩⟩
 by_cases hbe:b=e
 .subst hbe;exact JA
 .exact⟨u,k b u hbe q⟩
end
def Rr(h:Heap)(H:Hp):List Addr:=(List.range h.objs.size).filter fun a=>(H a).isSome
def zo(h:Heap)(H:Hp):Heap:=PySem.W.hideAll h (Rr h H)
theorem Fd(h:Heap)(H:Hp):(zo h H).objs.size=h.objs.size:=PySem.W.hideAll_size _ _
theorem IU{h:Heap}{H:Hp}{b:Addr}{o:Obj}(e:h.get? b=some o)(n:H b=none):(zo h H).get? b=some o:=
 PySem.W.hideAll_get _ e fun hm=>by
  have q:(H b).isSome=true:=(List.mem_filter.mp hm).2;rw[n] at q;simp at q
theorem K_{h:Heap}{H:Hp}{b:Addr}{o:Obj}(e:(zo h H).get? b=some o):h.get? b=some o/\H b=none:=by
 have e':h.get? b=some o:=PySem.W.of_hideAll (Rr h H) e;refine⟨e',?_⟩;cases q:H b with
 | none=>rfl
 | some x=>
   have hm:b∈Rr h H:=List.mem_filter.mpr ⟨List.mem_range.mpr (Heap.lt_size e'),by simp [q]⟩
   have z:(zo h H).get? b=none:=PySem.W.hideAll_none (Rr h H) hm;rw[z] at e;cases e
def JS(g h:Heap)(L:Addr):List (Addr × Obj):=(List.range h.objs.size).filterMap fun a=>if a=L\/(g.get? a).isSome=true then none else(h.get? a).map fun o=>(a,o)
def rest(g h:Heap)(L d:Addr):List (Addr × Obj):=(JS g h L).filter fun p=>decide (p.1≠d)
structure Mod (K:W.Frag) (mg:Str->Option Value) (base:Heap):Prop where
 kin:K.In base
 glob:base.Ns mainGlobals mg
 blt:∃mb,base.Ns builtinsNs mb/\∀x:Str,x≠"__name__"->mb x=bootBuiltins x
 nolimit:base.NoLimit
structure Cx where
 prog:Program
 w:World
 K:W.Frag
 mg:Str->Option Value
 base:Heap
 A:Around
 N:List Str
 s₀:Shared
 H₀:Hp
 env:Env
 outer:List Env
 stack:List Env
 ex:List Addr
 fn:Str->Bool
 calm:Bool
 pn:List (Addr × Obj)
 xe:Value->Shared->Prop
def F9(l:List Env):List Addr:=l.filterMap (·.frame)
abbrev Cx.fs(X:Cx):List Addr:=F9 X.outer
def Hz(sc:Scope)(x:Str):Prop:=sc.names.lookup x=some .local\/sc.names.lookup x=some .cell\/sc.names.lookup x=some .free
def Loc(sc:Scope)(x:Str):Prop:=sc.names.lookup x=some .local\/sc.names.lookup x=some .cell
def Look(env:Env)(h:Heap)(m:Str->Option Value)(x:Str)(u:Value):Prop:=
 (env.kindOf x=some .local/\m x=some u)\/((env.kindOf x=some .cell\/env.kindOf x=some .free)/\∃c,env.cells.lookup x=some c/\h.IsCell c (some u))
structure Cx.Ok (X:Cx):Prop where
 mod:Mod X.K X.mg X.base
 kind:X.env.scope.kind= .function
 glob:X.env.globals=mainGlobals
 blt:X.env.builtins=builtinsNs
 above:X.s₀.heap.objs.size<=X.env.locals
 inj:∀x y c,X.env.cells.lookup x=some c->X.env.cells.lookup y=some c->x=y
 has:∀x,(X.env.kindOf x=some .cell\/X.env.kindOf x=some .free)->∃c,X.env.cells.lookup x=some c
 cab:∀x c,X.fn x=true->X.env.cells.lookup x=some c->X.s₀.heap.objs.size<=c
 hd:X.calm=true->X.A.handled=none
 frames:X.A.frames=some X.stack
 stk:X.stack=X.outer\/(X.stack=X.env ::X.outer/\X.env.frame=some X.env.locals)
 exf:∀b∈X.ex,b≠X.env.locals/\∀x c,X.env.cells.lookup x=some c->c≠b
 bs:∀b o,X.base.get? b=some o->X.s₀.heap.get? b=some o/\X.H₀ b=none
 bsz:X.base.objs.size<=X.s₀.heap.objs.size
 noex:∀b o,X.base.get? b=some o->b ∉ X.ex
 exfs:∀b∈X.ex,b ∉ X.fs
 uY:X.s₀.heap.FunFrames X.base X.outer
 frf:∀b∈X.fs,X.H₀ b=none
structure Inv (X:Cx) (pins:List (Addr × Obj)) (σ:List (Option V)) (H:Hp) (s:Shared):Prop where
 ok:X.Ok
 os:s.os=X.s₀.os
 bare:AllBare s.gens
 base:Un X.fs X.ex X.H₀ H X.s₀.heap s.heap
 loc:∃m,s.heap.Ns X.env.locals m/\∀(i:Nat) (x:Str) (v:V),X.N[i]? =some x->σ[i]? =some (some v)->Hz X.env.scope x->∃u,RelV v u/\Look X.env s.heap m x u
 cell:∀x c,X.env.cells.lookup x=some c->∃v,s.heap.IsCell c v
 free:H X.env.locals=none
 freeC:∀x c,X.env.cells.lookup x=some c->H c=none
 pin:∀p∈X.pn++pins,s.heap.get? p.1=some p.2/\H p.1=none/\p.1≠X.env.locals/\p.1 ∉ X.fs/\∀v,p.2.data≠ .cell v
 hok:pN X.prog X.w H s.heap
 len:σ.length=X.N.length
section
variable {X:Cx} {pins:List (Addr × Obj)} {σ:List (Option V)} {H H':Hp} {s:Shared} {h':Heap}
theorem Cx.Ok.R6(ok:X.Ok){b:Addr}{o:Obj}(e:X.base.get? b=some o):b ∉ X.fs:=fun hb=>by
 have:=(ok.uY.mem hb).1;rw[e] at this;cases this
theorem Inv.bs(I:Inv X pins σ H s):∀b o,X.base.get? b=some o->s.heap.get? b=some o/\H b=none:=fun b o e=>
 ⟨I.base.keep b o (I.ok.bs b o e).1 (I.ok.bs b o e).2 (I.ok.R6 e) (I.ok.noex b o e),I.base.free b o (I.ok.bs b o e).1 (I.ok.bs b o e).2 (I.ok.noex b o e)⟩
theorem Inv.bk(I:Inv X pins σ H s):∀b o,X.base.get? b=some o->s.heap.get? b=some o:=fun b o e=>(I.bs b o e).1
theorem Inv.mod(I:Inv X pins σ H s):Mod X.K X.mg X.base:=I.ok.mod
theorem Inv.sk(I:Inv X pins σ H s):X.K.In s.heap:=I.ok.mod.kin.keeps I.bk
theorem Inv.lt(I:Inv X pins σ H s):X.env.locals < s.heap.objs.size:=let⟨_,hn,_⟩:=I.loc;hn.lt
theorem Inv.sz(I:Inv X pins σ H s):X.s₀.heap.objs.size<=s.heap.objs.size:=Nat.le_trans I.ok.above (Nat.le_of_lt I.lt)
theorem Inv.Sw(I:Inv X pins σ H s){a:Addr}(h:s.heap.objs.size<=a):a ∉ X.fs:=fun hb=>by
 obtain⟨_,o,ho,_⟩:=I.ok.uY.mem hb;exact absurd (Nat.lt_of_lt_of_le (Heap.lt_size ho) (Nat.le_trans I.sz h)) (Nat.lt_irrefl _)
theorem Inv.NU(I:Inv X pins σ H s):∀x c,X.env.cells.lookup x=some c->c≠X.env.locals:=fun x c e z=>by
 obtain⟨v,o,ho,hd⟩:=I.cell x c e;obtain⟨m,⟨o',es,ep,FW,UO,_⟩,_⟩:=I.loc;rw[z,FW] at ho;cases ho;rw [UO] at hd;cases hd
theorem Inv.uY(I:Inv X pins σ H s):s.heap.FunFrames X.base X.outer:=by
 have all:∀(l:List Env),(∀b∈F9 l,b∈X.fs)->X.s₀.heap.FunFrames X.base l->s.heap.FunFrames X.base l:=by
  intro l
  induction l with
  | nil=>intro _ _;trivial
  | cons env r ih=>
    intro hs hl;obtain⟨hk,⟨L,o,hf,hn,ho,hd⟩,hr⟩:=hl;have hL:L∈X.fs:=hs L (by unfold F9;rw [List.filterMap_cons,hf];exact List.mem_cons_self)
    obtain⟨sl,e⟩:=I.base.slot L o ho (I.ok.frf L hL) hL fun z=>I.ok.exfs L z hL
    exact⟨hk,⟨L,_,hf,hn,e,hd⟩,ih (fun b hb=>hs b (by unfold F9;rw [List.filterMap_cons,hf];exact List.mem_cons_of_mem _ hb)) hr⟩
 exact all X.outer (fun _ hb=>hb) I.ok.uY
theorem Inv.stack(I:Inv X pins σ H s):s.heap.FunFrames X.base X.stack:=by
 rcases I.ok.stk with e | ⟨e,hf⟩
 .rw [e];exact I.uY
 .rw [e];obtain⟨m,hn,_⟩:=I.loc;refine .cons (by rw[I.ok.kind];decide) hf hn ?_ I.uY
  exact Heap.get?_none_of_le (Nat.le_trans I.ok.bsz I.ok.above)
theorem Inv.CB(I:Inv X pins σ H s):∀b∈F9 X.stack,b∈X.env.locals ::X.fs:=fun b hb=>by
 rcases I.ok.stk with e | ⟨e,hf⟩
 .rw [e] at hb;exact List.mem_cons_of_mem _ hb
 .rw [e] at hb;unfold F9 at hb;rw[List.filterMap_cons,hf] at hb;exact hb
theorem Inv.Dm(I:Inv X pins σ H s):∀b∈F9 X.stack,H b=none:=fun b hb=>by
 rcases List.mem_cons.mp (I.CB b hb) with e | hb
 .rw [e];exact I.free
 .obtain⟨_,o,ho,_⟩:=I.ok.uY.mem hb;exact I.base.free b o ho (I.ok.frf b hb) fun z=>I.ok.exfs b z hb
theorem Inv.step{g':Array GenState}{t':Nat}{d':Drawn}{ch:List Addr}(I:Inv X pins σ H s)
 (Jx:∀b∈ch,(b∈X.ex\/X.s₀.heap.objs.size<=b)/\b≠X.env.locals/\(∀x c,X.env.cells.lookup x=some c->c≠b)/\∀p∈X.pn++pins,p.1≠b)
 (keep:∀b o,b≠X.env.locals->b ∉ X.fs->b ∉ ch->s.heap.get? b=some o->H b=none->h'.get? b=some o)
 (slot:∀b o,b≠X.env.locals->b∈X.fs->b ∉ ch->s.heap.get? b=some o->H b=none->∃sl,h'.get? b=some {o with slots:=sl}) (free:∀b o,b ∉ ch->s.heap.get? b=some o->H b=none->H' b=none)
 (there:∀b o,b ∉ ch->s.heap.get? b=some o->∃o',h'.get? b=some o')
 (tups:∀b xs,H b=some (.tup xs)->H' b=some (.tup xs)) (frzs:∀b o u,H b=some (.lp o u)->H' b=some (.lp o u)) (tbls:∀b ps,H b=some (.tbl ps)->∃more,H' b=some (.tbl (ps++more)))
 (ns:∀m,s.heap.Ns X.env.locals m->h'.Ns X.env.locals m) (hok:pN X.prog X.w H' h') (hg:AllBare g') :
 Inv X pins σ H' {s with heap:=h',gens:=g',drawn:=d',toks:=t'}:=by
 have neL:∀b o,X.s₀.heap.get? b=some o->b≠X.env.locals:=fun b o e=>Nat.ne_of_lt (Nat.lt_of_lt_of_le (Heap.lt_size e) I.ok.above)
 have neC:∀b o,X.s₀.heap.get? b=some o->b ∉ X.ex->b ∉ ch:=fun b o e hx hb=>by
  rcases(Jx b hb).1 with z | z
  .exact hx z
  .exact absurd (Nat.lt_of_lt_of_le (Heap.lt_size e) z) (Nat.lt_irrefl _)
 have cellK:∀x c,X.env.cells.lookup x=some c->∀v,s.heap.IsCell c v->h'.IsCell c v:=fun x c e v ⟨o,ho,hd⟩=>by
  have nch:c ∉ ch:=fun z=>(Jx c z).2.2.1 x c e rfl
  by_cases hc:c∈X.fs
  .obtain⟨sl,q⟩:=slot c o (I.NU x c e) hc nch ho (I.freeC x c e);exact⟨_,q,hd⟩
  .exact⟨o,keep c o (I.NU x c e) hc nch ho (I.freeC x c e),hd⟩
 refine⟨I.ok,I.os,hg,⟨fun b o e n hb hx=>?_,fun b o e n hb hx=>?_,fun b o e n hx=>?_,fun b o e hx=>?_,fun b xs e=>tups b xs (I.base.tups b xs e),fun b o xs e=>frzs b o xs (I.base.frzs b o xs e),fun b ps e=>?_⟩,?_,fun x c e=>?_,?_,fun x c e=>?_,fun p hp=>?_,hok,I.len⟩
 .exact keep b o (neL b o e) hb (neC b o e hx) (I.base.keep b o e n hb hx) (I.base.free b o e n hx)
 .obtain⟨sl,e1⟩:=I.base.slot b o e n hb hx;obtain⟨Xd,e2⟩:=slot b _ (neL b o e) hb (neC b o e hx) e1 (I.base.free b o e n hx);exact⟨Xd,e2⟩
 .obtain⟨o',e1⟩:=I.base.there b o e hx;exact free b o' (neC b o e hx) e1 (I.base.free b o e n hx)
 .obtain⟨o',e1⟩:=I.base.there b o e hx;exact there b o' (neC b o e hx) e1
 .obtain⟨m1,e1⟩:=I.base.tbls b ps e;obtain⟨m2,e2⟩:=tbls b _ e1;exact⟨m1++m2,by rw[e2,Array.append_assoc]⟩
 .obtain⟨m,hn,hl⟩:=I.loc;refine⟨m,ns m hn,fun i x v e1 e2 e3=>?_⟩
  obtain⟨u,r,l⟩:=hl i x v e1 e2 e3;refine⟨u,r,?_⟩;rcases l with l | ⟨k,c,e,z⟩
  .exact .inl l
  .exact .inr ⟨k,c,e,cellK x c e _ z⟩
 .obtain⟨v,z⟩:=I.cell x c e;exact⟨v,cellK x c e v z⟩
 .obtain⟨m,⟨o,_,_,ho,_⟩,_⟩:=I.loc;exact free _ o (fun z=>(Jx _ z).2.1 rfl) ho I.free
 .obtain⟨v,o,ho,hd⟩:=I.cell x c e;exact free c o (fun z=>(Jx c z).2.2.1 x c e rfl) ho (I.freeC x c e)
 .obtain⟨e,n,ne,nf,d⟩:=I.pin p hp;have nch:p.1 ∉ ch:=fun z=>(Jx p.1 z).2.2.2 p hp rfl
  exact⟨keep p.1 p.2 ne nf nch e n,free p.1 p.2 nch e n,ne,nf,d⟩
theorem Inv.un{t':Nat}(I:Inv X pins σ H s)(u:Un X.fs [] H H' s.heap h')(hok:pN X.prog X.w H' h'):Inv X pins σ H' {s with heap:=h',toks:=t'}:=by
 obtain⟨m,⟨o,es,ep,ho,r⟩,_⟩:=id I.loc;obtain⟨sl,hL⟩:=u.any ho I.free (by simp)
 exact I.step (g':=s.gens) (d':=s.drawn) (ch:=[]) (fun _ z=>nomatch z) (fun b o _ hb _ e n=>u.keep b o e n hb (by simp)) (fun b o _ hb _ e n=>u.slot b o e n hb (by simp)) (fun b o _ e n=>u.free b o e n (by simp)) (fun b o _ e=>u.there b o e (by simp)) u.tups u.frzs u.tbls (fun m' hm=>by
  obtain⟨o',Ue,Q8,FW,r'⟩:=hm;rw[ho] at FW;cases FW;exact⟨_,Ue,Q8,hL,r'⟩) hok I.bare
theorem Inv.call{g':Array GenState}{t':Nat}{d':Drawn}{ch:List Addr}(I:Inv X pins σ H s)(u:Un (F9 X.stack) ch H H' s.heap h')(hok:pN X.prog X.w H' h')(hg:AllBare g')
 (Jx:∀b∈ch,(b∈X.ex\/X.s₀.heap.objs.size<=b)/\b≠X.env.locals/\(∀x c,X.env.cells.lookup x=some c->c≠b)/\∀p∈X.pn++pins,p.1≠b) :
 Inv X pins σ H' {s with heap:=h',gens:=g',drawn:=d',toks:=t'}:=by
 obtain⟨m,⟨o,es,ep,ho,r⟩,_⟩:=id I.loc;obtain⟨sl,hL⟩:=u.any ho I.free fun z=>(Jx _ z).2.1 rfl
 exact I.step (ch:=ch) Jx (fun b o hL hb hc e n=>u.keep b o e n (fun z=>(List.mem_cons.mp (I.CB b z)).elim hL hb) hc) (fun b o _ _ hc e n=>u.any e n hc) (fun b o hc e n=>u.free b o e n hc) (fun b o hc e=>u.there b o e hc) u.tups u.frzs u.tbls (fun m' hm=>by
  obtain⟨o',Ue,Q8,FW,r'⟩:=hm;rw[ho] at FW;cases FW;exact⟨_,Ue,Q8,hL,r'⟩) hok hg
theorem Inv.turned{t':Nat}{it:Addr}(I:Inv X pins σ H s)(k:∀b o,b≠it->s.heap.get? b=some o->h'.get? b=some o)(hn:H it=none)(hL:it≠X.env.locals)
 (h1:it∈X.ex\/X.s₀.heap.objs.size<=it) (h2:∀x c,X.env.cells.lookup x=some c->c≠it) (h3:∀p∈X.pn++pins,p.1≠it):Inv X pins σ H {s with heap:=h',toks:=t'}:=by
 have nit:∀b u,H b=some u->b≠it:=fun b u e z=>by rw[z,hn] at e;cases e
 refine I.step (g':=s.gens) (d':=s.drawn) (ch:=[it]) (fun b hb=>?_) (fun b o _ _ hc e _=>k b o (fun z=>hc (by simp [z])) e) (fun b o _ _ hc e _=>⟨o.slots,k b o (fun z=>hc (by simp [z])) e⟩) (fun _ _ _ _ n=>n)
  (fun b o hc e=>⟨o,k b o (fun z=>hc (by simp [z])) e⟩) (fun _ _ e=>e) (fun _ _ _ e=>e) (fun b ps e=>⟨#[],by rw[e];simp⟩) (fun m hm=>?_) (fun b u e=>?_) I.bare
 .have e:b=it:=by simpa using hb
  subst e;exact⟨h1,hL,h2,h3⟩
 .obtain⟨o,es,ep,ho,r⟩:=hm;exact⟨o,es,ep,k _ o (Ne.symm hL) ho,r⟩
 .refine(I.hok b u e).zx (fun c v hc q=>k c v ?_ q) (fun _ q=>q) fun _ _ q=>q
  rcases hc with z | z
  .rw [z];exact nit b u e
  .exact nit c _ z
theorem Inv.tok(I:Inv X pins σ H s)(t:Nat):Inv X pins σ H {s with toks:=t}:=I.un (h':=s.heap) (t':=t) Un.refl I.hok
theorem Inv.kept{t':Nat}(I:Inv X pins σ H s)(k:∀b u,s.heap.get? b=some u->h'.get? b=some u):Inv X pins σ H {s with heap:=h',toks:=t'}:=I.un (Un.kept k) (I.hok.kept k)
theorem Inv.laid{a:Addr}{o:HO}{t':Nat}(I:Inv X pins σ H s)(k:∀b u,s.heap.get? b=some u->h'.get? b=some u)(hp:s.heap.objs.size<=a)(new:dQ X.prog X.w (upd H a o) h' a o) :
 Inv X pins σ (upd H a o) {s with heap:=h',toks:=t'}:=I.un (Un.laid k hp (I.hok.fresh hp)) (I.hok.laid k hp new)
theorem Inv.write{x e:Addr}{o:HO}{t':Nat}(I:Inv X pins σ H s)(mu:Pz (H x))(he:e=x\/H e=some (.own x))(k:∀b u,b≠e->s.heap.get? b=some u->h'.get? b=some u)(JA:∃u,h'.get? e=some u)
 (new:dQ X.prog X.w (upd H x o) h' x o):Inv X pins σ (upd H x o) {s with heap:=h',toks:=t'}:=I.un (Un.write mu he k JA) (I.hok.write mu he k JA new)
theorem Inv.Eh{Mj:List (Addr × Obj)}(I:Inv X pins σ H s)(h:∀p∈Mj,s.heap.get? p.1=some p.2/\H p.1=none/\p.1≠X.env.locals/\p.1 ∉ X.fs/\∀v,p.2.data≠ .cell v):Inv X Mj σ H s:=
 ⟨I.ok,I.os,I.bare,I.base,I.loc,I.cell,I.free,I.freeC,fun p hp=>(List.mem_append.mp hp).elim (fun z=>I.pin p (List.mem_append_left _ z)) (h p),I.hok,I.len⟩
theorem zX{N:List Str}(hN:N.Nodup){i j:Nat}(a:N[i]? =some x)(b:N[j]? =some x):i=j:=by
 obtain⟨h1,e1⟩:=List.getElem?_eq_some_iff.mp a;obtain⟨h2,e2⟩:=List.getElem?_eq_some_iff.mp b;exact(List.getElem_inj hN).mp (e1.trans e2.symm)
theorem yC{M:Model}{A:Around}{E:Value->Shared->Prop}{i:Nat}{x:Str}{v:V}{u:Value}{Q:Unit->Shared->Prop}(I:Inv X pins σ H s)(hN:X.N.Nodup)(hi:X.N[i]? =some x)(hx:Loc X.env.scope x)(r:RelV v u)
 (h:∀s',Inv X pins (σ.set i (some v)) H s'->(∃a,Heap.SameBut a s.heap s'.heap/\(a=X.env.locals\/X.env.cells.lookup x=some a))->Q () s') (hf:X.fn x=true\/X.env.scope.names.lookup x=some .local:=by first | exact .inl rfl | exact .inr rfl | assumption):wpAny M A (storeName X.env x u) Q E s:=by
 obtain⟨m,hn,hl⟩:=id I.loc;have hcls:(X.env.scope.kind== .class || (X.env.scope.kind== .module && X.env.locals !=X.env.globals))=false:=by rw[I.ok.kind];rfl
 have hiσ:i < σ.length:=by rw[I.len];exact(List.getElem?_eq_some_iff.mp hi).1
 have NU:=I.NU;have tracked:∀{a:Addr} {h':Heap},(∃o,s.heap.get? a=some o/\H a=none)->Heap.SameBut a s.heap h'->pN X.prog X.w H h':=fun {a h'} ha hs b ob e=>by
  obtain⟨_,_,hfree⟩:=ha;refine(I.hok b ob e).zx (fun c w' hc q=>(hs.2 c ?_).trans q) (fun _ q=>q) fun _ _ q=>q
  rintro rfl;rcases hc with rfl | hc
  .rw [hfree] at e;cases e
  .rw [hfree] at hc;cases hc
 rcases hx with hk | hk
 .refine wpAny_storeName_local hk hn (fun h' OH hs=>?_) hcls
  obtain⟨oL,_,_,hoL,_⟩:=id hn;refine h _ ⟨I.ok,I.os,I.bare,⟨fun b o e n hb hx=>?_,fun b o e n hb hx=>?_,I.base.free,fun b o e hx=>?_,I.base.tups,I.base.frzs,I.base.tbls⟩,⟨_,OH,fun j y v' e1 e2 e3=>?_⟩,fun y c e=>?_,I.free,I.freeC,fun p hp=>?_,tracked ⟨oL,hoL,I.free⟩ hs,by simpa using I.len⟩ ⟨_,hs, .inl rfl⟩
  .exact(hs.2 b (Nat.ne_of_lt (Nat.lt_of_lt_of_le (Heap.lt_size e) I.ok.above))).trans (I.base.keep b o e n hb hx)
  .obtain⟨sl,e1⟩:=I.base.slot b o e n hb hx;exact⟨sl,(hs.2 b (Nat.ne_of_lt (Nat.lt_of_lt_of_le (Heap.lt_size e) I.ok.above))).trans e1⟩
  .obtain⟨o',e1⟩:=I.base.there b o e hx;exact⟨o',(hs.2 b (Nat.ne_of_lt (Nat.lt_of_lt_of_le (Heap.lt_size e) I.ok.above))).trans e1⟩
  .by_cases hj:j=i
   .subst hj;rw[hi] at e1;cases e1;rw[List.getElem?_set_self hiσ] at e2;cases e2;exact⟨u,r, .inl ⟨hk,by simp⟩⟩
   .rw [List.getElem?_set_ne (Ne.symm hj)] at e2;obtain⟨u',r',q⟩:=hl j y v' e1 e2 e3;refine⟨u',r',?_⟩;rcases q with⟨k,e⟩ | ⟨k,c,e,z⟩
    .refine .inl ⟨k,?_⟩;have:y≠x:=fun e=>hj (zX hN e1 (e▸hi))
     simp [this,e]
    .exact .inr ⟨k,c,e,z.sameBut hs (NU y c e)⟩
  .obtain⟨w',z⟩:=I.cell y c e;exact⟨w',z.sameBut hs (NU y c e)⟩
  .obtain⟨e,n,ne,nf,d⟩:=I.pin p hp;exact⟨(hs.2 p.1 ne).trans e,n,ne,nf,d⟩
 .have hfn:X.fn x=true:=by
   rcases hf with z | z
   .exact z
   .rw [z] at hk;cases hk
  obtain⟨c,hc⟩:=I.ok.has x (.inl hk);obtain⟨w',z⟩:=I.cell x c hc;refine wpAny_storeName_cell I.ok.kind hk hc z (fun h' Gd hs=>?_)
  obtain⟨oc,hoc,hocd⟩:=id z;refine h {s with heap:=h'} ⟨I.ok,I.os,I.bare,⟨fun b o e n hb hx=>?_,fun b o e n hb hx=>?_,I.base.free,fun b o e hx=>?_,I.base.tups,I.base.frzs,I.base.tbls⟩,⟨m,hn.sameBut hs (Ne.symm (NU x c hc)),fun j y v' e1 e2 e3=>?_⟩,fun y c' e=>?_,I.free,I.freeC,fun p hp=>?_,tracked ⟨oc,hoc,I.freeC x c hc⟩ hs,by simpa using I.len⟩ ⟨c,hs, .inr hc⟩
  .exact(hs.2 b (Nat.ne_of_lt (Nat.lt_of_lt_of_le (Heap.lt_size e) (I.ok.cab x c hfn hc)))).trans (I.base.keep b o e n hb hx)
  .obtain⟨sl,e1⟩:=I.base.slot b o e n hb hx;exact⟨sl,(hs.2 b (Nat.ne_of_lt (Nat.lt_of_lt_of_le (Heap.lt_size e) (I.ok.cab x c hfn hc)))).trans e1⟩
  .obtain⟨o',e1⟩:=I.base.there b o e hx;exact⟨o',(hs.2 b (Nat.ne_of_lt (Nat.lt_of_lt_of_le (Heap.lt_size e) (I.ok.cab x c hfn hc)))).trans e1⟩
  .by_cases hj:j=i
   .subst hj;rw[hi] at e1;cases e1;rw[List.getElem?_set_self hiσ] at e2;cases e2;exact⟨u,r, .inr ⟨.inl hk,c,hc,Gd⟩⟩
   .rw [List.getElem?_set_ne (Ne.symm hj)] at e2;obtain⟨u',r',q⟩:=hl j y v' e1 e2 e3;refine⟨u',r',?_⟩;rcases q with q | ⟨k,c',e,z'⟩
    .exact .inl q
    .refine .inr ⟨k,c',e,z'.sameBut hs ?_⟩;rintro rfl;exact hj (zX hN e1 (I.ok.inj _ _ _ e hc▸hi))
  .by_cases hcc:c'=c
   .subst hcc;exact⟨_,Gd⟩
   .obtain⟨w2,z2⟩:=I.cell y c' e;exact⟨w2,z2.sameBut hs hcc⟩
  .obtain⟨e,n,ne,nf,d⟩:=I.pin p hp;refine⟨(hs.2 p.1 ?_).trans e,n,ne,nf,d⟩;intro q;rw[q,hoc] at e;have q':oc=p.2:=Option.some.inj e;exact d w' (by rw[<-q'];exact hocd)
theorem Ax{M:Model}{A:Around}{E:Value->Shared->Prop}{i:Nat}{x:Str}{v:V}{u:Value}{Q:Unit->Shared->Prop}(I:Inv X pins σ H s)(hN:X.N.Nodup)(hi:X.N[i]? =some x)(hx:Loc X.env.scope x)(r:RelV v u)
 (h:∀s',Inv X pins (σ.set i (some v)) H s'->Q () s') (hf:X.fn x=true\/X.env.scope.names.lookup x=some .local:=by first | exact .inl rfl | exact .inr rfl | assumption):wpAny M A (storeName X.env x u) Q E s:=
 yC I hN hi hx r (fun s' I' _=>h s' I') hf
theorem Inv.QH{s':Shared}{ch:List Addr}(I:Inv X pins σ H s)(ho:s'.os=s.os)(u:Un (F9 X.stack) ch H H' s.heap s'.heap)(hok:pN X.prog X.w H' s'.heap)(hg:AllBare s'.gens)
 (Jx:∀b∈ch,(b∈X.ex\/X.s₀.heap.objs.size<=b)/\b≠X.env.locals/\(∀x c,X.env.cells.lookup x=some c->c≠b)/\∀p∈X.pn++pins,p.1≠b):Inv X pins σ H' s':=by
 obtain⟨h',g',d',t',o'⟩:=s';have e:o'=s.os:=ho;subst e;exact I.call (g':=g') (t':=t') (d':=d') u hok hg Jx
end
abbrev XK:=Value->Option Addr->Hp->Prop
abbrev St:=List (Option V)
abbrev VK:=V->Hp->Prop
abbrev TE:=St->Hp->VK->Prop
abbrev TT:=St->Hp->(Bool->Hp->Prop)->Prop
abbrev TA:=St->Hp->(List V->Hp->Prop)->Prop
structure Ends where
 nx:St->Hp->Prop
 rt:VK
 bk:St->Hp->Prop:=fun _ _=>False
 ct:St->Hp->Prop:=fun _ _=>False
abbrev TS:=Ends->St->Hp->Prop
def EP(X:Cx)(pins:List (Addr × Obj))(σ:St)(Q:VK)(u:Value)(s':Shared):Prop:=∃v H',Inv X pins σ H' s'/\RelV v u/\Q v H'
def TP(X:Cx)(pins:List (Addr × Obj))(σ:St)(Q:Bool->Hp->Prop)(b:Bool)(s':Shared):Prop:=∃H',Inv X pins σ H' s'/\Q b H'
def AP(X:Cx)(pins:List (Addr × Obj))(σ:St)(Q:List V->Hp->Prop)(us:List Value)(s':Shared):Prop:=∃vs H',Inv X pins σ H' s'/\Vals vs us/\Q vs H'
def SP(X:Cx)(pins:List (Addr × Obj))(D:Ends)(f:Flow)(s':Shared):Prop:=
 match f with
 | .next=>∃c0 H',Inv X pins c0 H' s'/\D.nx c0 H'
 | .brk=>∃c0 H',Inv X pins c0 H' s'/\D.bk c0 H'
 | .cont=>∃c0 H',Inv X pins c0 H' s'/\D.ct c0 H'
 | .ret u=>∃v c0 H',Inv X pins c0 H' s'/\RelV v u/\D.rt v H'
def PE(X:Cx)(e:Expr)(t:TE):Prop:=
 ∀(pins:List (Addr × Obj)) (s:Shared) (σ:St) (H:Hp) (Q:VK),Inv X pins σ H s->t σ H Q->wpAny (model X.prog X.w) X.A (eval e X.env) (EP X pins σ Q) X.xe s
def PT(X:Cx)(e:Expr)(t:TT):Prop:=
 ∀(pins:List (Addr × Obj)) (s:Shared) (σ:St) (H:Hp) (Q:Bool->Hp->Prop),Inv X pins σ H s->t σ H Q->wpAny (model X.prog X.w) X.A (isTrue e X.env (eval e X.env)) (TP X pins σ Q) X.xe s
def PW(X:Cx)(e:Expr)(t:TT):Prop:=
 ∀(whole:Sem Value) (pins:List (Addr × Obj)) (s:Shared) (σ:St) (H:Hp) (Q:Bool->Hp->Prop),Inv X pins σ H s->t σ H Q->wpAny (model X.prog X.w) X.A (isTrue e X.env whole) (TP X pins σ Q) X.xe s
theorem PW.pt{X:Cx}{t:TT}(h:PW X e t):PT X e t:=h _
def PA(X:Cx)(es:List Expr)(t:TA):Prop:=
 ∀(pos:Pos) (pins:List (Addr × Obj)) (s:Shared) (σ:St) (H:Hp) (Q:List V->Hp->Prop),Inv X pins σ H s->t σ H Q->wpAny (model X.prog X.w) X.A (spliced (backTo pos (starEach es X.env))) (AP X pins σ Q) X.xe s
def PS(X:Cx)(st:Stmt)(t:TS):Prop:=
 ∀(pins:List (Addr × Obj)) (s:Shared) (σ:St) (H:Hp) (D:Ends),Inv X pins σ H s->t D σ H->wpAny (model X.prog X.w) X.A (exec st X.env) (SP X pins D) X.xe s
def y7(X:Cx)(st:List Stmt)(t:TS):Prop:=
 ∀(pins:List (Addr × Obj)) (s:Shared) (σ:St) (H:Hp) (D:Ends),Inv X pins σ H s->t D σ H->wpAny (model X.prog X.w) X.A (execs st X.env) (SP X pins D) X.xe s
theorem dR{α:Type}{t:Sem α}{Q Q':α->Shared->Prop}{M:Model}{s:Shared}(h:wpAny M A t Q E s)(hQ:∀a s,Q a s->Q' a s):wpAny M A t Q' E s:=wpAny_mono h hQ fun _ _ x=>x
section
variable {X:Cx}
def Sy(i:Nat):TE:=fun σ H Q=>∃v,σ[i]? =some (some v)/\Q v H
def tC(v:V):TE:=fun _ H Q=>Q v H
theorem sU{i:Nat}{pos:Pos}(hN:X.N[i]? =some x)(hv:Hz X.env.scope x)(hd:(x==("__debug__":Str))=false:=by decide)(tI:(x==("__classdict__":Str))=false:=by decide):PE X (.Name x pos) (Sy i):=by
 intro pins s σ H Q I h;obtain⟨v,e,h⟩:=h;obtain⟨m,hn,hl⟩:=I.loc;obtain⟨u,r,l⟩:=hl i x v hN e hv;have fin:EP X pins σ Q u s:=⟨v,H,I,r,h⟩;rcases l with⟨hk,hm⟩ | ⟨hk,c,hc,hcell⟩
 .exact wpAny_Name (wpAny_loadName_local I.ok.kind hk hn hm fin) hd
 .rcases hk with hk | hk
  .exact wpAny_Name (wpAny_loadName_cell I.ok.kind hk hc hcell fin) hd
  .exact wpAny_Name (wpAny_loadName_free I.ok.kind hk hc hcell fin tI) hd
theorem vF{i j pos}:PE X (.Constant (.int i) j pos) (tC (.int i)):=fun _ _ _ H _ I h=>wpAny_Constant_int ⟨.int i,H,I.tok _,⟨_,rfl⟩,h⟩
theorem P6{b j pos}:PE X (.Constant (.bool b) j pos) (tC (.bl b)):=fun _ _ _ H _ I h=>Constant_bool ⟨.bl b,H,I,rfl,h⟩
theorem Oi{j pos}:PE X (.Constant .none j pos) (tC .cK):=fun _ _ _ H _ I h=>Constant_none ⟨.cK,H,I,rfl,h⟩
theorem wb{x j pos}:PE X (.Constant (.str x) j pos) (tC (.str x)):=fun _ _ _ H _ I h=>Calls.Constant_str ⟨.str x,H,I.tok _,⟨_,rfl⟩,h⟩
def Gl(X:Cx)(x:Str):Prop:=X.env.kindOf x=some .globalImplicit
theorem DS{E:Value->Shared->Prop}{pins:List (Addr × Obj)}{s:Shared}{σ:St}{H:Hp}{x:Str}{u:Value}{pos:Pos}{Q:Value->Shared->Prop}(I:Inv X pins σ H s)(hg:Gl X x)(hm:X.mg x=some u)(h:Q u s)
 (hd:(x==("__debug__":Str))=false:=by decide):wpAny (model X.prog X.w) X.A (eval (.Name x pos) X.env) Q E s:=
 Calls.Name_function_global I.ok.kind hg (Calls.loadGlobal_global (by rw[I.ok.glob];exact I.mod.glob.keeps I.bk) hm h) hd
theorem nA{E:Value->Shared->Prop}{pins:List (Addr × Obj)}{s:Shared}{σ:St}{H:Hp}{x:Str}{u:Value}{pos:Pos}{Q:Value->Shared->Prop}(I:Inv X pins σ H s)(hg:Gl X x)(hm:X.mg x=none)(hv:bootBuiltins x=some u)(h:Q u s)
 (hn:x≠"__name__":=by decide) (hd:(x==("__debug__":Str))=false:=by decide):wpAny (model X.prog X.w) X.A (eval (.Name x pos) X.env) Q E s:=by
 obtain⟨mb,h1,h2⟩:=I.mod.blt;exact Calls.Name_function_global I.ok.kind hg (Calls.loadGlobal_builtin (by rw[I.ok.glob];exact I.mod.glob.keeps I.bk) hm (by rw[I.ok.blt];exact h1.keeps I.bk) ((h2 x hn).trans hv) h) hd
theorem J0{v:V}{u:Value}{pos:Pos}(hg:Gl X x)(hm:X.mg x=none)(hv:bootBuiltins x=some u)(r:RelV v u)(hn:x≠"__name__":=by decide)(hd:(x==("__debug__":Str))=false:=by decide):PE X (.Name x pos) (tC v):=
 fun _ _ _ H _ I h=>nA I hg hm hv ⟨v,H,I,r,h⟩ hn hd
def RD(ta tb:TE)(k:Int->Int->Hp->Prop):St->Hp->Prop:=fun σ H=>ta σ H fun x H1=>tb σ H1 fun y H2=>∃i j,x= .int i/\y= .int j/\k i j H2
def VW(ta tb:TE):TE:=fun σ H Q=>RD ta tb (fun i j H2=>Q (.int (i+j)) H2) σ H
def Wo(ta tb:TE):TE:=fun σ H Q=>RD ta tb (fun i j H2=>Q (.int (i - j)) H2) σ H
def V0(ta tb:TE):TE:=fun σ H Q=>RD ta tb (fun i j H2=>(-(2 ^ 64) < i/\i < 2 ^ 64)/\Q (.int (i*j)) H2) σ H
variable {a b:Expr} {ta tb:TE} {pos:Pos}
def PC(X:Cx)(op:CmpOp)(a b:Expr)(t:TE):Prop:=
 ∀(pins:List (Addr × Obj)) (s:Shared) (σ:St) (H:Hp) (Q:VK),Inv X pins σ H s->t σ H Q->
  wpAny (model X.prog X.w) X.A (eval a X.env) (fun v s₁=>wpAny (model X.prog X.w) X.A (eval b X.env) (fun u ON=>wpAny (model X.prog X.w) X.A (compareOp op v u) (EP X pins σ Q) X.xe ON) X.xe s₁) X.xe s
def Fb(p:Int->Int->Bool)(ta tb:TE):TE:=fun σ H Q=>RD ta tb (fun i j H2=>Q (.bl (p i j)) H2) σ H
abbrev Yr:TE->TE->TE:=Fb fun i j=>decide (i < j)
abbrev YA:TE->TE->TE:=Fb fun i j=>decide (i<=j)
abbrev YB:TE->TE->TE:=Fb fun i j=>decide (j < i)
abbrev YG:TE->TE->TE:=Fb fun i j=>decide (j<=i)
abbrev VY:TE->TE->TE:=Fb fun i j=>decide (i=j)
abbrev Wl:TE->TE->TE:=Fb fun i j=>!decide (i=j)
def Wm(ta:TE):TE:=fun σ H Q=>ta σ H fun x H1=>Q (.bl (decide (x= .cK))) H1
def Vi(ta:TE):TE:=fun σ H Q=>ta σ H fun x H1=>Q (.bl (!decide (x= .cK))) H1
def tB(t:TE):TT:=fun σ H Q=>t σ H fun x H1=>∃c,x= .bl c/\Q c H1
theorem Nr{op:CmpOp}{t:TE}(h:PC X op a b t)(h1:behindInMarks op b=false:=by first | exact nobehind _ (by decide) (by decide) | rfl):PE X (.Compare a [op] [b] pos) t:=fun pins s σ H Q I hw=>wpAny_Compare1 (h pins s σ H Q I hw) h1
variable {tA RI:TT} {rest:List Expr}
def Tq(t u:TT):TT:=fun σ H Q=>t σ H fun c H1=>if c=true then u σ H1 Q else Q false H1
def WR(t u:TT):TT:=fun σ H Q=>t σ H fun c H1=>if c=true then Q true H1 else u σ H1 Q
def Tf(t:TT):TT:=fun σ H Q=>t σ H fun c H1=>Q (!c) H1
theorem K9(ha:PT X a tA):PW X (.BoolOp .And [a] pos) tA:=by
 intro wh pins s σ H Q I h;refine isTrue_and (dR (ha pins s σ H Q I h) fun c s1 e=>?_)
 cases c with
 | true=>exact isTrue_and_nil e
 | false=>exact e
theorem Ni(ha:PT X a tA):PW X (.BoolOp .Or [a] pos) tA:=by
 intro wh pins s σ H Q I h;refine isTrue_or (dR (ha pins s σ H Q I h) fun c s1 e=>?_)
 cases c with
 | false=>exact isTrue_or_nil e
 | true=>exact e
theorem MD(ha:PT X a tA)(hb:PW X (.BoolOp .And (b ::rest) pos) RI):PW X (.BoolOp .And (a ::b ::rest) pos) (Tq tA RI):=by
 intro wh pins s σ H Q I h;refine isTrue_and (dR (ha pins s σ H _ I h) fun c s1 ⟨H1,I1,q1⟩=>?_)
 cases c with
 | true=>exact hb wh pins s1 σ H1 Q I1 q1
 | false=>exact⟨H1,I1,q1⟩
theorem Qh(ha:PT X a tA)(hb:PW X (.BoolOp .Or (b ::rest) pos) RI):PW X (.BoolOp .Or (a ::b ::rest) pos) (WR tA RI):=by
 intro wh pins s σ H Q I h;refine isTrue_or (dR (ha pins s σ H _ I h) fun c s1 ⟨H1,I1,q1⟩=>?_)
 cases c with
 | true=>exact⟨H1,I1,q1⟩
 | false=>exact hb wh pins s1 σ H1 Q I1 q1
theorem IW(ha:PT X a tA):PT X (.UnaryOp .Not a pos) (Tf tA):=by
 intro pins s σ H Q I h;exact isTrue_not (ha pins s σ H (fun c H1=>Q (!c) H1) I h)
def Pp(ta tb:TE):TE:=fun σ H Q=>ta σ H fun x H1=>∃c,x= .bl c/\if c=true then tb σ H1 Q else Q (.bl false) H1
def VQ(ta tb:TE):TE:=fun σ H Q=>ta σ H fun x H1=>∃c,x= .bl c/\if c=true then Q (.bl true) H1 else tb σ H1 Q
def Vt(ta:TE):TE:=fun σ H Q=>ta σ H fun x H1=>∃c,x= .bl c/\Q (.bl (!c)) H1
theorem MQ{op}{t:TE}(h:PE X a t):PE X (.BoolOp op [a] pos) t:=fun pins s σ H Q I hw=>BoolOp_one (h pins s σ H Q I hw)
theorem Mq(ha:PE X a ta)(hb:PE X (.BoolOp .And (b ::rest) pos) tb):PE X (.BoolOp .And (a ::b ::rest) pos) (Pp ta tb):=by
 intro pins s σ H Q I h;refine BoolOp_and (dR (ha pins s σ H _ I h) fun v s1 ⟨x,H1,I1,r1,q1⟩=>?_)
 obtain⟨c,rfl,q1⟩:=q1;cases r1;refine wpAny_truthy_bool ?_;cases c with
 | true=>exact hb pins s1 σ H1 Q I1 q1
 | false=>exact⟨.bl false,H1,I1,rfl,q1⟩
def WK(t:TT)(ta tb:TE):TE:=fun σ H Q=>t σ H fun c H1=>if c=true then ta σ H1 Q else tb σ H1 Q
theorem IF(hc:PT X c tA)(ha:PE X a ta)(hb:PE X b tb):PE X (.IfExp c a b pos) (WK tA ta tb):=by
 intro pins s σ H Q I h;refine wpAny_IfExp (dR (hc pins s σ H _ I h) fun d s1 ⟨H1,I1,q1⟩=>?_)
 cases d with
 | true=>exact ha pins s1 σ H1 Q I1 q1
 | false=>exact hb pins s1 σ H1 Q I1 q1
end
def pV(K:W.Frag)(H:Hp)(a:Addr)(xs:List V):Prop:=
 Rd H a (.lst xs)\/
  ∃(o:Obj) (its:Array Value) (n:Nat),K.lookup a=some o/\o.cls= .type "list"/\o.dict=none/\o.data= .seq its n/\its.size<=sizeLine/\Vals xs its.toList
def ud(K:W.Frag)(H:Hp)(a:Addr)(xs:List V):Prop:=
 Rd H a (.tup xs)\/
  ∃(o:Obj) (its:Array Value) (n:Nat),K.lookup a=some o/\o.cls= .type "tuple"/\o.data= .seq its n/\its.size<=sizeLine/\Vals xs its.toList
def SX:Value->Option V
 | .none=>some .cK
 | .bool b=>some (.bl b)
 | .int i _=>some (.int i)
 | .str x _=>some (.str x)
 | .bytes b _=>some (.byt b)
 | .float b _=>some (.flt b)
 | .ref a=>some (.ref a)
 | .type n=>some (.ty n)
 | _=>none
theorem RelV.abs{x:V}{u:Value}(r:RelV x u):SX u=some x:=by
 cases x with
 | cK=>cases r;rfl
 | bl _=>cases r;rfl
 | int _=>obtain⟨t,rfl⟩:=r;rfl
 | str _=>obtain⟨t,rfl⟩:=r;rfl
 | byt _=>obtain⟨t,rfl⟩:=r;rfl
 | flt _=>obtain⟨t,rfl⟩:=r;rfl
 | ref _=>cases r;rfl
 | ty _=>cases r;rfl
theorem RelV.inj{x y:V}{u:Value}(r:RelV x u)(q:RelV y u):x=y:=Option.some.inj (r.abs.symm.trans q.abs)
theorem Vals.inj:∀{xs ys:List V} {us:List Value},Vals xs us->Vals ys us->xs=ys
 | _,_,_, .nil, .nil=>rfl
 | _,_,_, .cons r t, .cons r' t'=>by rw[r.inj r',Vals.inj t t']
section
variable {X:Cx} {pins:List (Addr × Obj)} {σ:St} {H:Hp} {s:Shared} {a:Addr} {xs ys:List V}
theorem pV.of{K:W.Frag}(h:H a=some (.lst xs)):pV K H a xs:= .inl (.inl h)
theorem Inv.list(I:Inv X pins σ H s)(h:pV X.K H a xs):∃its:List Value,Vals xs its/\PlainL s.heap a its.toArray/\xs.length<=sizeLine:=by
 rcases h with h | ⟨o,its,n,hk,hc,hd,hs,hz,r⟩
 .obtain⟨z,its,n,r,e⟩:=h.ok I.hok;exact⟨its,r,⟨_,n,e,rfl,rfl,rfl⟩,z⟩
 .refine⟨its.toList,r,⟨o,n,I.sk a o hk,hc,hd,by simpa using hs⟩,?_⟩
  have e:=r.length;simp only[Array.length_toList] at e;omega
theorem Inv.tuple(I:Inv X pins σ H s)(h:ud X.K H a xs):∃its:List Value,Vals xs its/\IsTup s.heap a its.toArray/\xs.length<=sizeLine:=by
 rcases h with h | ⟨o,its,n,hk,hc,hs,hz,r⟩
 .obtain⟨z,its,r,p⟩:=h.ok I.hok;exact⟨its,r,p,z⟩
 .refine⟨its.toList,r,⟨o,I.sk a o hk,hc,n,by simpa using hs⟩,?_⟩
  have e:=r.length;simp only[Array.length_toList] at e;omega
theorem Inv.q9(I:Inv X pins σ H s)(h:pV X.K H a xs)(h':pV X.K H a ys):xs=ys:=by
 obtain⟨its,r,⟨o,n,e,_,_,d⟩,_⟩:=I.list h;obtain⟨its',r',⟨o',n',e',_,_,d'⟩,_⟩:=I.list h';rw[e] at e';cases e';rw[d] at d';injection d' with d1 _
 have:its=its':=by simpa using congrArg Array.toList d1
 subst this;exact r.inj r'
theorem Inv.sG(I:Inv X pins σ H s)(h:ud X.K H a xs)(h':ud X.K H a ys):xs=ys:=by
 obtain⟨its,r,⟨o,e,_,n,d⟩,_⟩:=I.tuple h;obtain⟨its',r',⟨o',e',_,n',d'⟩,_⟩:=I.tuple h';rw[e] at e';cases e';rw[d] at d';injection d' with d1 _
 have:its=its':=by simpa using congrArg Array.toList d1
 subst this;exact r.inj r'
end
abbrev Cx.xO(X:Cx)(E:Value->Shared->Prop):Cx:={X with xe:=E}
abbrev Cx.Li(X:Cx):Cx:=X.xO fun _ _=>False
theorem Cx.Ok.xO{X:Cx}(ok:X.Ok)(E:Value->Shared->Prop):(X.xO E).Ok:=
 ⟨ok.mod,ok.kind,ok.glob,ok.blt,ok.above,ok.inj,ok.has,ok.cab,ok.hd,ok.frames,ok.stk,ok.exf,ok.bs,ok.bsz,ok.noex,ok.exfs,ok.uY,ok.frf⟩
theorem Cx.Ok.o3{X:Cx}(ok:(X.xO E).Ok):X.Ok:=
 ⟨ok.mod,ok.kind,ok.glob,ok.blt,ok.above,ok.inj,ok.has,ok.cab,ok.hd,ok.frames,ok.stk,ok.exf,ok.bs,ok.bsz,ok.noex,ok.exfs,ok.uY,ok.frf⟩
section
variable {X:Cx} {pins:List (Addr × Obj)} {σ:St} {H:Hp} {s:Shared} {E:Value->Shared->Prop}
theorem Inv.xO(I:Inv X pins σ H s)(E:Value->Shared->Prop):Inv (X.xO E) pins σ H s:=⟨I.ok.xO E,I.os,I.bare,I.base,I.loc,I.cell,I.free,I.freeC,I.pin,I.hok,I.len⟩
theorem Inv.o3(I:Inv (X.xO E) pins σ H s):Inv X pins σ H s:=⟨I.ok.o3,I.os,I.bare,I.base,I.loc,I.cell,I.free,I.freeC,I.pin,I.hok,I.len⟩
theorem SP.o3{D:Ends}{f:Flow}{s':Shared}(h:SP (X.xO E) pins D f s'):SP X pins D f s':=by
 cases f with
 | next=>obtain⟨c0,H',I,q⟩:=h;exact⟨c0,H',I.o3,q⟩
 | brk=>obtain⟨c0,H',I,q⟩:=h;exact⟨c0,H',I.o3,q⟩
 | cont=>obtain⟨c0,H',I,q⟩:=h;exact⟨c0,H',I.o3,q⟩
 | ret u=>obtain⟨v,c0,H',I,r,q⟩:=h;exact⟨v,c0,H',I.o3,r,q⟩
theorem y7.Li{st:List Stmt}{t:TS}(h:y7 X.Li st t):y7 X st t:=fun pins s σ H D I hw=>
 wpAny_mono (h pins s σ H D (I.xO _) hw) (fun _ _ q=>q.o3) fun _ _ z=>False.elim z
end
section
variable {X:Cx} {st:Stmt} {rest:List Stmt} {t u:TS} {e:Expr} {te:TE} {pos:Pos}
def QC:TS:=fun D σ H=>D.nx σ H
def P_(t u:TS):TS:=fun D σ H=>t {D with nx:=u D} σ H
theorem zh:y7 X [] QC:=fun _ _ σ H _ I h=>wpAny_execs_nil ⟨σ,H,I,h⟩
theorem vG(h1:PS X st t)(h2:y7 X rest u):y7 X (st ::rest) (P_ t u):=by
 intro pins s σ H D I h;refine wpAny_execs_cons (dR (h1 pins s σ H {D with nx:=u D} I h) fun f s1 q=>?_)
 cases f with
 | next=>
   obtain⟨c0,H',I',q⟩:=q;exact h2 pins s1 c0 H' D I' q
 | ret v=>exact q
 | brk=>exact q
 | cont=>exact q
theorem yX(h1:PS X st t):y7 X [st] t:=by
 intro pins s σ H D I h;refine wpAny_execs_cons (dR (h1 pins s σ H D I h) fun f s1 q=>?_)
 cases f with
 | next=>exact wpAny_execs_nil q
 | ret v=>exact q
 | brk=>exact q
 | cont=>exact q
def R1:TS:=fun D σ H=>D.bk σ H
def Qe:TS:=fun D σ H=>D.ct σ H
theorem AY:PS X (.Continue pos) Qe:=fun _ _ σ H _ I h=>wpAny_Continue ⟨σ,H,I,h⟩
theorem Inv.quiet{pins:List (Addr × Obj)}{s:Shared}(I:Inv X pins σ H s):interactive X.env=false:=by simp [interactive,I.ok.kind]
def PM(te:TE):TS:=fun D σ H=>te σ H fun _ H1=>D.nx σ H1
theorem vg(he:PE X e te)(hs:swapsWith e none pos.line X.env=pure false:=by rfl):PS X (.Expr e pos) (PM te):=by
 intro pins s σ H D I h;exact wpAny_Expr_any (dR (he pins s σ H _ I h) fun v s1 ⟨x,H1,I1,r1,q1⟩=>⟨σ,H1,I1,q1⟩) I.quiet hs
def R8(te:TE):TS:=fun D σ H=>te σ H D.rt
theorem Ht(he:PE X e te):PS X (.Return (some e) pos) (R8 te):=by
 intro pins s σ H D I h;exact wpAny_Return_some (dR (he pins s σ H _ I h) fun v s1 ⟨x,H1,I1,r1,q1⟩=>⟨x,σ,H1,I1,r1,q1⟩)
def Vp:TS:=fun D _ H=>D.rt .cK H
def Tb(c:TT)(t u:TS):TS:=fun D σ H=>c σ H fun b H1=>if b=true then t D σ H1 else u D σ H1
theorem GH{tc:TT}(hc:PT X c tc)(ha:y7 X a t)(hb:y7 X b u):PS X (.If c a b pos) (Tb tc t u):=by
 intro pins s σ H D I h;refine wpAny_If (dR (hc pins s σ H _ I h) fun d s1 ⟨H1,I1,q1⟩=>?_)
 cases d with
 | true=>exact ha pins s1 σ H1 D I1 q1
 | false=>exact hb pins s1 σ H1 D I1 q1
def Th:TS:=fun _ _ _=>False
end
abbrev TG:=V->St->Hp->(St->Hp->Prop)->Prop
abbrev HV:=List V->St->Hp->(St->Hp->Prop)->Prop
def PG(X:Cx)(target:Expr)(t:TG):Prop:=
 ∀(pins:List (Addr × Obj)) (s:Shared) (σ:St) (H:Hp) (v:V) (u:Value) (Q:St->Hp->Prop),Inv X pins σ H s->RelV v u->t v σ H Q->
  wpAny (model X.prog X.w) X.A (assign target X.env u) (fun _ s'=>∃c0 H',Inv X pins c0 H' s'/\Q c0 H') X.xe s
def Kh(X:Cx)(ts:List Expr)(t:HV):Prop:=
 ∀(pins:List (Addr × Obj)) (s:Shared) (σ:St) (H:Hp) (vs:List V) (us:List Value) (Q:St->Hp->Prop),Inv X pins σ H s->Vals vs us->t vs σ H Q->
  wpAny (model X.prog X.w) X.A (assignInOrder ((assignEach ts X.env).map (·.2)) us) (fun _ s'=>∃c0 H',Inv X pins c0 H' s'/\Q c0 H') X.xe s
abbrev Ko:=V->V->V->Hp->(Hp->Prop)->Prop
def Po(X:Cx)(t:Ko):Prop:=
 ∀(pins:List (Addr × Obj)) (s:Shared) (σ:St) (H:Hp) (o i v:V) (ov iv u:Value) (Q:Hp->Prop),Inv X pins σ H s->RelV o ov->RelV i iv->RelV v u->t o i v H Q->
  wpAny (model X.prog X.w) X.A (setItem ov iv u) (fun _ s'=>∃H',Inv X pins σ H' s'/\Q H') X.xe s
abbrev Rx:=V->V->Hp->VK->Prop
def Yv(X:Cx)(op:Operator)(t:Rx):Prop:=
 ∀(pins:List (Addr × Obj)) (s:Shared) (σ:St) (H:Hp) (x y:V) (v u:Value) (Q:VK),Inv X pins σ H s->RelV x v->RelV y u->t x y H Q->
  wpAny (model X.prog X.w) X.A (inplaceOp op v u) (EP X pins σ Q) X.xe s
section
variable {X:Cx} {pos:Pos}
def wK(i:Nat):TG:=fun v σ H Q=>Q (σ.set i (some v)) H
theorem DA{i:Nat}(hN:X.N.Nodup)(hi:X.N[i]? =some x)(hx:Loc X.env.scope x)(hf:X.fn x=true\/X.env.scope.names.lookup x=some .local:=by first | exact .inl rfl | exact .inr rfl | assumption):PG X (.Name x pos) (wK i):=by
 intro pins s σ H v u Q I r h;exact wpAny_assign_Name (Ax I hN hi hx r (fun s' I'=>⟨_,H,I',h⟩) hf)
def Sv:HV:=fun vs σ H Q=>vs=[]/\Q σ H
def P5(t:TG)(u:HV):HV:=fun vs σ H Q=>∃v r,vs=v ::r/\t v σ H fun c0 H'=>u r c0 H' Q
theorem Dn:Kh X [] Sv:=by
 intro pins s σ H vs us Q I r h;obtain⟨e,h⟩:=h;subst e;cases r;exact assignInOrder_nil ⟨σ,H,I,h⟩
theorem Ab{e:Expr}{es:List Expr}{t:TG}{u:HV}(h1:PG X e t)(h2:Kh X es u)
 (hs:(assignEach (e ::es) X.env).map (·.2)=assign e X.env ::(assignEach es X.env).map (·.2):=by rfl):Kh X (e ::es) (P5 t u):=by
 intro pins s σ H vs us Q I r h;obtain⟨v,vr,e1,h⟩:=h;subst e1;cases r with
 | cons r rr=>
   rw[hs];refine assignInOrder_cons (dR (h1 pins s σ H _ _ _ I r h) fun _ s1 ⟨Jw,H1,I1,q1⟩=>?_)
   exact h2 pins s1 Jw H1 _ _ Q I1 rr q1
def Tt(K:W.Frag)(n:Nat)(t:HV):TG:=fun v σ H Q=>∃a xs,v= .ref a/\ud K H a xs/\xs.length=n/\t xs σ H Q
theorem Hm{es:List Expr}{k:Nat}{t:HV}{n:Nat}(hc:X.calm=true)(h:Kh X es t)
 (hn:(assignEach es X.env).length=n:=by rfl) (Jj:(assignEach es X.env).findIdx? (·.1)=none:=by rfl):PG X (.Tuple es k pos) (Tt X.K n t):=by
 intro pins s σ H v u Q I r hw;obtain⟨a,xs,e1,hq,hl,hw⟩:=hw;subst e1;cases r;obtain⟨its,rv,ht,hz⟩:=I.tuple hq;refine assign_Tuple_tuple (I.ok.hd hc) ht (by simp [hn,<-hl,rv.length]) Jj fun h' hx=>?_
 have I1:Inv X pins σ H {s with heap:=h'}:=I.kept (t':=s.toks) fun b o e=>hx b o (Nat.ne_of_lt (Heap.lt_size e)) e
 exact h pins _ σ H xs _ Q I1 (by simpa using rv) hw
def Py(to ti:TE)(t:Ko):TG:=fun v σ H Q=>to σ H fun o H1=>ti σ H1 fun i H2=>t o i v H2 fun H3=>Q σ H3
theorem IL{o i:Expr}{to ti:TE}{t:Ko}(ho:PE X o to)(hi:PE X i ti)(hs:Po X t)
 (ha:∀v,assign (.Subscript o i pos) X.env v=(do
   let ov <-holding [v] (eval o X.env)
   let iv <-holding [v,ov] (eval i X.env)
   standAt pos
   holding [v,ov,iv] (setItem ov iv v)
   release [v,ov,iv] []):=by intro _;rfl):PG X (.Subscript o i pos) (Py to ti t):=by
 intro pins s σ H v u Q I r h;rw[ha];refine wpAny_bind (wpAny_holding (dR (ho pins s σ H _ I h) fun ov s1 ⟨x,H1,I1,r1,q1⟩=>?_))
 refine wpAny_bind (wpAny_holding (dR (hi pins s1 σ H1 _ I1 q1) fun iv s2 ⟨y,H2,I2,r2,q2⟩=>?_))
 refine wpAny_bind (wpAny_standAt (wpAny_bind (wpAny_holding (dR (hs pins s2 σ H2 x y v ov iv u _ I2 r1 r2 r q2) fun _ s3 ⟨H3,I3,q3⟩=>?_))))
 exact wpAny_release ⟨σ,H3,I3,q3⟩
def Fs(te:TE)(g:TG):TS:=fun D σ H=>te σ H fun x H1=>g x σ H1 D.nx
theorem BJ{tg e:Expr}{te:TE}{g:TG}(he:PE X e te)(hg:PG X tg g)(hs:swapsWithSole [tg] e pos.line X.env=pure false:=by rfl)(hw:swappedStores [tg] e X.env=pure none:=by rfl)
 (h1:(assignEach [tg] X.env).map (·.2)=[assign tg X.env]:=by rfl):PS X (.Assign [tg] e pos) (Fs te g):=by
 intro pins s σ H D I h;refine wpAny_Assign_stores (dR (he pins s σ H _ I h) fun v s1 ⟨x,H1,I1,r1,q1⟩=>?_) hs hw
 rw[h1];exact dR (hg pins s1 σ H1 x v _ I1 r1 q1) fun _ s2 q=>q
theorem B9{i:Nat}{te:TE}(hN:X.N.Nodup)(hi:X.N[i]? =some x)(hx:Loc X.env.scope x)(he:PE X e te)(hs:swapsWith e (some (.Name x pos')) pos.line X.env=pure false:=by rfl)(hf:X.fn x=true\/X.env.scope.names.lookup x=some .local:=by first | exact .inl rfl | exact .inr rfl | assumption) :
 PS X (.Assign [.Name x pos'] e pos) (Fs te (wK i)):=by
 intro pins s σ H D I h;refine wpAny_Assign_Name (dR (he pins s σ H _ I h) fun v s1 ⟨y,H1,I1,r1,q1⟩=>?_) hs
 exact Ax I1 hN hi hx r1 (fun s2 I2=>⟨_,H1,I2,q1⟩) hf
def We(i j:Nat)(ta:TA):TS:=fun D σ H=>ta σ H fun vs H1=>∃v w,vs=[v,w]/\D.nx ((σ.set i (some v)).set j (some w)) H1
def V8(i:Nat)(te:TE)(ti:Rx):TS:=fun D σ H=>∃x,σ[i]? =some (some x)/\te σ H fun y H1=>ti x y H1 fun z H2=>D.nx (σ.set i (some z)) H2
def UP(to ti te:TE)(T8:V->V->Hp->VK->Prop)(Xw:Rx)(TF:Ko):TS:=fun D σ H=>to σ H fun o H1=>ti σ H1 fun i H2=>T8 o i H2 fun x H3=>te σ H3 fun y H4=>Xw x y H4 fun z H5=>TF o i z H5 fun H6=>D.nx σ H6
def WC(X:Cx)(t:V->V->Hp->VK->Prop):Prop:=
 ∀(pins:List (Addr × Obj)) (s:Shared) (σ:St) (H:Hp) (o i:V) (ov iv:Value) (Q:VK),Inv X pins σ H s->RelV o ov->RelV i iv->t o i H Q->
  wpAny (model X.prog X.w) X.A (getItem ov iv) (EP X pins σ Q) X.xe s
def YI(f:Int->Int->Int):Rx:=fun x y H Q=>∃i j,x= .int i/\y= .int j/\Q (.int (f i j)) H
end
section
variable {X:Cx} {pos:Pos}
def MO(c:TT)(tb:TS):TS:=fun D σ H=>∃W:Nat->St->Hp->Prop,(∃m,W m σ H)/\∀m σ H,W m σ H->
 c σ H fun b H1=>if b=true then ∃N:St->Hp->Prop,(∀c0 H',N c0 H'->∃m',m' < m/\W m' c0 H')/\tb {D with nx:=N,ct:=N,bk:=D.nx} σ H1 else D.nx σ H1
theorem Gf{tc:TT}{tb:TS}(hp:PassesOwn (model X.prog X.w) X.A X.env X.xe)(hc:PT X c tc)(hb:y7 X body tb):PS X (.While c body [] pos) (MO tc tb):=by
 intro pins s σ H D I h;obtain⟨W,⟨m0,w0⟩,turn⟩:=h;refine wpAny_While (codeAny_whileLoop (fun n s'=>∃c0 H',Inv X pins c0 H' s'/\W n c0 H') ?_ m0 ⟨σ,H,I,w0⟩)
 rintro n s1 ⟨Jw,H1,I1,w1⟩;refine wpAny_passesOwn hp (dR (hc pins s1 Jw H1 _ I1 (turn n Jw H1 w1)) fun b s2 ⟨H2,I2,q2⟩=>?_)
 cases b with
 | true=>
   obtain⟨N,hN,q2⟩:=q2;rw[if_pos rfl];refine wpAny_passesOwn hp (dR (hb pins s2 Jw H2 _ I2 q2) fun f s3 q3=>?_)
   cases f with
   | next=>
     obtain⟨Bo,H3,I3,n3⟩:=q3;obtain⟨m',hm,w3⟩:=hN Bo H3 n3;exact⟨m',hm,Bo,H3,I3,w3⟩
   | cont=>
     obtain⟨Bo,H3,I3,n3⟩:=q3;obtain⟨m',hm,w3⟩:=hN Bo H3 n3;exact⟨m',hm,Bo,H3,I3,w3⟩
   | brk=>exact q3
   | ret v=>exact q3
 | false=>
   rw[if_neg Bool.false_ne_true];exact wpAny_execs_nil ⟨Jw,H2,I2,q2⟩
end
structure It where
 go:Nat->Hp->Prop
 yld:Nat->Hp->V->Hp->Prop
 stop:Nat->Hp->Prop
def uR(X:Cx)(pins:List (Addr × Obj))(H:Hp)(b:Addr):Prop:=
 H b=none/\b≠X.env.locals/\b ∉ X.fs/\(b∈X.ex\/X.s₀.heap.objs.size<=b)/\(∀x c,X.env.cells.lookup x=some c->c≠b)/\∀p∈X.pn++pins,p.1≠b
theorem Inv.wJ{X:Cx}{pins:List (Addr × Obj)}{H H':Hp}{s:Shared}{b:Addr}(I:Inv X pins σ H s)(hb:s.heap.objs.size<=b)(hn:H' b=none):uR X pins H' b:=by
 refine⟨hn,Nat.ne_of_gt (Nat.lt_of_lt_of_le I.lt hb),I.Sw hb, .inr (Nat.le_trans I.sz hb),fun x c e z=>?_,fun p hp z=>?_⟩
 .obtain⟨v,q⟩:=I.cell x c e;exact absurd (Nat.lt_of_lt_of_le q.lt (by rw[z];exact hb)) (Nat.lt_irrefl _)
 .exact absurd (Nat.lt_of_lt_of_le (Heap.lt_size (I.pin p hp).1) (by rw[z];exact hb)) (Nat.lt_irrefl _)
structure Turn (P:Program) (w:World) (K:W.Frag) (tg:Expr) (J:It) (fp:List Addr) (it:Addr) (tn:Nat->Heap->Prop):Prop where
 mem:it∈fp
 obj:∀i h,tn i h->∀b∈fp,∃o,h.get? b=some o/\∀v,o.data≠ .cell v
 keep:∀i h h',tn i h->(∀b∈fp,∀o,h.get? b=some o->h'.get? b=some o)->tn i h'
 item:∀(X:Cx),X.prog=P->X.w=w->X.K=K->X.calm=true->∀(i:Nat) (pins:List (Addr × Obj)) (s:Shared) (σ:St) (H:Hp) (E:Value->Shared->Prop),Inv X pins σ H s->(∀b∈fp,uR X pins H b)->tn i s.heap->J.go i H->
  wpAny (model P w) X.A (pyNext (.ref it)) (fun r s1=>∃u,r=some u/\
   wpAny (model P w) X.A (letOwnedTupleGo tg (.ref it) u) (fun _ s2=>∃x H',Inv X pins σ H' s2/\RelV x u/\J.yld i H x H'/\tn (i+1) s2.heap/\∀b∈fp,H' b=none) E s1) E s
 done:∀(X:Cx),X.prog=P->X.w=w->X.K=K->X.calm=true->∀(i:Nat) (pins:List (Addr × Obj)) (s:Shared) (σ:St) (H:Hp) (E:Value->Shared->Prop),Inv X pins σ H s->(∀b∈fp,uR X pins H b)->tn i s.heap->J.stop i H->
  wpAny (model P w) X.A (pyNext (.ref it)) (fun r s1=>r=none/\Inv X pins σ H s1) E s
 self:∀(A:Around) (i:Nat) (s:Shared) (Q:Value->Shared->Prop) (E:Value->Shared->Prop),tn i s.heap->Q (.ref it) s->wpAny (model P w) A (pyIter (.ref it)) Q E s
abbrev TI:=St->Hp->(It->Hp->Prop)->Prop
def U7(X:Cx)(pins:List (Addr × Obj))(σ:St)(tg:Expr)(R:It->Hp->Prop)(RS:Value)(s2:Shared):Prop:=
 ∃(it:Addr) (fp:List Addr) (tn:Nat->Heap->Prop) (J:It) (H':Hp),RS= .ref it/\Inv X pins σ H' s2/\Turn X.prog X.w X.K tg J fp it tn/\tn 0 s2.heap/\(∀b∈fp,uR X pins H' b)/\R J H'
def PI(X:Cx)(tg iter:Expr)(wi:TI):Prop:=
 ∀(pins:List (Addr × Obj)) (s:Shared) (σ:St) (H:Hp) (R:It->Hp->Prop),Inv X pins σ H s->wi σ H R->
  wpAny (model X.prog X.w) X.A (eval iter X.env) (fun v s1=>wpAny (model X.prog X.w) X.A (pyIter v) (U7 X pins σ tg R) X.xe s1) X.xe s
theorem D9{M:Model}{A:Around}{E:Value->Shared->Prop}{s:Shared}{tg:Expr}{it:Addr}{u:Value}{o:Obj}{n:String}{vs:Array Value}{Q:Unit->Shared->Prop}(ho:s.heap.get? it=some o)(hc:o.cls= .type n)(hd:o.data= .fields vs)
 (hn:["enumerate","zip","dict_itemiterator","dict_reverseitemiterator","odict_iterator","itertools.zip_longest","itertools.pairwise"].contains n=false) (hQ:Q () s):wpAny M A (letOwnedTupleGo tg (.ref it) u) Q E s:=by
 unfold letOwnedTupleGo;cases tg <;> first
  | exact wpAny_pure hQ
  | (cases u <;> first
      | exact wpAny_pure hQ
      | (refine wpAny_bind (wpAny_load ho ?_)
         rw[hc,hd];show wpAny M A (if(["enumerate","zip","dict_itemiterator","dict_reverseitemiterator","odict_iterator","itertools.zip_longest","itertools.pairwise"].contains n && vs[0]? ==some (rawInt _))=true then _ else _) Q E s
         rw[if_neg (by intro h;rw [hn,Bool.false_and] at h;cases h)]
         exact wpAny_pure hQ))
def UY(K:W.Frag)(a:Addr):It:=
 ⟨fun i H=>∃xs x,pV K H a xs/\xs[i]? =some x,fun i H x H'=>H'=H/\∀xs,pV K H a xs->xs[i]? =some x,fun i H=>∃xs,pV K H a xs/\xs.length<=i⟩
def U0(K:W.Frag)(a:Addr):It:=
 ⟨fun i H=>∃xs x,ud K H a xs/\xs[i]? =some x,fun i H x H'=>H'=H/\∀xs,ud K H a xs->xs[i]? =some x,fun i H=>∃xs,ud K H a xs/\xs.length<=i⟩
def QT(lo:Int)(n:Nat):It:=⟨fun i _=>i < n,fun i H x H'=>H'=H/\x= .int (lo+i),fun i _=>n<=i⟩
theorem xX{K:W.Frag}(a it:Addr):Turn P w K tg (UY K a) [it] it (fun i h=>h.IsListIter it a i) where
 mem:=by simp
 obj:=fun i h st b hb=>by
  have e:b=it:=by simpa using hb
  subst e;obtain⟨o,e,c,d⟩:=st;exact⟨o,e,fun v z=>by rw[d] at z;cases z⟩
 keep:=fun i h h' st k=>st.at fun o e=>k it (by simp) o e
 item:=by
  intro X hP hw hK hc i pins s σ H E I hf st hg;subst hP hw hK;obtain⟨xs,x,hq,hx⟩:=hg;obtain⟨its,rv,p,hz⟩:=I.list hq;obtain⟨u,hu,ru⟩:=rv.get hx;obtain⟨f0,f1,f2,f3,f4,f5⟩:=hf it (by simp)
  refine wpAny_pyNext_list_item st p.isList (x:=u) (by simpa using hu) fun h' Je sb=>?_
  have I1:Inv X pins σ H {s with heap:=h'}:=I.turned (t':=s.toks) (fun b o hb e=>(sb.2 b hb).trans e) f0 f1 f3 f4 f5
  obtain⟨o,e,c,d⟩:=id Je;exact⟨u,rfl,D9 (s:={s with heap:=h'}) e c d (by decide) ⟨x,H,I1,ru,⟨rfl,fun ys hy=>by rw[I.q9 hy hq];exact hx⟩,Je,fun b hb=>(hf b hb).1⟩⟩
 done:=by
  intro X hP hw hK hc i pins s σ H E I hf st hg;subst hP hw hK;obtain⟨xs,hq,hx⟩:=hg;obtain⟨its,rv,p,hz⟩:=I.list hq;obtain⟨f0,f1,f2,f3,f4,f5⟩:=hf it (by simp)
  have hl:=rv.length;exact wpAny_pyNext_list_end (I.ok.hd hc) st p.isList (by simp;omega) fun h' eb=>⟨rfl,I.turned (t':=s.toks) (fun b o hb e=>eb b o hb e) f0 f1 f3 f4 f5⟩
 self:=fun _ _ _ _ _ st h=>wpAny_pyIter_listiter st h
theorem CT{K:W.Frag}(a it:Addr):Turn P w K tg (U0 K a) [it] it (fun i h=>h.IsTupleIter it a i) where
 mem:=by simp
 obj:=fun i h st b hb=>by
  have e:b=it:=by simpa using hb
  subst e;obtain⟨o,e,c,d⟩:=st;exact⟨o,e,fun v z=>by rw[d] at z;cases z⟩
 keep:=fun i h h' st k=>st.at fun o e=>k it (by simp) o e
 item:=by
  intro X hP hw hK hc i pins s σ H E I hf st hg;subst hP hw hK;obtain⟨xs,x,hq,hx⟩:=hg;obtain⟨its,rv,p,hz⟩:=I.tuple hq;obtain⟨u,hu,ru⟩:=rv.get hx;obtain⟨f0,f1,f2,f3,f4,f5⟩:=hf it (by simp)
  refine wpAny_pyNext_tuple_item st (show s.heap.IsTuple a its.toArray from p) (x:=u) (by simpa using hu) fun h' Je sb=>?_
  have I1:Inv X pins σ H {s with heap:=h'}:=I.turned (t':=s.toks) (fun b o hb e=>(sb.2 b hb).trans e) f0 f1 f3 f4 f5
  obtain⟨o,e,c,d⟩:=id Je;exact⟨u,rfl,D9 (s:={s with heap:=h'}) e c d (by decide) ⟨x,H,I1,ru,⟨rfl,fun ys hy=>by rw[I.sG hy hq];exact hx⟩,Je,fun b hb=>(hf b hb).1⟩⟩
 done:=by
  intro X hP hw hK hc i pins s σ H E I hf st hg;subst hP hw hK;obtain⟨xs,hq,hx⟩:=hg;obtain⟨its,rv,p,hz⟩:=I.tuple hq;obtain⟨f0,f1,f2,f3,f4,f5⟩:=hf it (by simp)
  have hl:=rv.length;exact wpAny_pyNext_tuple_end (I.ok.hd hc) st (show s.heap.IsTuple a its.toArray from p) (by simp;omega) fun h' eb=>⟨rfl,I.turned (t':=s.toks) (fun b o hb e=>eb b o hb e) f0 f1 f3 f4 f5⟩
 self:=fun _ _ _ _ _ st h=>wpAny_pyIter_tupleiter st h
theorem BS{K:W.Frag}(it:Addr)(lo:Int)(n:Nat):Turn P w K tg (QT lo n) [it] it (fun i h=>IsRangeIter h it (lo+(i:Nat)*1) ((n:Int) - (i:Nat)) 1) where
 mem:=by simp
 obj:=fun i h st b hb=>by
  have e:b=it:=by simpa using hb
  subst e;exact⟨_,st,fun v z=>by
   have z':Data.fields _=Data.cell v:=z;cases z'⟩
 keep:=fun i h h' st k=>k it (by simp) _ st
 item:=by
  intro X hP hw hK hc i pins s σ H E I hf st hg;subst hP hw hK;obtain⟨f0,f1,f2,f3,f4,f5⟩:=hf it (by simp)
  have W:=Walks.range (prog:=X.prog) (w:=X.w) (I.ok.hd hc) it lo 1 n;refine W.item i s _ _ hg st fun v h' tk hv Je kk=>?_
  obtain⟨t,rfl⟩:=hv;have I1:Inv X pins σ H {s with heap:=h',toks:=tk}:=I.turned (fun b o hb e=>kk b o (by simpa using hb) e) f0 f1 f3 f4 f5
  refine⟨_,rfl,D9 (s:={s with heap:=h',toks:=tk}) (n:="range_iterator") Je rfl rfl (by decide) ⟨.int (lo+i),H,I1,⟨t,?_⟩,⟨rfl,rfl⟩,Je,fun b hb=>(hf b hb).1⟩⟩
  rw[Int.mul_one]
 done:=by
  intro X hP hw hK hc i pins s σ H E I hf st hg;subst hP hw hK;obtain⟨f0,f1,f2,f3,f4,f5⟩:=hf it (by simp)
  exact wpAny_pyNext_range_end (I.ok.hd hc) st (by have:n<=i:=hg;omega) fun h' eb=>⟨rfl,I.turned (t':=s.toks) (fun b o hb e=>eb b o hb e) f0 f1 f3 f4 f5⟩
 self:=fun _ _ _ _ _ st h=>wpAny_pyIter_rangeiter st h
section
variable {X:Cx} {tg:Expr}
def Vs(K:W.Frag)(tl:TE):TI:=fun σ H R=>tl σ H fun x H1=>∃a,x= .ref a/\(∃xs,pV K H1 a xs)/\R (UY K a) H1
def Tr(K:W.Frag)(tl:TE):TI:=fun σ H R=>tl σ H fun x H1=>∃a,x= .ref a/\(∃xs,ud K H1 a xs)/\R (U0 K a) H1
theorem Gz{pins:List (Addr × Obj)}{σ:St}{H:Hp}{s:Shared}{R:It->Hp->Prop}{E:Value->Shared->Prop}{lo hi:Int}{t u v:Tok}{tk:Nat}(I:Inv X pins σ H s)(h1: -(2 ^ 62)<=lo)(h2:lo < 2 ^ 62)(h3: -(2 ^ 62)<=hi)(h4:hi < 2 ^ 62)
 (q:R (QT lo (hi - lo).toNat) H):wpAny (model X.prog X.w) X.A (pyIter (.ref s.heap.objs.size)) (U7 X pins σ tg R) E {s with heap:=s.heap.push {cls:= .type "range",data:= .fields #[.int lo t, .int hi u, .int 1 v]},toks:=tk}:=by
 refine wpAny_pyIter_range (IsRange.new ..) (small_one h1 h2 h3 h4) ?_;have I1:Inv X pins σ H {s with heap:=s.heap.push {cls:= .type "range",data:= .fields #[.int lo t, .int hi u, .int 1 v]},toks:=tk}:=I.kept fun b o e=>Heap.get?_push_of_some _ e
 refine⟨(s.heap.push {cls:= .type "range",data:= .fields #[.int lo t, .int hi u, .int 1 v]}).objs.size,[(s.heap.push {cls:= .type "range",data:= .fields #[.int lo t, .int hi u, .int 1 v]}).objs.size],_,_,H,rfl,
  I1.kept (t':=tk) fun b o e=>Heap.get?_push_of_some _ e,BS _ lo (hi - lo).toNat,?_,fun b hb=>?_,q⟩
 .have e1:lo+((0:Nat):Int)*1=lo:=by simp
  have e2:(((hi - lo).toNat:Nat):Int) - ((0:Nat):Int)=Builtin.Range.rangeSize lo hi 1:=by rw[rangeSize_one];split <;> omega
  show IsRangeIter _ _ (lo+((0:Nat):Int)*1) ((((hi - lo).toNat:Nat):Int) - ((0:Nat):Int)) 1;rw[e1,e2];exact Heap.get?_push_size _ rfl
 .have e:b=(s.heap.push {cls:= .type "range",data:= .fields #[.int lo t, .int hi u, .int 1 v]}).objs.size:=by simpa using hb
  subst e;exact I1.wJ (Nat.le_refl _) (I1.hok.fresh (Nat.le_refl _))
def uf(ta:TA):TI:=fun σ H R=>ta σ H fun vs H1=>∃j:Int,vs=[.int j]/\ -(2 ^ 62)<=j/\j < 2 ^ 62/\R (QT 0 j.toNat) H1
def Vd(ta:TA):TI:=fun σ H R=>ta σ H fun vs H1=>∃i j:Int,vs=[.int i, .int j]/\(-(2 ^ 62)<=i/\i < 2 ^ 62/\ -(2 ^ 62)<=j/\j < 2 ^ 62)/\R (QT i (j - i).toNat) H1
theorem xW{ta:TA}{p pos:Pos}(hg:Gl X "range")(hm:X.mg "range"=none)(ha:PA X [a] ta)(hs:starEach [a] X.env=[(false,eval a X.env)]:=by rfl):PI X tg (.Call (.Name "range" p) [a] [] pos) (uf ta):=by
 intro pins s σ H R I h;refine Call_ (nA I hg hm boot_range (PyProof.Rows.callWith_type1 (dR (ha pos pins s σ H _ I h) fun us s1 ⟨vs,H1,I1,r1,q1⟩=>?_) hs rfl))
 obtain⟨j,e,q1,q2,q⟩:=q1;subst e;cases r1 with
 | cons r rr=>
   cases rr;obtain⟨t,rfl⟩:=r;exact call_range_1 (Gz I1 (by omega) (by omega) q1 q2 (by simpa using q))
def R_(wi:TI)(g:TG)(tb:TS):TS:=fun D σ H=>wi σ H fun J H1=>∃W:Nat->Nat->St->Hp->Prop,(∃m,W 0 m σ H1)/\∀i m σ H,W i m σ H->
 (J.stop i H/\D.nx σ H)\/(J.go i H/\∃N:St->Hp->Prop,(∀c0 H',N c0 H'->∃m',m' < m/\W (i+1) m' c0 H')/\∀x H',J.yld i H x H'->g x σ H' fun xl H2=>tb {D with nx:=N,ct:=N,bk:=D.nx} xl H2)
def qk(fp:List Addr)(h:Heap):List (Addr × Obj):=fp.filterMap fun b=>(h.get? b).map fun o=>(b,o)
theorem nH{fp:List Addr}{h:Heap}{b:Addr}{o:Obj}(hb:b∈fp)(e:h.get? b=some o):(b,o)∈qk fp h:=List.mem_filterMap.mpr ⟨b,hb,by rw[e];rfl⟩
theorem EZ{fp:List Addr}{h:Heap}{p:Addr × Obj}(hp:p∈qk fp h):p.1∈fp/\h.get? p.1=some p.2:=by
 obtain⟨b,hb,e⟩:=List.mem_filterMap.mp hp;cases q:h.get? b with
 | none=>rw [q] at e;cases e
 | some o=>
   rw[q] at e;have e':(b,o)=p:=Option.some.inj e;subst e';exact⟨hb,q⟩
theorem Inv.pinned{pins:List (Addr × Obj)}{s:Shared}{fp:List Addr}(I:Inv X pins σ H s)(hf:∀b∈fp,uR X pins H b)(ho:∀b∈fp,∃o,s.heap.get? b=some o/\∀v,o.data≠ .cell v):Inv X (pins++qk fp s.heap) σ H s:=
 I.Eh fun p hp=>(List.mem_append.mp hp).elim (fun z=>I.pin p (List.mem_append_right _ z)) fun z=>by
  obtain⟨hb,e⟩:=EZ z;obtain⟨f0,f1,f2,_⟩:=hf p.1 hb;obtain⟨o,e',d⟩:=ho p.1 hb;rw[e] at e';cases e';exact⟨e,f0,f1,f2,d⟩
theorem Inv.qY{pins pl:List (Addr × Obj)}{s:Shared}(I:Inv X (pins++pl) σ H s):Inv X pins σ H s:=I.Eh fun p hp=>I.pin p (List.mem_append_right _ (List.mem_append_left _ hp))
theorem CJ{iter:Expr}{body:List Stmt}{wi:TI}{g:TG}{tb:TS}{pos:Pos}(hp:PassesOwn (model X.prog X.w) X.A X.env X.xe)(hc:X.calm=true)(hi:PI X tg iter wi)(hg:PG X tg g)(hb:y7 X body tb)
 (hs:∀x,foldedSetIterable iter X.env x=pure x:=by intro _;rfl):PS X (.For tg iter body [] pos) (R_ wi g tb):=by
 intro pins s σ H D I h;refine wpAny_For (dR (hi pins s σ H _ I h) fun v s1 h1=>dR h1 fun RS s2 h2=>?_) hs
 obtain⟨it,fp,tn,J,H2,e,I2,T,Jy,f2,W,⟨m0,w0⟩,turn⟩:=h2;subst e;have stat:∀{H':Hp},(∀b∈fp,H' b=none)->∀b∈fp,uR X pins H' b:=fun hn b hb=>⟨hn b hb,(f2 b hb).2⟩
 refine codeAny_forLoop_any (fun n s'=>∃i c0 H',Inv X pins c0 H' s'/\tn i s'.heap/\(∀b∈fp,H' b=none)/\W i n c0 H') ?_ m0 ⟨0,σ,H2,I2,Jy,fun b hb=>(f2 b hb).1,w0⟩
 rintro n s3 ⟨i,Bo,H3,I3,Lv,QY,w3⟩;rcases turn i n Bo H3 w3 with⟨stop,qn⟩ | ⟨go,N,hN,step⟩
 .refine wpAny_passesOwn hp (dR (T.done X rfl rfl rfl hc i pins s3 Bo H3 X.xe I3 (stat QY) Lv stop) fun r s4 ⟨hr,I4⟩=>?_)
  subst hr;exact wpAny_execs_nil ⟨Bo,H3,I4,qn⟩
 .refine wpAny_passesOwn hp (dR (T.item X rfl rfl rfl hc i pins s3 Bo H3 X.xe I3 (stat QY) Lv go) fun r s4 ⟨u,hr,h4⟩=>?_)
  subst hr;refine wpAny_passesOwn hp (dR h4 fun _ s5 ⟨x,H5,I5,r5,y5,OR,UK⟩=>?_)
  have I5':=I5.pinned (stat UK) (T.obj _ _ OR);refine wpAny_passesOwn hp (dR (hg _ s5 Bo H5 x u _ I5' r5 (step x H5 y5)) fun _ s6 ⟨Q_,H6,I6,q6⟩=>?_)
  refine wpAny_passesOwn hp (dR (hb _ s6 Q_ H6 _ I6 q6) fun f s7 q7=>?_)
  have again:∀{Bq:St} {H7:Hp},Inv X (pins++qk fp s5.heap) Bq H7 s7->N Bq H7->∃m,m < n/\∃i c0 H',Inv X pins c0 H' s7/\tn i s7.heap/\(∀b∈fp,H' b=none)/\W i m c0 H':=fun {Bq H7} I7 n7=>by
   obtain⟨m',hm,w7⟩:=hN Bq H7 n7;refine⟨m',hm,i+1,Bq,H7,I7.qY,T.keep _ _ _ OR fun b hb o e=>(I7.pin (b,o) (List.mem_append_right _ (List.mem_append_right _ (nH hb e)))).1,fun b hb=>?_,w7⟩
   obtain⟨o,e,d⟩:=T.obj _ _ OR b hb;exact(I7.pin (b,o) (List.mem_append_right _ (List.mem_append_right _ (nH hb e)))).2.1
  cases f with
  | next=>obtain⟨Bq,H7,I7,n7⟩:=q7;exact again I7 n7
  | cont=>obtain⟨Bq,H7,I7,n7⟩:=q7;exact again I7 n7
  | brk=>obtain⟨Bq,H7,I7,q7⟩:=q7;exact⟨Bq,H7,I7.qY,q7⟩
  | ret v=>obtain⟨x7,Bq,H7,I7,r7,q7⟩:=q7;exact⟨x7,Bq,H7,I7.qY,r7,q7⟩
end
abbrev R2:=V->V->Hp->VK->Prop
def nk(X:Cx)(f:Value->Value->Sem Value)(r:R2):Prop:=
 ∀(pins:List (Addr × Obj)) (s:Shared) (σ:St) (H:Hp) (x y:V) (v u:Value) (Q:VK),Inv X pins σ H s->RelV x v->RelV y u->r x y H Q->
  wpAny (model X.prog X.w) X.A (f v u) (EP X pins σ Q) X.xe s
def Rq(X:Cx)(f:Value->Sem Value)(r:V->Hp->VK->Prop):Prop:=
 ∀(pins:List (Addr × Obj)) (s:Shared) (σ:St) (H:Hp) (x:V) (v:Value) (Q:VK),Inv X pins σ H s->RelV x v->r x H Q->
  wpAny (model X.prog X.w) X.A (f v) (EP X pins σ Q) X.xe s
def p9(X:Cx)(f:Value)(r:List V->Hp->VK->Prop):Prop:=
 ∀(pins:List (Addr × Obj)) (s:Shared) (σ:St) (H:Hp) (xs:List V) (us:List Value) (Q:VK),Inv X pins σ H s->Vals xs us->r xs H Q->
  wpAny (model X.prog X.w) X.A (call f us) (EP X pins σ Q) X.xe s
def Sx(X:Cx)(r:V->Hp->(Bool->Hp->Prop)->Prop):Prop:=
 ∀(pins:List (Addr × Obj)) (s:Shared) (σ:St) (H:Hp) (x:V) (v:Value) (Q:Bool->Hp->Prop),Inv X pins σ H s->RelV x v->r x H Q->
  wpAny (model X.prog X.w) X.A (truthy v) (TP X pins σ Q) X.xe s
def O3(r:R2)(ta tb:TE):TE:=fun σ H Q=>ta σ H fun x H1=>tb σ H1 fun y H2=>r x y H2 Q
def WB(r:V->Hp->VK->Prop)(ta:TE):TE:=fun σ H Q=>ta σ H fun x H1=>r x H1 Q
def rI(C:Int->Int->Prop)(g:Int->Int->V):R2:=fun x y H Q=>∃i j,x= .int i/\y= .int j/\C i j/\Q (g i j) H
def Ga(g:Int->Int->V):R2:=fun x y H Q=>∃i j,x= .int i/\y= .int j/\Q (g i j) H
def rU(g:Int->V):V->Hp->VK->Prop:=fun x H Q=>∃i,x= .int i/\Q (g i) H
section
variable {X:Cx} {a b c:Expr} {ta tb tc:TE} {pos:Pos}
theorem MM(ha:PE X a ta)(hb:PE X b tb){pins:List (Addr × Obj)}{s:Shared}{σ:St}{H:Hp}{R:V->V->Hp->Prop}(I:Inv X pins σ H s)
 (h:ta σ H fun x H1=>tb σ H1 fun y H2=>R x y H2) {Q:Value->Shared->Prop} {f:Value->Value->Sem Value}
 (hf:∀v u s2 x y H2,Inv X pins σ H2 s2->RelV x v->RelV y u->R x y H2->wpAny (model X.prog X.w) X.A (f v u) Q X.xe s2) :
 wpAny (model X.prog X.w) X.A (eval a X.env) (fun v s₁=>wpAny (model X.prog X.w) X.A (eval b X.env) (fun u ON=>wpAny (model X.prog X.w) X.A (f v u) Q X.xe ON) X.xe s₁) X.xe s:=by
 refine dR (ha pins s σ H _ I h) fun v s1 ⟨x,H1,I1,r1,q1⟩=>?_
 refine dR (hb pins s1 σ H1 _ I1 q1) fun u s2 ⟨y,H2,I2,r2,q2⟩=>?_
 exact hf v u s2 x y H2 I2 r1 r2 q2
theorem Dh{op:Operator}{r:R2}(ho:nk X (binaryOp op) r)(ha:PE X a ta)(hb:PE X b tb):PE X (.BinOp a op b pos) (O3 r ta tb):=by
 intro pins s σ H Q I h;exact wpAny_BinOp (MM ha hb I h fun v u s2 x y H2 I2 rx ry q=>ho pins s2 σ H2 x y v u Q I2 rx ry q)
theorem LR{op:UnaryOp}{r:V->Hp->VK->Prop}(ho:Rq X (unaryOp op) r)(ha:PE X a ta):PE X (.UnaryOp op a pos) (WB r ta):=by
 intro pins s σ H Q I h;exact UnaryOp_ (dR (ha pins s σ H _ I h) fun v s1 ⟨x,H1,I1,r1,q1⟩=>ho pins s1 σ H1 x v Q I1 r1 q1)
theorem O_{f:Value->Value->Sem Value}{C:Int->Int->Prop}{g:Int->Int->Int}
 (rule:∀(i j:Int) (t u:Tok) (s:Shared) (Q:Value->Shared->Prop) (E:Value->Shared->Prop),C i j->Q (.int (g i j) s.toks) {s with toks:=s.toks+1}->wpAny (model X.prog X.w) X.A (f (.int i t) (.int j u)) Q E s) :
 nk X f (rI C fun i j=> .int (g i j)):=by
 intro pins s σ H x y v u Q I rx ry h;obtain⟨i,j,rfl,rfl,hc,q⟩:=h;obtain⟨t,rfl⟩:=rx;obtain⟨t',rfl⟩:=ry;exact rule i j t t' s _ _ hc ⟨.int (g i j),H,I.tok _,⟨_,rfl⟩,q⟩
theorem HR{f:Value->Value->Sem Value}{g:Int->Int->Int}
 (rule:∀(i j:Int) (t u:Tok) (s:Shared) (Q:Value->Shared->Prop) (E:Value->Shared->Prop),Q (.int (g i j) s.toks) {s with toks:=s.toks+1}->wpAny (model X.prog X.w) X.A (f (.int i t) (.int j u)) Q E s) :
 nk X f (Ga fun i j=> .int (g i j)):=by
 intro pins s σ H x y v u Q I rx ry h;obtain⟨i,j,rfl,rfl,q⟩:=h;obtain⟨t,rfl⟩:=rx;obtain⟨t',rfl⟩:=ry;exact rule i j t t' s _ _ ⟨.int (g i j),H,I.tok _,⟨_,rfl⟩,q⟩
theorem MB{f:Value->Value->Sem Value}{g:Int->Int->Bool}
 (rule:∀(i j:Int) (t u:Tok) (s:Shared) (Q:Value->Shared->Prop) (E:Value->Shared->Prop),Q (.bool (g i j)) s->wpAny (model X.prog X.w) X.A (f (.int i t) (.int j u)) Q E s) :
 nk X f (Ga fun i j=> .bl (g i j)):=by
 intro pins s σ H x y v u Q I rx ry h;obtain⟨i,j,rfl,rfl,q⟩:=h;obtain⟨t,rfl⟩:=rx;obtain⟨t',rfl⟩:=ry;exact rule i j t t' s _ _ ⟨.bl (g i j),H,I,rfl,q⟩
def To(i j:Int):Prop:=0 < j/\j < 1073741824
def U2(i j:Int):Prop:=j≠0/\j.natAbs < 1073741824
def P8(i j:Int):Prop:=0<=j/\j<=1000000/\i.natAbs < 2 ^ 64
def Mt(i j:Int):Prop:=(-(2 ^ 64) < i/\i < 2 ^ 64)\/(-(2 ^ 64) < j/\j < 2 ^ 64)
theorem Mt.ok{i j:Int}(h:Mt i j):IntMulOk i j:=by
 rcases h with⟨h1,h2⟩ | ⟨h1,h2⟩
 .exact .of_left (intBits_le_64 h1 h2)
 .exact .of_right (intBits_le_64 h1 h2)
theorem C5(k:Nat):(0:Int)<=2 ^ k:=by
 rw[two_pow_cast];exact Int.natCast_nonneg _
theorem NP:nk X (binaryOp .Add) (Ga fun i j=> .int (i+j)):=HR fun _ _ _ _ _ _ _ q=>add_int q
theorem Nw:nk X (binaryOp .Sub) (Ga fun i j=> .int (i - j)):=HR fun _ _ _ _ _ _ _ q=>sub_int q
theorem Oy:nk X (binaryOp .Mult) (rI Mt fun i j=> .int (i*j)):=O_ fun _ _ _ _ _ _ _ hc q=>mul_int q hc.ok
theorem Kx:nk X (binaryOp .FloorDiv) (rI To fun i j=> .int (i / j)):=O_ fun i j _ _ _ _ _ hc q=>by
 have h1:(0:Int) < j:=hc.1;have h2:j < 1073741824:=hc.2;exact floordiv_int (by omega) (by rw[Int.fdiv_eq_ediv_of_nonneg i (by omega)];exact q) (.inl (PyProof.noPylong_small (by omega)))
theorem NM:nk X (binaryOp .Mod) (rI (fun _ j=>0 < j) fun i j=> .int (i % j)):=O_ fun i j _ _ _ _ _ hc q=>by
 have h1:(0:Int) < j:=hc;exact mod_int' (by omega) (by rw[Int.fmod_eq_emod_of_nonneg i (by omega)];exact q)
theorem OE:nk X (binaryOp .Pow) (rI P8 fun i j=> .int (i ^ j.toNat)):=O_ fun _ _ _ _ _ _ _ hc q=>pow_int_small hc.1 hc.2.1 hc.2.2 q
theorem N_:nk X (binaryOp .LShift) (rI P8 fun i j=> .int (i*2 ^ j.toNat)):=O_ fun _ _ _ _ _ _ _ hc q=>lshift_int_small hc.1 hc.2.1 hc.2.2 q
theorem MX:nk X (binaryOp .RShift) (rI (fun _ j=>0<=j) fun i j=> .int (i / 2 ^ j.toNat)):=O_ fun i j _ _ _ _ _ hc q=>
 rshift_int hc (by rw[Int.fdiv_eq_ediv_of_nonneg i (C5 _)];exact q)
theorem Oc:nk X (binaryOp .BitAnd) (Ga fun i j=> .int (Builtin.bitAnd i j)):=HR fun _ _ _ _ _ _ _ q=>and_int q
theorem Qt:nk X (binaryOp .BitOr) (Ga fun i j=> .int (Builtin.bitOr i j)):=HR fun _ _ _ _ _ _ _ q=>or_int q
theorem Mx:nk X (binaryOp .BitXor) (Ga fun i j=> .int (Builtin.bitXor i j)):=HR fun _ _ _ _ _ _ _ q=>xor_int q
theorem UZ{f:Value->Sem Value}{g:Int->Int}
 (rule:∀(i:Int) (t:Tok) (s:Shared) (Q:Value->Shared->Prop) (E:Value->Shared->Prop),Q (.int (g i) s.toks) {s with toks:=s.toks+1}->wpAny (model X.prog X.w) X.A (f (.int i t)) Q E s) :
 Rq X f (rU fun i=> .int (g i)):=by
 intro pins s σ H x v Q I rx h;obtain⟨i,rfl,q⟩:=h;obtain⟨t,rfl⟩:=rx;exact rule i t s _ _ ⟨.int (g i),H,I.tok _,⟨_,rfl⟩,q⟩
theorem Mu:Rq X (unaryOp .USub) (rU fun i=> .int (-i)):=UZ fun _ _ _ _ _ q=>neg_int q
theorem MJ:Rq X (unaryOp .Invert) (rU fun i=> .int (Builtin.bitNot i)):=UZ fun _ _ _ _ _ q=>invert_int q
end
def QK:V->V->Bool
 | .cK, .cK=>true | .cK, .int _=>true | .int _, .cK=>true | .cK, .bl _=>true | .bl _, .cK=>true | .cK, .str _=>true | .str _, .cK=>true
 | .int _, .int _=>true | .bl _, .bl _=>true | .str _, .str _=>true | .byt _, .byt _=>true
 | .int _, .str _=>true | .str _, .int _=>true | .bl _, .str _=>true | .str _, .bl _=>true
 | _,_=>false
def VR:R2:=fun x y H Q=>QK x y=true/\Q (.bl (decide (x=y))) H
def VO:R2:=fun x y H Q=>QK x y=true/\Q (.bl (!decide (x=y))) H
theorem DJ{i j:Int}:decide (V.int i=V.int j)=(i==j):=by
 rw[Bool.eq_iff_iff];simp
theorem Gj{i j:Bool}:decide (V.bl i=V.bl j)=(i==j):=by
 rw[Bool.eq_iff_iff];simp
theorem DD:decide (V.str i=V.str j)=(i==j):=by
 rw[Bool.eq_iff_iff];simp
theorem Ey{i j:Array UInt8}:decide (V.byt i=V.byt j)=(i.toList==j.toList):=by
 rw[Bool.eq_iff_iff];cases i;cases j;simp
section
variable {X:Cx} {a b c:Expr} {ta tb tc:TE} {pos:Pos}
theorem ck{pins:List (Addr × Obj)}{s:Shared}{Q:VK}{k k':Bool}(I:Inv X pins σ H s)(q:Q (.bl k) H)(e:k=k'):EP X pins σ Q (.bool k') s:=by
 subst e;exact⟨.bl k,H,I,rfl,q⟩
theorem Iw:nk X (compareOp .Eq) VR:=by
 intro pins s σ H x y v u Q I rx ry h;obtain⟨hs,q⟩:=h;cases x with
 | cK=>
   cases rx;cases y with
   | cK=>cases ry;exact PySem.EqNone.eq_none_none (ck I q (by simp))
   | bl j=>cases ry;exact PySem.EqNone.eq_none_bool (ck I q (by simp))
   | int j=>obtain⟨t',rfl⟩:=ry;exact PySem.EqNone.eq_none_int (ck I q (by simp))
   | str j=>obtain⟨t',rfl⟩:=ry;exact PySem.EqNone.eq_none_str (ck I q (by simp))
   | _=>exact absurd (show false=true from hs) Bool.false_ne_true
 | bl i=>
   cases rx;cases y with
   | cK=>cases ry;exact PySem.EqNone.eq_bool_none (ck I q (by simp))
   | bl j=>cases ry;exact eq_bool (ck I q Gj)
   | str j=>obtain⟨t',rfl⟩:=ry;exact PySem.EqMixed.eq_bool_str (ck I q (by simp))
   | _=>exact absurd (show false=true from hs) Bool.false_ne_true
 | int i=>
   obtain⟨t,rfl⟩:=rx;cases y with
   | cK=>cases ry;exact PySem.EqNone.eq_int_none (ck I q (by simp))
   | int j=>obtain⟨t',rfl⟩:=ry;exact eq_int (ck I q DJ)
   | str j=>obtain⟨t',rfl⟩:=ry;exact PySem.EqMixed.eq_int_str (ck I q (by simp))
   | _=>exact absurd (show false=true from hs) Bool.false_ne_true
 | str i=>
   obtain⟨t,rfl⟩:=rx;cases y with
   | cK=>cases ry;exact PySem.EqNone.eq_str_none (ck I q (by simp))
   | bl j=>cases ry;exact PySem.EqMixed.eq_str_bool (ck I q (by simp))
   | int j=>obtain⟨t',rfl⟩:=ry;exact PySem.EqMixed.eq_str_int (ck I q (by simp))
   | str j=>obtain⟨t',rfl⟩:=ry;exact eq_str (ck I q DD)
   | _=>exact absurd (show false=true from hs) Bool.false_ne_true
 | byt i=>
   obtain⟨t,rfl⟩:=rx;cases y with
   | byt j=>obtain⟨t',rfl⟩:=ry;exact PySem.W.eq_bytes (ck I q Ey)
   | _=>exact absurd (show false=true from hs) Bool.false_ne_true
 | _=>cases y <;> exact absurd (show false=true from hs) Bool.false_ne_true
theorem G3:nk X (compareOp .NotEq) VO:=by
 intro pins s σ H x y v u Q I rx ry h;obtain⟨hs,q⟩:=h;cases x with
 | cK=>
   cases rx;cases y with
   | cK=>cases ry;exact PySem.EqNone.ne_none_none (ck I q (by simp))
   | bl j=>cases ry;exact PySem.EqNone.ne_none_bool (ck I q (by simp))
   | int j=>obtain⟨t',rfl⟩:=ry;exact PySem.EqNone.ne_none_int (ck I q (by simp))
   | str j=>obtain⟨t',rfl⟩:=ry;exact PySem.EqNone.ne_none_str (ck I q (by simp))
   | _=>exact absurd (show false=true from hs) Bool.false_ne_true
 | bl i=>
   cases rx;cases y with
   | cK=>cases ry;exact PySem.EqNone.ne_bool_none (ck I q (by simp))
   | bl j=>cases ry;exact ne_bool (ck I q (congrArg not Gj))
   | str j=>obtain⟨t',rfl⟩:=ry;exact PySem.EqMixed.ne_bool_str (ck I q (by simp))
   | _=>exact absurd (show false=true from hs) Bool.false_ne_true
 | int i=>
   obtain⟨t,rfl⟩:=rx;cases y with
   | cK=>cases ry;exact PySem.EqNone.ne_int_none (ck I q (by simp))
   | int j=>obtain⟨t',rfl⟩:=ry;exact ne_int (ck I q (congrArg not DJ))
   | str j=>obtain⟨t',rfl⟩:=ry;exact PySem.EqMixed.ne_int_str (ck I q (by simp))
   | _=>exact absurd (show false=true from hs) Bool.false_ne_true
 | str i=>
   obtain⟨t,rfl⟩:=rx;cases y with
   | cK=>cases ry;exact PySem.EqNone.ne_str_none (ck I q (by simp))
   | bl j=>cases ry;exact PySem.EqMixed.ne_str_bool (ck I q (by simp))
   | int j=>obtain⟨t',rfl⟩:=ry;exact PySem.EqMixed.ne_str_int (ck I q (by simp))
   | str j=>obtain⟨t',rfl⟩:=ry;exact ne_str (ck I q (congrArg not DD))
   | _=>exact absurd (show false=true from hs) Bool.false_ne_true
 | byt i=>
   obtain⟨t,rfl⟩:=rx;cases y with
   | byt j=>obtain⟨t',rfl⟩:=ry;exact PySem.W.ne_bytes (ck I q (congrArg not Ey))
   | _=>exact absurd (show false=true from hs) Bool.false_ne_true
 | _=>cases y <;> exact absurd (show false=true from hs) Bool.false_ne_true
theorem PR:nk X (compareOp .LtE) (Ga fun i j=> .bl (decide (i<=j))):=MB fun _ _ _ _ _ _ _ q=>le_int q
theorem QG:nk X (compareOp .Gt) (Ga fun i j=> .bl (decide (j < i))):=MB fun _ _ _ _ _ _ _ q=>gt_int q
theorem PQ:nk X (compareOp .GtE) (Ga fun i j=> .bl (decide (j<=i))):=MB fun _ _ _ _ _ _ _ q=>ge_int q
theorem Fe:nk X (compareOp .In) (fun x y H Q=>∃i j,x= .str i/\y= .str j/\Q (.bl (!(Builtin.Str.occurrences j i 0 j.length 1).isEmpty)) H):=by
 intro pins s σ H x y v u Q I rx ry h;obtain⟨i,j,rfl,rfl,q⟩:=h;obtain⟨t,rfl⟩:=rx;obtain⟨t',rfl⟩:=ry;exact in_str (ck I q rfl)
theorem MH:nk X (compareOp .Is) (fun x y H Q=>y= .cK/\Q (.bl (decide (x= .cK))) H):=by
 intro pins s σ H x y v u Q I rx ry h;obtain⟨rfl,q⟩:=h;cases ry;refine is_none_gen (ck I q ?_);cases x <;> first
  | (cases rx;rfl)
  | (obtain⟨t,rfl⟩:=rx;rfl)
theorem J6:nk X (compareOp .IsNot) (fun x y H Q=>y= .cK/\Q (.bl (!decide (x= .cK))) H):=by
 intro pins s σ H x y v u Q I rx ry h;obtain⟨rfl,q⟩:=h;cases ry;refine isnot_none_gen (ck I q ?_);cases x <;> first
  | (cases rx;rfl)
  | (obtain⟨t,rfl⟩:=rx;rfl)
theorem y4:nk X (compareOp .NotIn) (fun x y H Q=>∃i j,x= .str i/\y= .str j/\Q (.bl (!(!(Builtin.Str.occurrences j i 0 j.length 1).isEmpty))) H):=by
 intro pins s σ H x y v u Q I rx ry h;obtain⟨i,j,rfl,rfl,q⟩:=h;obtain⟨t,rfl⟩:=rx;obtain⟨t',rfl⟩:=ry;exact notIn_str (ck I q rfl)
def isObj:HO->Bool
 | .lst _=>true
 | .ins _ _ _=>true
 | _=>false
theorem bH(b:Expr){op:CmpOp}(h:op≠ .In:=by decide)(h2:op≠ .NotIn:=by decide):behindInMarks op b=false:=by
 have e1:(op==CmpOp.In)=false:=by cases op <;> first | rfl | exact absurd rfl h
 have e2:(op==CmpOp.NotIn)=false:=by cases op <;> first | rfl | exact absurd rfl h2
 cases b <;> simp [behindInMarks,e1,e2]
theorem DT{op:CmpOp}{r:R2}(ho:nk X (compareOp op) r)(ha:PE X a ta)(hb:PE X b tb)(hm:behindInMarks op b=false):PE X (.Compare a [op] [b] pos) (O3 r ta tb):=by
 intro pins s σ H Q I h;exact wpAny_Compare1 (MM ha hb I h fun v u s2 x y H2 I2 rx ry q=>ho pins s2 σ H2 x y v u Q I2 rx ry q) hm
def Qw(t:TE):TT:=fun σ H Q=>t σ H fun x H'=>∃k,x= .bl k/\Q k H'
theorem DL{op:CmpOp}{r:R2}(ho:nk X (compareOp op) r)(ha:PE X a ta)(hb:PE X b tb)(hm:behindInMarks op b=false):PT X (.Compare a [op] [b] pos) (Qw (O3 r ta tb)):=by
 intro pins s σ H Q I h;refine wpAny_isTrue_Compare1 (dR (ha pins s σ H _ I h) fun v s1 ⟨x,H1,I1,r1,q1⟩=>dR (hb pins s1 σ H1 _ I1 q1) fun u s2 ⟨y,H2,I2,r2,q2⟩=>
  dR (ho pins s2 σ H2 x y v u _ I2 r1 r2 q2) fun c s3 ⟨z,H3,I3,r3,k,e,q3⟩=>?_) hm
 subst e;cases r3;exact wpAny_truthy_bool ⟨H3,I3,q3⟩
def Tc(r r':R2)(ta tb tc:TE):TE:=fun σ H Q=>ta σ H fun x H1=>tb σ H1 fun y H2=>r x y H2 fun z H3=>∃k,z= .bl k/\
 (if k=true then tc σ H3 fun w' H4=>r' y w' H4 Q else Q (.bl false) H3)
def Ku(K:W.Frag)(x:V)(H:Hp)(k:Bool):Prop:=
 match x with
 | .cK=>k=false
 | .bl b=>k=b
 | .int i=>k=(i !=0)
 | .str y=>y.length<=sizeLine/\k=((y.length:Int) !=0)
 | .byt y=>y.size<=sizeLine/\k=((y.size:Int) !=0)
 | .ref p=>(∃xs,pV K H p xs/\k=!xs.isEmpty)\/(∃xs,ud K H p xs/\k=!xs.isEmpty)\/∃kvs,H p=some (.dK kvs)/\k=!kvs.isEmpty
 | _=>False
theorem CA{κ:Type}{kvs:List (κ × V)}{vs:List (κ × Value)}(r:KV kvs vs):(!vs.isEmpty)=!kvs.isEmpty:=by
 cases r <;> rfl
theorem vk{xs:List V}{its:List Value}(r:Vals xs its):(!its.toArray.isEmpty)=!xs.isEmpty:=by
 cases r <;> simp
theorem sO:(sizeLine:Nat) < 2 ^ 63:=by rw[sizeLine_eq];decide
theorem NW:Sx X (fun x H Q=>∃k,Ku X.K x H k/\Q k H):=by
 intro pins s σ H x v Q I rx h;obtain⟨k,e,q⟩:=h;have hl:=sO;have hs:sizeLine=16777216:=sizeLine_eq;cases x with
 | cK=>
   cases rx;have e':k=false:=e;subst e';exact truthy_none ⟨H,I,q⟩
 | bl b=>
   cases rx;have e':k=b:=e;subst e';exact wpAny_truthy_bool ⟨H,I,q⟩
 | int i=>
   obtain⟨t,rfl⟩:=rx;have e':k=(i !=0):=e;subst e';exact PySem.P.truthy_int ⟨H,I,q⟩
 | str y=>
   obtain⟨t,rfl⟩:=rx;obtain⟨hy,e'⟩:y.length<=sizeLine/\k=((y.length:Int) !=0):=e;subst e';exact PySem.P.truthy_str (by omega) ⟨H,I.tok _,q⟩
 | byt y=>
   obtain⟨t,rfl⟩:=rx;obtain⟨hy,e'⟩:y.size<=sizeLine/\k=((y.size:Int) !=0):=e;subst e';exact PySem.W.truthy_bytes (by omega) ⟨H,I.tok _,q⟩
 | ref p=>
   cases rx;have e':(∃xs,pV X.K H p xs/\k=!xs.isEmpty)\/(∃xs,ud X.K H p xs/\k=!xs.isEmpty)\/∃kvs,H p=some (.dK kvs)/\k=!kvs.isEmpty:=e;rcases e' with⟨xs,hx,e'⟩ | ⟨xs,hx,e'⟩ | ⟨kvs,hx,e'⟩
   .subst e';obtain⟨its,r,pl,hz⟩:=I.list hx;have hlen:=r.length;exact wpAny_truthy_list pl.isList (by simp only[List.size_toArray];omega) ⟨H,I.tok _,by rw[vk r];exact q⟩
   .subst e';obtain⟨its,r,pl,hz⟩:=I.tuple hx;have hlen:=r.length;exact truthy_tuple pl (by simp only[List.size_toArray];omega) ⟨H,I.tok _,by rw[vk r];exact q⟩
   .subst e';obtain⟨hz,hS,vs,r,m⟩:kvs.length<=sizeLine/\(p==sysModules)=false/\∃vs,KV kvs vs/\s.heap.DictOf (cW X.prog X.w) p vs:=I.hok p _ hx;have hlen:kvs.length=vs.length:=Paired.length r;exact wpAny_truthy_dict hS m (by omega) ⟨H,I.tok _,by rw[CA r];exact q⟩
 | _=>exact(show False from e).elim
theorem Bl(ha:PE X a ta)(he:∀whole,isTrue a X.env whole=(do let v <-whole;standAt a.pos;holding [v] (truthy v))) :
 PT X a (fun σ H Q=>ta σ H fun x H'=>∃k,Ku X.K x H' k/\Q k H'):=by
 intro pins s σ H Q I h;exact isTrue_plain (dR (ha pins s σ H _ I h) fun v s1 ⟨x,H1,I1,r1,q1⟩=>NW pins s1 σ H1 x v Q I1 r1 q1) (he _)
theorem BE:nk X (binaryOp .Add) (fun x y H Q=>∃i j,x= .str i/\y= .str j/\i.length+j.length<=sizeLine/\Q (.str (i++j)) H):=by
 intro pins s σ H x y v u Q I rx ry h;obtain⟨i,j,rfl,rfl,hz,q⟩:=h;obtain⟨t,rfl⟩:=rx;obtain⟨t',rfl⟩:=ry;exact add_str (fun t' tk=>⟨.str (i++j),H,I.tok _,⟨_,rfl⟩,q⟩) hz
def QU(b:Expr):Prop:=∀o i,subscripted b false o i=operate [o,i] (getItem o i)
theorem vals1{x:V}{us:List Value}(r:Vals [x] us):∃u,us=[u]/\RelV x u:=by
 cases r with
 | cons r1 r2=>cases r2;exact⟨_,rfl,r1⟩
theorem vals2{x y:V}{us:List Value}(r:Vals [x,y] us):∃u w',us=[u,w']/\RelV x u/\RelV y w':=by
 cases r with
 | cons r1 r2=>
   cases r2 with
   | cons r3 r4=>cases r4;exact⟨_,_,rfl,r1,r3⟩
theorem E6(hc:X.calm=true):p9 X (.builtin "min") (fun xs H Q=>∃i j,xs=[.int i, .int j]/\Q (.int (if j < i then j else i)) H):=by
 intro pins s σ H xs us Q I r h;obtain⟨i,j,rfl,q⟩:=h;obtain⟨u,w',rfl,⟨t,rfl⟩,⟨t',rfl⟩⟩:=vals2 r;refine min_two_ints (I.ok.hd hc) fun h' tk k=>⟨_,H,I.kept k,?_,q⟩
 by_cases hj:j < i
 .rw [if_pos hj,if_pos hj];exact⟨_,rfl⟩
 .rw [if_neg hj,if_neg hj];exact⟨_,rfl⟩
def Sn(K:W.Frag)(x:V)(H:Hp)(n:Nat):Prop:=
 match x with
 | .str y=>y.length<=sizeLine/\n=y.length
 | .byt y=>y.size<=sizeLine/\n=y.size
 | .ref p=>(∃xs,pV K H p xs/\n=xs.length)\/∃xs,ud K H p xs/\n=xs.length
 | _=>False
theorem GG:p9 X (.builtin "len") (fun xs H Q=>∃x n,xs=[x]/\Sn X.K x H n/\Q (.int n) H):=by
 intro pins s σ H xs us Q I r h;obtain⟨x,n,rfl,e,q⟩:=h;obtain⟨u,rfl,rx⟩:=vals1 r;have hl:=sO;have hs:sizeLine=16777216:=sizeLine_eq;cases x with
 | str y=>
   obtain⟨t,rfl⟩:=rx;obtain⟨hy,e'⟩:y.length<=sizeLine/\n=y.length:=e;subst e';exact len_str (by omega) ⟨.int _,H,I.tok _,⟨_,rfl⟩,q⟩
 | byt y=>
   obtain⟨t,rfl⟩:=rx;obtain⟨hy,e'⟩:y.size<=sizeLine/\n=y.size:=e;subst e';exact PySem.W.len_bytes (by omega) ⟨.int _,H,I.tok _,⟨_,rfl⟩,q⟩
 | ref p=>
   cases rx;have e':(∃xs,pV X.K H p xs/\n=xs.length)\/∃xs,ud X.K H p xs/\n=xs.length:=e;rcases e' with⟨xs,hx,e'⟩ | ⟨xs,hx,e'⟩
   .subst e';obtain⟨its,r',pl,hz⟩:=I.list hx;have hlen:=r'.length;exact Calls.call_len_list pl.isList (by simp only[List.size_toArray];omega) ⟨.int xs.length,H,I.tok _,⟨_,by simp only[List.size_toArray];rw [hlen]⟩,q⟩
   .subst e';obtain⟨its,r',pl,hz⟩:=I.tuple hx;have hlen:=r'.length;exact len_tuple pl (by simp only[List.size_toArray];omega) ⟨.int xs.length,H,I.tok _,⟨_,by simp only[List.size_toArray];rw [hlen]⟩,q⟩
 | _=>exact(show False from e).elim
end
structure C3 (h:Heap) (x dx C:Addr) (mA:Str->Option Value):Prop where
 obj:h.get? x=some (PySem.W.instObj C dx)
 ns:h.Ns1 dx mA
 ne:dx≠x
theorem FQ{h:Heap}{dx:Addr}{mA:Str->Option Value}(n:h.Ns1 dx mA):∃od,h.get? dx=some od/\∀name,PySem.W.lookIn name od=some (mA name):=by
 obtain⟨o,es,ep,ho,hd,hk,_,hm⟩:=n;refine⟨o,ho,fun name=>?_⟩
 have e:=hm name;unfold nsFind findBy at e;rw[<-Array.find?_toList] at e;unfold PySem.W.lookIn;rw[hd];dsimp only;split
 .rename_i y q;rw[q] at e;exact congrArg some e
 .rename_i q;rw[q] at e;have a:es.toList.any (·.refKey)=false:=by
   rw[List.any_eq_false];intro y hy;obtain⟨z,t,hkey⟩:=hk y (Array.mem_toList_iff.mp hy);simp [DictEntry.refKey,hkey]
  have a':¬es.toList.any (·.refKey)=true:=by rw[a];exact Bool.false_ne_true
  rw[if_neg a'];exact congrArg some e
theorem C3.look{x dx C:Addr}{mA:Str->Option Value}(I:C3 h x dx C mA):∃od,PySem.W.InstAt h x (PySem.W.instObj C dx) C (some od)/\∀name,PySem.W.lookIn name od=some (mA name):=
 let⟨od,ho,hl⟩:=FQ I.ns
 ⟨od,⟨I.obj,rfl,rfl,ho⟩,hl⟩
section
variable {prog:Program} {w:World} {A:Around} {E:Value->Shared->Prop} {s:Shared} {K:W.Frag} {x dx C f:Addr} {mA:Str->Option Value} {name:Str} {v:Value}
theorem get_map{expr:Bool}{Q:Value->Shared->Prop}(X:K.In s.heap)(I:C3 s.heap x dx C mA)(hg:PySem.W.plainGet K C name=true)(hh:PySem.W.hasDictIn K C=true)
 (ha:PySem.W.findIn K (.ref C) name=some none) (hv:mA name=some v) (Uo:PySem.W.handedIn v=true) (h:Q v {s with toks:=s.toks+1}) :
 wpAny (model prog w) A (getAttr (.ref x) name expr) Q E s:=by
 obtain⟨od,J,hl⟩:=I.look;exact PySem.W.get_value X J (PySem.W.plainGet_of hg).1 (PySem.W.findObj_own hh ha rfl (by rw[hl,hv])) Uo h
theorem II{pl:Sem Bool}{Q:Value × List Value->Shared->Prop}(X:K.In s.heap)(I:C3 s.heap x dx C mA)(hg:PySem.W.plainGet K C name=true)
 (hf:PySem.W.findIn K (.ref C) name=some (some (.ref f))) (ht:PySem.W.isFn K (.ref f)=true) (hv:mA name=none) (h:Q (.ref f,[.ref x]) s) :
 wpAny (model prog w) A (getMethod (.ref x) name pl) Q E s:=by
 obtain⟨od,J,hl⟩:=I.look;exact PySem.W.method_fn X J (PySem.W.plainGet_of hg).1 (PySem.W.plainGet_of hg).2 hf (beq_iff_eq.mp ht) (by show(PySem.W.lookIn name od).map (·.isSome)=some false;rw [hl,hv];rfl) h
theorem JT{ns:List Str}{Q:Unit->Shared->Prop}(X:K.In s.heap)(I:C3 s.heap x dx C mA)
 (hs:PySem.W.findIn K (.ref C) "__setattr__"=some (some (.builtin "object.__setattr__"))) (hp:PySem.W.plainOver K C=true) (ht:PySem.W.takerIn K C name=some none) (hh:PySem.W.hasDictIn K C=true)
 (hw:PySem.Within mA ns) (hsz:ns.length<=sizeLine)
 (h:∀h',C3 h' x dx C (fun y=>if y=name then some v else mA y)->Heap.SameBut dx s.heap h'->Q () {s with heap:=h',toks:=s.toks+2}) :
 wpAny (model prog w) A (setAttr (.ref x) name v) Q E s:=by
 obtain⟨od,J,hl⟩:=I.look;refine PySem.W.set_plain X J hs (PySem.W.osa_open (s:={s with toks:=s.toks+1}) (r:=none) X J hp ht fun b=>?_)
 obtain⟨cd,hc,UO⟩:=PySem.W.any_some hh;have hx:s.heap.get? x=some ⟨.ref C,some dx, .plain,#[]⟩:=I.obj;refine wpAny_bind (wpAny_pure (wpAny_bind (wpAny_bind (wpAny_loadPart hx (wpAny_bind (PySem.W.Looks.here (s:={s with toks:=s.toks+1}) (PySem.W.looks_clsIn X hc) ?_))))))
 rw[UO];refine wpAny_pure (a:=some dx) (wpAny_bind (wpAny_pure (wpAny_bind ?_)));refine wpAny_nsSet1 (s:={s with toks:=s.toks+1}) I.ns fun h' RP Ge=>?_
 obtain⟨oD,esD,epD,hoD,hdD,hcD⟩:=RP.count (PySem.Within.cons name v hw);refine wpAny_bind (wpAny_lookBehind hoD (by rw[hdD];exact pastItsLine_dict (Nat.le_trans hcD (by rw[List.length_cons];omega))) ?_)
 exact wpAny_pure (h _ ⟨(Ge.2 _ (Ne.symm I.ne)).trans I.obj,RP,I.ne⟩ Ge)
theorem IS{R:Result->Shared->Prop}{vs:List Value}{kw:List (Str × Value)}(X:K.In s.heap)(hm:PySem.W.makesIn K C=true)
 (hi:PySem.W.findIn K (.ref C) "__init__"=some (some (.ref f))) (hf:PySem.W.typeIn K (.ref f)=some (.type "function"))
 (h:codeAny (model prog w) (A.under (.builtin "type.__call__" ⟨.ref C ::vs,kw⟩)) (.call (.ref f) ⟨.ref (s.heap.objs.size+1) ::vs,kw⟩) (PySem.W.InitBack (s.heap.objs.size+1) R)
   {s with heap:=(s.heap.push PySem.W.emptyDict).push (PySem.W.instObj C s.heap.objs.size)}) :
 codeAny (model prog w) A (.call (.ref C) ⟨vs,kw⟩) R s:=by
 obtain⟨hh,g,d,t,os⟩:=s;exact PySem.W.make_core (PySem.W.makes_of X hm) (PySem.W.looks_findIn X hi) (fun self=>PySem.W.bind_fn X self hf) (.inl rfl) h
end
def lQ(f:Str)(v:V):List (Str × V)->List (Str × V)
 | []=>[(f,v)]
 | (g,x) ::r=>if g=f then(g,v) ::r else(g,x) ::lQ f v r
theorem t5(f g:Str)(v:V):∀fs:List (Str × V),(lQ f v fs).lookup g=if g=f then some v else fs.lookup g
 | []=>by
   show List.lookup g [(f,v)]=_;by_cases h:g=f
   .have hb:(g==f)=true:=beq_iff_eq.mpr h;simp only[List.lookup,hb,if_pos h]
   .have hb:(g==f)=false:=beq_eq_false_iff_ne.mpr h;simp only[List.lookup,hb,if_neg h]
 | (k,x) ::r=>by
   have ih:=t5 f g v r;rw[show lQ f v ((k,x) ::r)=(if k=f then(k,v) ::r else(k,x) ::lQ f v r) from rfl]
   by_cases hk:k=f
   .rw [if_pos hk];by_cases h:g=k
    .have hb:(g==k)=true:=beq_iff_eq.mpr h;simp only[List.lookup,hb,if_pos (h.trans hk)]
    .have hb:(g==k)=false:=beq_eq_false_iff_ne.mpr h;simp only[List.lookup,hb,if_neg (fun e:g=f=>h (e.trans hk.symm))]
   .rw [if_neg hk];by_cases h:g=k
    .have hb:(g==k)=true:=beq_iff_eq.mpr h;simp only[List.lookup,hb,if_neg (fun e:g=f=>hk (h.symm.trans e))]
    .have hb:(g==k)=false:=beq_eq_false_iff_ne.mpr h;simp only[List.lookup,hb];exact ih
theorem sL(f:Str)(v:V):∀fs:List (Str × V),f∈(lQ f v fs).map (·.1)/\∀g,g∈fs.map (·.1)->g∈(lQ f v fs).map (·.1)
 | []=>⟨by simp [lQ],fun g h=>by simp at h⟩
 | (k,x) ::r=>by
   obtain⟨i1,i2⟩:=sL f v r;rw[show lQ f v ((k,x) ::r)=(if k=f then(k,v) ::r else(k,x) ::lQ f v r) from rfl]
   by_cases hk:k=f
   .rw [if_pos hk];subst hk;exact⟨by simp,fun g h=>by simpa using h⟩
   .rw [if_neg hk];refine⟨?_,fun g h=>?_⟩
    .rw [List.map_cons];exact List.mem_cons_of_mem _ i1
    .rw [List.map_cons] at h ⊢;rcases List.mem_cons.mp h with e | e
     .exact List.mem_cons.mpr (.inl e)
     .exact List.mem_cons_of_mem _ (i2 g e)
theorem t_(f:Str)(v:V):∀fs:List (Str × V),(lQ f v fs).length<=fs.length+1
 | []=>by simp [lQ]
 | (k,x) ::r=>by
   have ih:=t_ f v r;rw[show lQ f v ((k,x) ::r)=(if k=f then(k,v) ::r else(k,x) ::lQ f v r) from rfl]
   by_cases hk:k=f
   .rw [if_pos hk,List.length_cons,List.length_cons];omega
   .rw [if_neg hk,List.length_cons,List.length_cons];omega
theorem pO.some_of{v:V}{o:Option Value}(r:pO (some v) o):∃u,o=some u/\RelV v u:=by
 cases o with
 | none=>exact(show False from r).elim
 | some u=>exact⟨u,rfl,r⟩
theorem pO.none_of{o:Option Value}(r:pO none o):o=none:=by
 cases o with
 | none=>rfl
 | some u=>exact(show False from r).elim
theorem Fm{v:V}{u:Value}(r:RelV v u):PySem.W.handedIn u=true:=by
 cases v with
 | cK=>cases(show u=Value.none from r);rfl
 | bl b=>cases(show u=Value.bool b from r);rfl
 | int i=>obtain⟨t,e⟩:=(show ∃t,u=Value.int i t from r);cases e;rfl
 | str x=>obtain⟨t,e⟩:=(show ∃t,u=Value.str x t from r);cases e;rfl
 | byt b=>obtain⟨t,e⟩:=(show ∃t,u=Value.bytes b t from r);cases e;rfl
 | flt b=>obtain⟨t,e⟩:=(show ∃t,u=Value.float b t from r);cases e;rfl
 | ref a=>cases(show u=Value.ref a from r);rfl
 | ty n=>cases(show u=Value.type n from r);rfl
section
variable {P:Program} {w:World} {H H':Hp} {h h':Heap} {a C dx:Addr} {fs Pj:List (Str × V)}
theorem u9(hok:pN P w H h)(e:H a=some (.ins C dx fs)):∃mA,C3 h a dx C mA/\(∀f,pO (fs.lookup f) (mA f))/\PySem.Within mA (fs.map (·.1))/\fs.length<=1000/\H dx=some (.own a):=by
 obtain⟨d,z,ne,ob,mA,n,r,q⟩:=(show dQ P w H h a (.ins C dx fs) from hok a _ e)
 exact⟨mA,⟨ob,n,ne⟩,r,q,z,d⟩
end
structure zJ (K:W.Frag) (C:Addr):Prop where
 pg:PySem.W.plainGet K C Str.empty=true
 hd:PySem.W.hasDictIn K C=true
 po:PySem.W.plainOver K C=true
 sa:PySem.W.findIn K (.ref C) "__setattr__"=some (some (.builtin "object.__setattr__"))
theorem zJ.get{K:W.Frag}{C:Addr}(c:zJ K C)(f:Str):PySem.W.plainGet K C f=true:=c.pg
def dn(K:W.Frag)(C:Addr)(f:Str):Prop:=PySem.W.findIn K (.ref C) f=some none
theorem dn.Qq{K:W.Frag}{C:Addr}(n:dn K C f):PySem.W.takerIn K C f=some none:=by
 unfold PySem.W.takerIn;rw[show PySem.W.findIn K (.ref C) f=some none from n]
 rfl
structure WH (K:W.Frag) (C:Addr) (f:Str) (v:V) (u:Value):Prop where
 at_:PySem.W.findIn K (.ref C) f=some (some u)
 rel:RelV v u
 get:PySem.W.specialIn K u "__get__"=some none
 cp:PySem.W.copiedNames.contains f=false
structure Meth (K:W.Frag) (C:Addr) (m:Str) (f:Addr):Prop where
 at_:PySem.W.findIn K (.ref C) m=some (some (.ref f))
 fn:PySem.W.isFn K (.ref f)=true
 kp:PySem.W.keepIn K (.ref f)=true
section
variable {X:Cx} {pins:List (Addr × Obj)} {σ:St} {H:Hp} {s:Shared} {a C dx:Addr} {fs:List (Str × V)} {f:Str} {v:V} {A:Around} {E:Value->Shared->Prop}
theorem Ce{b:Bool}{Q:Value->Shared->Prop}(I:Inv X pins σ H s)(e:H a=some (.ins C dx fs))(c:zJ X.K C)(n:dn X.K C f)(l:fs.lookup f=some v)
 (h:∀u s',Inv X pins σ H s'->RelV v u->Q u s'):wpAny (model X.prog X.w) A (getAttr (.ref a) f b) Q E s:=by
 obtain⟨mA,O,r,_,_,_⟩:=u9 I.hok e;obtain⟨u,hu,ru⟩:=pO.some_of (v:=v) (o:=mA f) (by rw[<-l];exact r f)
 exact get_map I.sk O (c.get f) c.hd n hu (Fm ru) (h u _ (I.tok _) ru)
theorem Cg{m:Str}{g:Addr}{pl:Sem Bool}{Q:Value × List Value->Shared->Prop}(I:Inv X pins σ H s)(e:H a=some (.ins C dx fs))(c:zJ X.K C)(k:Meth X.K C m g)(l:fs.lookup m=none)
 (h:Q (.ref g,[.ref a]) s):wpAny (model X.prog X.w) A (getMethod (.ref a) m pl) Q E s:=by
 obtain⟨mA,O,r,_,_,_⟩:=u9 I.hok e;have hn:mA m=none:=pO.none_of (by rw[<-l];exact r m)
 exact II I.sk O (c.get m) k.at_ k.fn hn h
theorem B7{y:V}{u:Value}{Q:Unit->Shared->Prop}(I:Inv X pins σ H s)(e:H a=some (.ins C dx fs))(c:zJ X.K C)(n:dn X.K C f)(hl:fs.length < 1000)(ry:RelV y u)
 (h:∀s',Inv X pins σ (upd H a (.ins C dx (lQ f y fs))) s'->Q () s'):wpAny (model X.prog X.w) A (setAttr (.ref a) f u) Q E s:=by
 obtain⟨mA,O,r,wi,_,ho⟩:=u9 I.hok e;have hz:(fs.map (·.1)).length<=sizeLine:=by rw[List.length_map,sizeLine_eq];omega
 refine JT I.sk O c.sa c.po n.Qq c.hd wi hz fun h' O' sb=>h _ ?_
 have hd:∃o,h'.get? dx=some o:=let⟨o,_,_,e',_⟩:=O'.ns;⟨o,e'⟩
 refine I.write (x:=a) (e:=dx) (by rw[e];exact True.intro) (.inr ho) (fun b q hb z=>(sb.2 b hb).trans z) hd ?_
 refine⟨by rw[br O.ne];exact ho,?_,O.ne,O'.obj,_,O'.ns,fun g=>?_,fun g hg=>?_⟩
 .have:=t_ f y fs;omega
 .show pO ((lQ f y fs).lookup g) (if g=f then some u else mA g)
  rw[t5];by_cases q:g=f
  .rw [if_pos q,if_pos q];exact ry
  .rw [if_neg q,if_neg q];exact r g
 .by_cases q:g=f
  .rw [q];exact(sL f y fs).1
  .refine(sL f y fs).2 g (wi g fun z=>hg ?_)
   show(if g=f then some u else mA g)=none
   rw[if_neg q];exact z
theorem Inv.made(I:Inv X pins σ H s):Inv X pins σ (upd (upd H s.heap.objs.size (.own (s.heap.objs.size+1))) (s.heap.objs.size+1) (.ins C s.heap.objs.size []))
 {s with heap:=(s.heap.push PySem.W.emptyDict).push (PySem.W.instObj C s.heap.objs.size)}:=by
 have e1:(s.heap.push PySem.W.emptyDict).get? s.heap.objs.size=some PySem.W.emptyDict:=Heap.get?_push_size s.heap rfl;have e2:((s.heap.push PySem.W.emptyDict).push (PySem.W.instObj C s.heap.objs.size)).get? (s.heap.objs.size+1)=some (PySem.W.instObj C s.heap.objs.size):=by
  have:=Heap.get?_push_size (s.heap.push PySem.W.emptyDict) (o:=PySem.W.instObj C s.heap.objs.size) rfl
  rwa [Heap.size_push] at this
 have e3:(s.heap.push PySem.W.emptyDict).Ns s.heap.objs.size (fun _=>none):=⟨PySem.W.emptyDict,#[],_,e1,rfl,(fun e he=>absurd he (by simp)),fun _=>rfl⟩
 have I1:=I.laid (a:=s.heap.objs.size) (o:= .own (s.heap.objs.size+1)) (h':=s.heap.push PySem.W.emptyDict) (t':=s.toks) (fun b u q=>Heap.get?_push_of_some _ q) (Nat.le_refl _) ⟨_,e1⟩
 refine I1.laid (a:=s.heap.objs.size+1) (o:= .ins C s.heap.objs.size []) (t':=s.toks) (fun b u q=>Heap.get?_push_of_some _ q) (Nat.le_of_eq (Heap.size_push _ _)) ?_
 have ne:s.heap.objs.size≠s.heap.objs.size+1:=Nat.ne_of_lt (Nat.lt_succ_self _);refine⟨by rw[br ne,aV],Nat.zero_le _,ne,e2,fun _=>none,(Heap.Ns1.of_empty e3).at fun o q=>Heap.get?_push_of_some _ q,fun _=>True.intro,fun y hy=>absurd rfl hy⟩
theorem Lr{prog:Program}{w:World}{env:Env}{e:Expr}{f:Str}{pos:Pos}{s:Shared}{Q:Value->Shared->Prop}(hb:attributeBase e f env (eval e env)=eval e env)
 (h:wpAny (model prog w) A (eval e env) (fun o s₁=>wpAny (model prog w) A (getAttr o f true) Q E s₁) E s):wpAny (model prog w) A (eval (.Attribute e f pos) env) Q E s:=
 Attribute_any_ h (by rw[arm_eval_Attribute,hb])
end
def SR(K:W.Frag)(ta:TE)(f:Str):TE:=fun σ H Q=>ta σ H fun x H1=>∃a C dx fs v,x= .ref a/\H1 a=some (.ins C dx fs)/\zJ K C/\dn K C f/\fs.lookup f=some v/\Q v H1
def VT(K:W.Frag)(ta:TE)(f:Str):TE:=fun σ H Q=>ta σ H fun x H1=>∃a C dx fs v u,x= .ref a/\H1 a=some (.ins C dx fs)/\zJ K C/\WH K C f v u/\fs.lookup f=none/\Q v H1
def SS(K:W.Frag)(ta tv:TE)(f:Str):TS:=fun D σ H=>tv σ H fun y H1=>ta σ H1 fun x H2=>∃a C dx fs,x= .ref a/\H2 a=some (.ins C dx fs)/\zJ K C/\dn K C f/\fs.length < 1000/\
 D.nx σ (upd H2 a (.ins C dx (lQ f y fs)))
def Wz(X:Cx)(op:Operator)(rd:V->V->Hp->VK->Prop):Prop:=
 ∀(pins:List (Addr × Obj)) (s:Shared) (σ:St) (H:Hp) (x y:V) (u v:Value) (Q:VK),Inv X pins σ H s->RelV x u->RelV y v->rd x y H Q->wpAny (model X.prog X.w) X.A (inplaceOp op u v) (EP X pins σ Q) X.xe s
def Rz(K:W.Frag)(ta tv:TE)(rd:V->V->Hp->VK->Prop)(f:Str):TS:=fun D σ H=>ta σ H fun x H1=>∃a C dx fs v,x= .ref a/\H1 a=some (.ins C dx fs)/\zJ K C/\dn K C f/\fs.lookup f=some v/\
 tv σ H1 fun y H2=>rd v y H2 fun z H3=>∃dx' Pj,H3 a=some (.ins C dx' Pj)/\Pj.length < 1000/\D.nx σ (upd H3 a (.ins C dx' (lQ f z Pj)))
section
variable {X:Cx} {o e value:Expr} {f:Str} {pos pos' tP:Pos} {ta tv:TE}
theorem NY(he:PE X e ta)(hb:attributeBase e f X.env (eval e X.env)=eval e X.env):PE X (.Attribute e f pos) (SR X.K ta f):=by
 intro pins s σ H Q I h;refine Lr hb (dR (he pins s σ H _ I h) fun u s1 ⟨x,H1,I1,rx,a,C,dx,fs,v,ex,ea,c,n,l,q⟩=>?_)
 subst ex;obtain rfl:u=Value.ref a:=rx;exact Ce I1 ea c n l fun u' s2 I2 ru=>⟨v,H1,I2,ru,q⟩
theorem MG(ha:PE X o ta)(hv:PE X value tv)(hs:swapsWith value (some (.Attribute o f pos')) pos.line X.env=pure false):PS X (.Assign [.Attribute o f pos'] value pos) (SS X.K ta tv f):=by
 intro pins s σ H D I h;refine plainObj_wpAny_Assign_Attribute (dR (hv pins s σ H _ I h) fun u s1 ⟨y,H1,I1,ry,q⟩=>dR (ha pins s1 σ H1 _ I1 q) fun ov s2 ⟨x,H2,I2,rx,a,C,dx,fs,ex,ea,c,n,l,q2⟩=>?_) hs
 subst ex;obtain rfl:ov=Value.ref a:=rx;exact B7 I2 ea c n l ry fun s3 I3=>⟨σ,_,I3,q2⟩
def WE:V->V->Hp->VK->Prop:=fun x y H Q=>∃i j,x= .int i/\y= .int j/\Q (.int (i+j)) H
def V2:V->V->Hp->VK->Prop:=fun x y H Q=>∃i j,x= .int i/\y= .int j/\Q (.int (i - j)) H
end
section
variable {X:Cx} {pins:List (Addr × Obj)} {σ:St} {H:Hp} {s:Shared} {A:Around} {E:Value->Shared->Prop} {Q:Value->Shared->Prop} {c:Value} {b:Bool}
inductive uT (K:W.Frag) (H:Hp):V->Value->Prop where
 | cK:uT K H .cK (.type "NoneType")
 | bl (x:Bool):uT K H (.bl x) (.type "bool")
 | int (i:Int):uT K H (.int i) (.type "int")
 | str (x:Str):uT K H (.str x) (.type "str")
 | flt (x:UInt64):uT K H (.flt x) (.type "float")
 | lst {a:Addr} {xs:List V} (e:H a=some (.lst xs)):uT K H (.ref a) (.type "list")
 | lp {a:Addr} {o:Obj} {xs:List V} (e:H a=some (.lp o (.lst xs))):uT K H (.ref a) (.type "list")
 | tup {a:Addr} {xs:List V} (e:H a=some (.tup xs)):uT K H (.ref a) (.type "tuple")
 | dK {a:Addr} {kvs:List (Key × V)} (e:H a=some (.dK kvs)):uT K H (.ref a) (.type "dict")
 | dT {a:Addr} {kvs:List (List Key × V)} (e:H a=some (.dT kvs)):uT K H (.ref a) (.type "dict")
 | ins {a C dx:Addr} {fs:List (Str × V)} (e:H a=some (.ins C dx fs)) (cl:zJ K C) (ha:PySem.W.findIn K (.ref C) "__class__"=some (some (.builtin "object.__class__")))
    (hn:PySem.W.specialIn K (.builtin "object.__class__") "__get__"=some (some (.builtin "getset_descriptor.__get__"))) (VL:PySem.W.takesIn K (.builtin "object.__class__")=some true)
    (hm:PySem.W.mroIn K C (.type "object")=some true):uT K H (.ref a) (.ref C)
theorem pz{x:V}{u t:Value}(I:Inv X pins σ H s)(rx:RelV x u)(ty:uT X.K H x t)(e:PySem.W.kitOne X.K t c=some b)(h:∀tk,Q (.bool b) {s with toks:=tk}) :
 wpAny (model X.prog X.w) A (call (.builtin "isinstance") [u,c]) Q E s:=by
 cases ty with
 | cK=>cases(show u=Value.none from rx);exact PySem.W.kia_one PySem.W.kitx_none I.sk True.intro e (fun z=>nomatch z) h
 | bl y=>cases(show u=Value.bool y from rx);exact PySem.W.kia_one PySem.W.kitx_bool I.sk True.intro e (fun z=>nomatch z) h
 | int i=>obtain⟨t,q⟩:=(show ∃t,u=Value.int i t from rx);cases q;exact PySem.W.kia_one PySem.W.kitx_int I.sk True.intro e (fun z=>nomatch z) h
 | str y=>obtain⟨t,q⟩:=(show ∃t,u=Value.str y t from rx);cases q;exact PySem.W.kia_one PySem.W.kitx_str I.sk True.intro e (fun z=>nomatch z) h
 | flt y=>obtain⟨t,q⟩:=(show ∃t,u=Value.float y t from rx);cases q;exact PySem.W.kia_one PySem.W.kitx_float I.sk True.intro e (fun z=>nomatch z) h
 | @lst a xs ea=>
   cases(show u=Value.ref a from rx)
   obtain⟨_,_,n,_,h1⟩:=(show dQ X.prog X.w H s.heap a (.lst xs) from I.hok a _ ea)
   exact PySem.W.kia_one PySem.W.kitx_list I.sk ⟨_,h1,rfl⟩ e (fun z=>nomatch z) h
 | @lp a ob xs ea=>
   cases(show u=Value.ref a from rx)
   obtain⟨_,_,_,n,_,h1⟩:=(show dQ X.prog X.w H s.heap a (.lp ob (.lst xs)) from I.hok a _ ea)
   exact PySem.W.kia_one PySem.W.kitx_list I.sk ⟨_,h1,rfl⟩ e (fun z=>nomatch z) h
 | @tup a xs ea=>
   cases(show u=Value.ref a from rx)
   obtain⟨_,_,_,p⟩:=(show dQ X.prog X.w H s.heap a (.tup xs) from I.hok a _ ea)
   obtain⟨o,h1,h2,_⟩:=p;exact PySem.W.kia_one PySem.W.kitx_tuple I.sk ⟨o,h1,h2⟩ e (fun z=>nomatch z) h
 | @dK a kvs ea=>
   cases(show u=Value.ref a from rx)
   obtain⟨_,_,vs,_,p⟩:=(show dQ X.prog X.w H s.heap a (.dK kvs) from I.hok a _ ea)
   obtain⟨o,es,ep,h1,h2,_⟩:=p;exact PySem.W.kia_one PySem.W.kitx_dict I.sk ⟨o,h1,h2.1⟩ e (fun z=>nomatch z) h
 | @dT a kvs ea=>
   cases(show u=Value.ref a from rx)
   obtain⟨_,_,xs,_,o,es,ep,h1,h2,_⟩:=(show dQ X.prog X.w H s.heap a (.dT kvs) from I.hok a _ ea)
   exact PySem.W.kia_one PySem.W.kitx_dict I.sk ⟨o,h1,h2.1⟩ e (fun z=>nomatch z) h
 | @ins a C dx fs ea cl ha hn VL hm=>
   cases(show u=Value.ref a from rx)
   obtain⟨mA,O,_⟩:=u9 I.hok ea;obtain⟨od,J,_⟩:=O.look;exact PySem.W.kia_one (PySem.W.kitx_own (cl.get _) cl.hd ha hn VL hm) I.sk J e (fun z=>nomatch z) h
end
structure eX (k:Nat) (A:Around):Prop where
 hd:A.handled=none
 dp:A.depth+3*k+5 < recursionLimit
 un:A.units+16*k+200 < cLine
theorem eX.mono{j k:Nat}(r:eX k A)(h:j<=k):eX j A:=⟨r.hd,by have:=r.dp;omega,by have:=r.un;omega⟩
theorem eX.deeper{k:Nat}{A:Around}(r:eX (k+1) A)(env:Env):eX k (A.deeper env):=
 ⟨r.hd,by have:=r.dp;show A.depth+1+3*k+5 < _;omega,by have:=r.un;show A.units+3+16*k+200 < _;omega⟩
theorem BO{A:Around}{C:Addr}{us:List Value}{kw:List (Str × Value)}:(A.under (.builtin "type.__call__" ⟨.ref C ::us,kw⟩)).depth=A.depth+1:=by
 first | rfl | simp [Around.under,Code.weight,Code.isCreation,Code.isGuard,Code.isCaller,Code.frames,Code.isFrame,guardIds]
theorem BM{A:Around}{C:Addr}{us:List Value}{kw:List (Str × Value)}:(A.under (.builtin "type.__call__" ⟨.ref C ::us,kw⟩)).units=A.units+1:=by
 first | rfl | simp [Around.under,Code.cUnits,Code.frames,Code.isFrame]
theorem eX.make{k:Nat}{A:Around}(r:eX (k+1) A)(C:Addr)(us:List Value)(kw:List (Str × Value)):eX k (A.under (.builtin "type.__call__" ⟨.ref C ::us,kw⟩)):=
 ⟨r.hd,by have:=r.dp;rw [BO];omega,by have:=r.un;rw [BM];omega⟩
theorem eX.depth{k:Nat}{A:Around}(r:eX k A):A.depth < recursionLimit:=by have:=r.dp;omega
theorem eX.units{k:Nat}{A:Around}(r:eX k A):A.units+64 < cLine:=by have:=r.un;omega
def Sd:TA:=fun _ H Q=>Q [] H
def Qo(ta:TE)(tr:TA):TA:=fun σ H Q=>ta σ H fun x H1=>tr σ H1 fun xs H2=>Q (x ::xs) H2
section
variable {X:Cx} {e:Expr} {es:List Expr} {te:TE} {t:TA} {pos:Pos}
theorem gI:PA X [] Sd:=fun _ _ _ _ H Q I h=>Calls.spliced_nil ⟨[],H,I, .nil,h⟩
theorem dF(ha:PE X e te)(hr:PA X es t)(hs:starEach (e ::es) X.env=(false,eval e X.env) ::starEach es X.env:=by rfl):PA X (e ::es) (Qo te t):=by
 intro pos pins s σ H Q I h;rw[hs];show wpAny _ _ (spliced ((false,eval e X.env) ::backTo pos (starEach es X.env))) _ _ s;refine Calls.spliced_cons (dR (ha pins s σ H _ I h) fun u s1 ⟨x,H1,I1,r1,q1⟩=>?_)
 exact dR (hr pos pins s1 σ H1 _ I1 q1) fun us s2 ⟨xs,H2,I2,r2,q2⟩=>⟨x ::xs,H2,I2, .cons r1 r2,q2⟩
def Sr(t:TA):TE:=fun σ H Q=>t σ H fun xs H1=>xs.length<=sizeLine/\∀p,H1 p=none->Q (.ref p) (upd H1 p (.tup xs))
def SM(t:TA):TE:=fun σ H Q=>t σ H fun xs H1=>xs.length<=sizeLine/\∀p,H1 p=none->Q (.ref p) (upd H1 p (.lst xs))
theorem Hk{x1}(h:PA X es t):PE X (.Tuple es x1 pos) (Sr t):=by
 intro pins s σ H Q I hq;refine wpAny_Tuple_spliced (dR (h pos pins s σ H _ I hq) fun us s1 ⟨xs,H1,I1,r,z,q⟩=>⟨by rw[<-r.length];exact z,?_⟩)
 have hf:H1 s1.heap.objs.size=none:=I1.hok.fresh (Nat.le_refl _);refine⟨.ref s1.heap.objs.size,upd H1 s1.heap.objs.size (.tup xs),I1.laid (t':=s1.toks) (fun b u e=>Heap.get?_push_of_some _ e) (Nat.le_refl _) ?_,rfl,q _ hf⟩
 exact⟨z,us,r,⟨_,Heap.get?_push_size _ rfl,rfl,_,rfl⟩⟩
theorem IE(h:PA X es t):PE X (.List es pos) (SM t):=by
 intro pins s σ H Q I hq;refine wpAny_List_spliced (dR (h pos pins s σ H _ I hq) fun us s1 ⟨xs,H1,I1,r,z,q⟩=>⟨by rw[<-r.length];exact z,?_⟩)
 have hf:H1 s1.heap.objs.size=none:=I1.hok.fresh (Nat.le_refl _);refine⟨.ref s1.heap.objs.size,upd H1 s1.heap.objs.size (.lst xs),I1.laid (t':=s1.toks) (fun b u e=>Heap.get?_push_of_some _ e) (Nat.le_refl _) ?_,rfl,q _ hf⟩
 exact⟨z,us,0,r,Heap.get?_push_size _ rfl⟩
end
abbrev Sp:=List V->Hp->VK->XK->Prop
abbrev Gm:=List Env->Hp->Shared->XK->Value->Shared->Prop
structure BY (P:Program) (w:World) (K:W.Frag) (mg:Str->Option Value) (base:Heap) (A:Around) (outer:List Env) (s:Shared) (H:Hp):Prop where
 frames:A.frames=some outer
 mod:Mod K mg base
 bs:∀b o,base.get? b=some o->s.heap.get? b=some o/\H b=none
 bsz:base.objs.size<=s.heap.objs.size
 uY:s.heap.FunFrames base outer
 frf:∀b∈F9 outer,H b=none
 hok:pN P w H s.heap
 bare:AllBare s.gens
def CE(outer:List Env)(P:Program)(w:World)(H:Hp)(s:Shared)(Q:VK)(u:Value)(s':Shared):Prop:=
 ∃v H',s'.os=s.os/\AllBare s'.gens/\Un (F9 outer) [] H H' s.heap s'.heap/\pN P w H' s'.heap/\RelV v u/\Q v H'
def CR(CX:Gm)(outer:List Env)(P:Program)(w:World)(H:Hp)(s:Shared)(Q:VK)(E:XK)(r:Result)(s':Shared):Prop:=
 match r with
 | .ok (.ret u)=>CE outer P w H s Q u s'
 | .ok _=>False
 | .error e=>CX outer H s E e s'
structure jI (P:Program) (w:World) (K:W.Frag) (mg:Str->Option Value) (base:Heap) (CX:Gm) (k:Nat) (f:Addr) (fd:FuncData) (ps:List Str) (sp:Sp):Prop where
 len:∀vs H Q E,sp vs H Q E->vs.length=ps.length
 run:∀(A:Around) (outer:List Env) (s:Shared) (H:Hp) (args:Args) (us:List Value) (vs:List V) (Q:VK) (E:XK),eX k A->BY P w K mg base A outer s H->BindsTo s fd args (ps.zip us)->Vals vs us->sp vs H Q E->
  codeAny (model P w) A (.call (.ref f) args) (CR CX outer P w H s Q E) s
theorem jI.imp{P:Program}{w:World}{K:W.Frag}{mg:Str->Option Value}{base:Heap}{CX:Gm}{k:Nat}{f:Addr}{fd:FuncData}{ps:List Str}{sp Vy:Sp}(F:jI P w K mg base CX k f fd ps sp)
 (h:∀vs H Q E,Vy vs H Q E->sp vs H Q E):jI P w K mg base CX k f fd ps Vy:=
 ⟨fun vs H Q E q=>F.len vs H Q E (h _ _ _ _ q),fun A outer s H args us vs Q E hr he hb hv hs=>F.run A outer s H args us vs Q E hr he hb hv (h _ _ _ _ hs)⟩
theorem BY.make{K:W.Frag}{outer:List Env}{s:Shared}(e:BY P w K mg base A outer s H)(C:Addr)(us:List Value)(kw:List (Str × Value)) :
 BY P w K mg base (A.under (.builtin "type.__call__" ⟨.ref C ::us,kw⟩)) outer s H:=⟨by first | exact e.frames | (simpa [Around.under,Code.envs,Code.isFrame,pushEnvs] using e.frames),e.mod,e.bs,e.bsz,e.uY,e.frf,e.hok,e.bare⟩
section
variable {X:Cx} {pins:List (Addr × Obj)} {σ:St} {H:Hp} {s s':Shared}
theorem Inv.QE(I:Inv X pins σ H s):BY X.prog X.w X.K X.mg X.base X.A X.stack s H:=
 ⟨I.ok.frames,I.ok.mod,I.bs,Nat.le_trans I.ok.bsz I.sz,I.stack,I.Dm,I.hok,I.bare⟩
theorem Inv.after{Q:VK}{u:Value}(I:Inv X pins σ H s)(h:CE X.stack X.prog X.w H s Q u s'):EP X pins σ Q u s':=by
 obtain⟨v,H',os,bare,un,hok,r,q⟩:=h;obtain⟨hh,g,d,t,WU⟩:=s';obtain rfl:WU=s.os:=os;exact⟨v,H',I.call (h':=hh) (g':=g) (d':=d) (t':=t) (ch:=[]) un hok bare (fun b z=>absurd z (by simp)),r,q⟩
end
def PH(sp:Sp)(zD:List V)(E:XK)(t:TA):TE:=fun σ H Q=>t σ H fun vs H1=>sp (vs++zD) H1 Q E
def PY(C:Addr)(m:Str)(sp:Sp)(zD:List V)(E:XK)(ta:TE)(t:TA):TE:=fun σ H Q=>ta σ H fun x H1=>∃a dx fs,x= .ref a/\H1 a=some (.ins C dx fs)/\fs.lookup m=none/\
 t σ H1 fun vs H2=>sp (x ::(vs++zD)) H2 Q E
def P0(C:Addr)(sp:Sp)(zD:List V)(E:XK)(t:TA):TE:=fun σ H Q=>t σ H fun vs H1=>∀x dx,H1 x=none->H1 dx=none->dx≠x->
 sp (.ref x ::(vs++zD)) (upd (upd H1 dx (.own x)) x (.ins C dx [])) (fun v H2=>v= .cK/\Q (.ref x) H2) E
def Binds(K:W.Frag)(fd:FuncData)(ps:List Str)(ds:List Value):Prop:=
 ∀(s:Shared) (us:List Value),K.In s.heap->(us++ds).length=ps.length->BindsTo s fd ⟨us,[]⟩ (ps.zip (us++ds))
theorem Binds.all{K:W.Frag}{fd:FuncData}{ps:List Str}(h:∀us:List Value,us.length=ps.length->bindArgs fd ⟨us,[]⟩=pure (ps.zip us)):Binds K fd ps []:=fun s us _ hl=>by
 rw[List.append_nil] at hl ⊢;exact .of_eq (h us hl)
def Passes(CX:Gm)(X:Cx)(E:XK):Prop:=∀(pins:List (Addr × Obj)) (σ:St) (H:Hp) (s:Shared) (e:Value) (s':Shared),Inv X pins σ H s->CX X.stack H s E e s'->X.xe e s'
section
variable {X:Cx} {CX:Gm} {k:Nat} {f C:Addr} {fd:FuncData} {ps:List Str} {sp:Sp} {zD:List V} {ds:List Value} {E:XK} {x m:Str} {p pos apos:Pos} {e o:Expr} {es:List Expr} {ta:TE} {t:TA}
theorem HD{pins:List (Addr × Obj)}{σ:St}{H:Hp}{s:Shared}{Q:VK}{us:List Value}{vs:List V}(F:jI X.prog X.w X.K X.mg X.base CX k f fd ps sp)(hr:eX k X.A)(hb:Binds X.K fd ps ds)(hd:Vals zD ds)(hx:Passes CX X E)
 (I:Inv X pins σ H s) (r:Vals vs us) (h:sp (vs++zD) H Q E):wpAny (model X.prog X.w) X.A (call (.ref f) us) (EP X pins σ Q) X.xe s:=by
 have r2:Vals (vs++zD) (us++ds):=r.append hd;have hl:(us++ds).length=ps.length:=by rw[<-r2.length];exact F.len _ _ _ _ h
 refine wpAny_call (codeAny_mono (F.run X.A X.stack s H ⟨us,[]⟩ (us++ds) (vs++zD) Q E hr I.QE (hb s us I.sk hl) r2 h) fun r s' hq=>?_)
 cases r with
 | error e=>exact hx pins σ H s e s' I hq
 | ok fl=>
   cases fl with
   | ret u=>exact I.after hq
   | next=>exact False.elim hq
   | brk=>exact False.elim hq
   | cont=>exact False.elim hq
theorem zk(F:jI X.prog X.w X.K X.mg X.base CX k f fd ps sp)(hr:eX k X.A)(hg:Gl X x)(hm:X.mg x=some (.ref f))(hk:PySem.W.keepIn X.K (.ref f)=true)(hb:Binds X.K fd ps ds)(hd:Vals zD ds)(hx:Passes CX X E)
 (ha:PA X (e ::es) t) (qP:(x==("__debug__":Str))=false:=by decide) (he:starEach (e ::es) X.env=(false,eval e X.env) ::starEach es X.env:=by rfl) (lT:(backTo pos (starEach es X.env)).any (·.1)=false:=by rfl) :
 PE X (.Call (.Name x p) (e ::es) [] pos) (PH sp zD E t):=by
 intro pins s σ H Q I h;refine wpAny_Call_Name_kw (DS I hg hm ?_ qP);refine PySem.W.callWith_K (h₀:=X.base) I.ok.mod.kin hk (dR (ha pos pins s σ H _ I h) fun us s1 ⟨vs,H1,I1,r,q⟩=>⟨I1.sk,?_⟩) he lT
 exact HD F hr hb hd hx I1 r q
theorem Lm{pl:Sem Bool}(he:PE X o ta)(c:zJ X.K C)(hm:Meth X.K C m f)(F:jI X.prog X.w X.K X.mg X.base CX k f fd ps sp)(hr:eX k X.A)(hb:Binds X.K fd ps ds)(hd:Vals zD ds)(hx:Passes CX X E)(ha:PA X (e ::es) t)
 (Jj:starEach (e ::es) X.env=(false,eval e X.env) ::starEach es X.env:=by rfl) (lT:(backTo pos (starEach es X.env)).any (·.1)=false:=by rfl)
 (ht:eval (.Call (.Attribute o m apos) (e ::es) [] pos) X.env=(do
   let ov <-eval o X.env
   standAt apos.atName
   let(f,first) <-holding [ov] (getMethod ov m pl)
   callWith pos f first (backTo pos (starEach (e ::es) X.env)) (backToKw pos (keywordEach [] X.env))):=by rfl) :
 PE X (.Call (.Attribute o m apos) (e ::es) [] pos) (PY C m sp zD E ta t):=by
 intro pins s σ H Q I h;refine PySem.W.methodCall_KW (pl:=pl) (dR (he pins s σ H _ I h) fun u s1 ⟨x,H1,I1,rx,a,dx,fs,ex,ea,l,q⟩=>?_) ht
 subst ex;obtain rfl:u=Value.ref a:=rx;refine Cg I1 ea c hm l ?_;refine PySem.W.callWith_K (first:=[.ref a]) (h₀:=X.base) I.ok.mod.kin hm.kp (dR (ha pos pins s1 σ H1 _ I1 q) fun us s2 ⟨vs,H2,I2,r,q2⟩=>⟨I2.sk,?_⟩) Jj lT
 exact HD (us:= .ref a ::us) (vs:= .ref a ::vs) F hr hb hd hx I2 (.cons rfl r) q2
structure Mk (K:W.Frag) (C f:Addr):Prop where
 makes:PySem.W.makesIn K C=true
 init:PySem.W.findIn K (.ref C) "__init__"=some (some (.ref f))
 fn:PySem.W.isFn K (.ref f)=true
 kp:PySem.W.keepIn K (.ref C)=true
theorem Ij{pins:List (Addr × Obj)}{σ:St}{H:Hp}{s:Shared}{Q:VK}{us:List Value}{vs:List V}(M:Mk X.K C f)(F:jI X.prog X.w X.K X.mg X.base CX k f fd ps sp)(hr:eX (k+1) X.A)(hb:Binds X.K fd ps ds)(hd:Vals zD ds)
 (hx:Passes CX X E) (I:Inv X pins σ H s) (r:Vals vs us)
 (h:∀x dx,H x=none->H dx=none->dx≠x->sp (.ref x ::(vs++zD)) (upd (upd H dx (.own x)) x (.ins C dx [])) (fun v H2=>v= .cK/\Q (.ref x) H2) E) :
 wpAny (model X.prog X.w) X.A (call (.ref C) us) (EP X pins σ Q) X.xe s:=by
 have hq:=h (s.heap.objs.size+1) s.heap.objs.size (I.hok.fresh (Nat.le_succ _)) (I.hok.fresh (Nat.le_refl _)) (Nat.ne_of_lt (Nat.lt_succ_self _));have I2:=Inv.made (C:=C) I;have r2:Vals (V.ref (s.heap.objs.size+1) ::(vs++zD)) (Value.ref (s.heap.objs.size+1) ::(us++ds)):= .cons rfl (r.append hd);have hl:(Value.ref (s.heap.objs.size+1) ::us++ds).length=ps.length:=by
  have e:=r2.length;rw[F.len _ _ _ _ hq] at e;exact e.symm
 refine wpAny_call (IS (f:=f) I.sk M.makes M.init (beq_iff_eq.mp M.fn) (codeAny_mono (F.run _ X.stack _ _ ⟨Value.ref (s.heap.objs.size+1) ::us,[]⟩ (Value.ref (s.heap.objs.size+1) ::(us++ds)) _ _ E (hr.make C us [])
  (I2.QE.make C us []) (hb _ (Value.ref (s.heap.objs.size+1) ::us) I2.sk hl) r2 hq) fun r s' Q5=>?_))
 cases r with
 | error e=>exact hx pins σ _ _ e s' I2 Q5
 | ok fl=>
   cases fl with
   | ret u=>
     obtain⟨v,H',I3,rv,ev,q3⟩:=I2.after Q5;subst ev;exact⟨rv,⟨V.ref (s.heap.objs.size+1),H',I3,rfl,q3⟩⟩
   | next=>exact False.elim Q5
   | brk=>exact False.elim Q5
   | cont=>exact False.elim Q5
theorem Kb(M:Mk X.K C f)(F:jI X.prog X.w X.K X.mg X.base CX k f fd ps sp)(hr:eX (k+1) X.A)(hg:Gl X x)(hm:X.mg x=some (.ref C))(hb:Binds X.K fd ps ds)(hd:Vals zD ds)(hx:Passes CX X E)
 (ha:PA X (e ::es) t) (qP:(x==("__debug__":Str))=false:=by decide) (he:starEach (e ::es) X.env=(false,eval e X.env) ::starEach es X.env:=by rfl) (lT:(backTo pos (starEach es X.env)).any (·.1)=false:=by rfl) :
 PE X (.Call (.Name x p) (e ::es) [] pos) (P0 C sp zD E t):=by
 intro pins s σ H Q I h;refine wpAny_Call_Name_kw (DS I hg hm ?_ qP);refine PySem.W.callWith_K (h₀:=X.base) I.ok.mod.kin M.kp (dR (ha pos pins s σ H _ I h) fun us s1 ⟨vs,H1,I1,r,q⟩=>⟨I1.sk,?_⟩) he lT
 exact Ij M F hr hb hd hx I1 r q
end
def PK(X:Cx)(VF:List Keyword)(t:TA):Prop:=
 ∀(pos:Pos) (pins:List (Addr × Obj)) (s:Shared) (σ:St) (H:Hp) (Q:List V->Hp->Prop),Inv X pins σ H s->t σ H Q->wpAny (model X.prog X.w) X.A (evalAll ((backToKw pos (keywordEach VF X.env)).map (·.2))) (AP X pins σ Q) X.xe s
section
variable {X:Cx} {CX:Gm} {k:Nat} {f C:Addr} {fd:FuncData} {ps ks:List Str} {sp:Sp} {E:XK} {x m:Str} {p pos apos X0:Pos} {e o:Expr} {es:List Expr} {VF:List Keyword} {te ta:TE} {t tk:TA} {nm:Option Str}
structure RX (K:W.Frag) (fd:FuncData) (ps ks:List Str) (g:List Value->List Value->List Value) (gV:List V->List V->List V):Prop where
 to:∀(s:Shared) (us ws:List Value),K.In s.heap->(g us ws).length=ps.length->BindsTo s fd ⟨us,ks.zip ws⟩ (ps.zip (g us ws))
 rel:∀{vs:List V} {us:List Value} {zs:List V} {ws:List Value},Vals vs us->Vals zs ws->Vals (gV vs zs) (g us ws)
def Ss(sp:Sp)(gV:List V->List V->List V)(E:XK)(t tk:TA):TE:=fun σ H Q=>t σ H fun vs H1=>tk σ H1 fun zs H2=>sp (gV vs zs) H2 Q E
variable {g:List Value->List Value->List Value} {gV:List V->List V->List V}
end
structure aW (N P:List Str) (sc:Scope):Prop where
 kind:sc.kind= .function
 co:sc.isCoroutine=false
 gen:sc.isGenerator=false
 nd:N.Nodup
 pre:N.take P.length=P
 par:∀x∈P,sc.names.lookup x=some .local\/sc.names.lookup x=some .cell
 nofree:∀y∈sc.names,y.2≠ .free
theorem yD{kindOf:Str->Option NameKind}:∀{binds:List (Str × Value)} {m:Str->Option Value},(∀v,(x,v) ∉ binds)->bindL kindOf binds m x=m x
 | [],_,_=>rfl
 | (n,v) ::r,m,h=>by
   unfold bindL;rw[yD fun w hw=>h w (List.mem_cons_of_mem _ hw)]
   split
   .have:x≠n:=by rintro rfl;exact h v List.mem_cons_self
    simp [this]
   .rfl
theorem yF{kindOf:Str->Option NameKind}:∀{binds:List (Str × Value)} {m:Str->Option Value},(∀v,(x,v) ∉ binds)->bindC kindOf binds m x=m x
 | [],_,_=>rfl
 | (n,v) ::r,m,h=>by
   unfold bindC;rw[yF fun w hw=>h w (List.mem_cons_of_mem _ hw)]
   split
   .rfl
   .have:x≠n:=by rintro rfl;exact h v List.mem_cons_self
    simp [this]
theorem ye{kindOf:Str->Option NameKind}{v:Value}:∀{P:List Str} {vs:List Value} {i:Nat} {m:Str->Option Value},P.Nodup->P[i]? =some x->vs[i]? =some v->kindOf x=some .local->
 bindL kindOf (P.zip vs) m x=some v
 | [],_,_,_,_,h,_,_=>by simp at h
 | _ ::_,[],_,_,_,_,h,_=>by simp at h
 | p ::P,w ::vs,0,m,nd,h1,h2,hk=>by
   simp at h1 h2;subst h1;subst h2;show bindL kindOf ((p,w) ::P.zip vs) m p=_;unfold bindL;rw[yD fun v hv=>(List.nodup_cons.mp nd).1 (List.of_mem_zip hv).1,if_pos hk]
   simp
 | p ::P,w ::vs,i+1,m,nd,h1,h2,hk=>by
   show bindL kindOf ((p,w) ::P.zip vs) m x=_;unfold bindL;exact ye (i:=i) (List.nodup_cons.mp nd).2 (by simpa using h1) (by simpa using h2) hk
theorem x3{kindOf:Str->Option NameKind}{v:Value}:∀{P:List Str} {vs:List Value} {i:Nat} {m:Str->Option Value},P.Nodup->P[i]? =some x->vs[i]? =some v->kindOf x≠some .local->
 bindC kindOf (P.zip vs) m x=some v
 | [],_,_,_,_,h,_,_=>by simp at h
 | _ ::_,[],_,_,_,_,h,_=>by simp at h
 | p ::P,w ::vs,0,m,nd,h1,h2,hk=>by
   simp at h1 h2;subst h1;subst h2;show bindC kindOf ((p,w) ::P.zip vs) m p=_;unfold bindC;rw[yF fun v hv=>(List.nodup_cons.mp nd).1 (List.of_mem_zip hv).1,if_neg hk]
   simp
 | p ::P,w ::vs,i+1,m,nd,h1,h2,hk=>by
   show bindC kindOf ((p,w) ::P.zip vs) m x=_;unfold bindC;exact x3 (i:=i) (List.nodup_cons.mp nd).2 (by simpa using h1) (by simpa using h2) hk
def start(N:List Str)(vs:List V):St:=vs.map some++List.replicate (N.length - vs.length) none
def vz(CX:Gm)(P:Program)(w:World)(K:W.Frag)(mg:Str->Option Value)(base:Heap)(N:List Str)(qual:Str)(scope:Scope)(f:Addr)(cd:Value)(A:Around)(outer:List Env)(s:Shared)(H:Hp)(E:XK):Cx where
 prog:=P
 w:=w
 K:=K
 mg:=mg
 base:=base
 A:=A.deeper (envOfC qual scope s.heap.objs.size f cd)
 N:=N
 s₀:=s
 H₀:=H
 env:=envOfC qual scope s.heap.objs.size f cd
 outer:=outer
 stack:=envOfC qual scope s.heap.objs.size f cd ::outer
 ex:=[]
 calm:=true
 fn:=fun _=>true
 pn:=[]
 xe:=fun e s'=>wpAny (model P w) (A.deeper (envOfC qual scope s.heap.objs.size f cd)) (leaving (envOfC qual scope s.heap.objs.size f cd) e) (fun _ Ui=>CX outer H s E e Ui) (fun e' Ui=>CX outer H s E e' Ui) s'
theorem Aa{sc:Scope}{n:Nat}(h:sc.names.lookup x=some .cell):∃c,(cellsFrom n sc.names []).lookup x=some c:=by
 have q:=PySem.W.cellsFrom_some sc.names n [] (.inl h);exact Option.isSome_iff_exists.mp q
theorem EU{CX:Gm}{P:Program}{w:World}{K:W.Frag}{mg:Str->Option Value}{base:Heap}{N ps:List Str}{qual:Str}{scope:Scope}{f:Addr}{cd:Value}{A:Around}{outer:List Env}{s s1:Shared}{H:Hp}{E:XK}{us:List Value}{vs:List V}
 (S:aW N ps scope) (hd:A.handled=none) (e0:BY P w K mg base A outer s H) (hl:vs.length=ps.length) (r:Vals vs us)
 (x:InCallC s s.heap.objs.size (bindL (envOfC qual scope s.heap.objs.size f cd).kindOf (ps.zip us) fun _=>none) (cellsFrom (s.heap.objs.size+1) scope.names []) (bindC (envOfC qual scope s.heap.objs.size f cd).kindOf (ps.zip us) fun _=>none) s1) :
 Inv (vz CX P w K mg base N qual scope f cd A outer s H E) [] (start N vs) H s1:=by
 have lT:ps.length<=N.length:=by have:=congrArg List.length S.pre;rw [List.length_take] at this;omega
 obtain⟨h1,tk,rfl,hk⟩:=x.done;have noA:∀b:Addr,b ∉ (vz CX P w K mg base N qual scope f cd A outer s H E).ex:=fun b z=>absurd (show b∈([]:List Addr) from z) (by simp)
 refine⟨⟨e0.mod,S.kind,rfl,rfl,Nat.le_refl _,fun y z c h1 h2=>?_,fun y hy=>?_,fun y c _ h=>?_,fun _=>hd,Around.frames_deeper e0.frames, .inr ⟨rfl,rfl⟩,fun b z=>absurd z (noA b),e0.bs,e0.bsz,fun b _ _=>noA b,fun b z=>absurd z (noA b),e0.uY,e0.frf⟩,
  rfl,e0.bare,Un.kept hk,⟨_,x.toInCall.ns,fun i y v h1 h2 h3=>?_⟩,fun y c h=>⟨_,x.cell y c h⟩,e0.hok.fresh (Nat.le_refl _),fun y c h=>?_,fun p hp=>absurd (show p∈([]:List (Addr × Obj)) from hp) (by simp),e0.hok.kept hk,?_⟩
 .exact name_of_addr x.apart (PySem.mem_of_lookup h1) (PySem.mem_of_lookup h2)
 .have hy:scope.names.lookup y=some .cell\/scope.names.lookup y=some .free:=hy;rcases hy with hy | hy
  .exact Aa hy
  .exact absurd rfl (S.nofree _ (PySem.mem_of_lookup hy))
 .exact Nat.le_of_lt (x.above y c (PySem.mem_of_lookup h))
 .have hi:i < vs.length:=by
   unfold start at h2;by_cases hi:i < vs.length
   .exact hi
   .rw [List.getElem?_append_right (by simpa using hi)] at h2
    rw[List.getElem?_replicate] at h2;split at h2 <;> cases h2
  have ha:vs[i]? =some v:=by
   unfold start at h2;rw[List.getElem?_append_left (by simpa using hi),List.getElem?_map] at h2
   cases e:vs[i]? with
   | none=>rw [e] at h2;cases h2
   | some a=>rw [e] at h2;cases h2;rfl
  obtain⟨u,hu,rv⟩:=r.get ha;have hp:ps[i]? =some y:=by
   rw[<-S.pre,List.getElem?_take_of_lt (by omega)];exact h1
  have ndP:ps.Nodup:=by rw[<-S.pre];exact S.nd.sublist (List.take_sublist _ _)
  refine⟨u,rv,?_⟩;rcases S.par y (List.mem_of_getElem? hp) with k | k
  .exact .inl ⟨k,ye ndP hp hu k⟩
  .obtain⟨c,e⟩:=Aa (n:=s.heap.objs.size+1) k;refine .inr ⟨.inl k,c,e,?_⟩;have q:=x.cell y c e;rw[x3 ndP hp hu (by show scope.names.lookup y≠_;rw [k];decide)] at q
   exact q
 .exact e0.hok.fresh (Nat.le_of_lt (x.above y c (PySem.mem_of_lookup h)))
 .unfold start;show _=N.length;rw[List.length_append,List.length_map,List.length_replicate];omega
theorem Qg{CX:Gm}{P:Program}{w:World}{K:W.Frag}{mg:Str->Option Value}{base:Heap}{k:Nat}{f:Addr}{name qual:Str}{params:Arguments}{body:List Stmt}{scope:Scope}{dV kV doc pm dJ ct oc:Value}{an od:Option Addr}
 {Jz:Array (Option Value)} {N ps:List Str} {sp:Sp} (lk:K.lookup f=some ⟨oc,od, .func (PySem.W.fnOf name qual params body scope dV kV doc pm an dJ ct),Jz⟩) (tI:PySem.W.codeIn K dJ qual=true) (S:aW N ps scope)
 (len:∀vs H Q E,sp vs H Q E->vs.length=ps.length)
 (mS:∀(A:Around) (outer:List Env) (s:Shared) (H:Hp) (vs:List V) (Q:VK) (E:XK),eX k (A.deeper (envOfC qual scope s.heap.objs.size f dJ))->sp vs H Q E->
   ∃t,y7 (vz CX P w K mg base N qual scope f dJ A outer s H E) body t/\t {nx:=fun _ H'=>Q .cK H',rt:=Q} (start N vs) H) :
 jI P w K mg base CX (k+1) f (PySem.W.fnOf name qual params body scope dV kV doc pm an dJ ct) ps sp:=by
 refine⟨len,fun A outer s H args us vs Q E hr e0 hb r Pf=>?_⟩
 have hl:=len _ _ _ _ Pf;have KX:K.In s.heap:=e0.mod.kin.keeps fun b o e=>(e0.bs b o e).1
 have lim:s.heap.NoLimit:=e0.mod.nolimit.keeps fun b o e=>(e0.bs b o e).1
 have hkind:∀y∈ps.zip us,scope.names.lookup y.1=some .local\/(scope.names.lookup y.1=some .cell/\((cellsFrom (s.heap.objs.size+1) scope.names []).lookup y.1).isSome=true):=fun⟨n,v⟩ hy=>by
  rcases S.par n (List.of_mem_zip hy).1 with q | q
  .exact .inl q
  .exact .inr ⟨q,PySem.W.cellsFrom_some _ _ _ (.inl q)⟩
 refine codeAny_call_function hr.depth (KX _ _ lk) rfl S.co S.gen rfl (PySem.W.codeRec_of KX tI) (hb _ _ _ _ ?_);refine wpAny_newFunctionEnv_cells S.kind hkind fun env he s1 x=>?_
 subst he;refine⟨lim.keeps x.toInCall.keep,codeAny_func ?_⟩;obtain⟨t,ht,hq⟩:=mS A outer s H vs Q E (hr.deeper _) Pf;have I:Inv (vz CX P w K mg base N qual scope f dJ A outer s H E) [] (start N vs) H s1:=EU S hr.hd e0 hl r x;refine wpAny_mono (ht [] s1 (start N vs) H _ I hq) (fun fl s' hs=>?_) fun e s' hs=>hs
 have fin:∀{c0:St} {H':Hp} {v:V} {u:Value},Inv (vz CX P w K mg base N qual scope f dJ A outer s H E) [] c0 H' s'->RelV v u->Q v H'->CE outer P w H s Q u s':=
  fun {c0 H' v u} J rv q=>⟨v,H',J.os,J.bare,J.base,J.hok,rv,q⟩
 cases fl with
 | ret u=>
   obtain⟨v,c0,H',J,rv,q⟩:=hs;exact fin J rv q
 | next=>
   obtain⟨c0,H',J,q⟩:=hs;exact fin (v:=V.cK) (u:=Value.none) J rfl q
 | brk=>
   obtain⟨_,_,_,q⟩:=hs;exact False.elim q
 | cont=>
   obtain⟨_,_,_,q⟩:=hs;exact False.elim q
section
variable {X:Cx} {x:Str} {p pos:Pos} {e:Expr} {es:List Expr} {t:TA} {id T:String} {r:List V->Hp->VK->Prop}
def Vo(r:List V->Hp->VK->Prop)(t:TA):TE:=fun σ H Q=>t σ H fun vs H1=>r vs H1 Q
theorem rO(hc:p9 X (.builtin id) r)(hg:Gl X x)(hm:X.mg x=none)(hv:bootBuiltins x=some (.builtin id))(ha:PA X (e ::es) t)(hn:x≠"__name__":=by decide)(qP:(x==("__debug__":Str))=false:=by decide)
 (he:starEach (e ::es) X.env=(false,eval e X.env) ::starEach es X.env:=by rfl) (lT:(backTo pos (starEach es X.env)).any (·.1)=false:=by rfl):PE X (.Call (.Name x p) (e ::es) [] pos) (Vo r t):=by
 intro pins s σ H Q I h;refine wpAny_Call_Name_kw (nA I hg hm hv ?_ hn qP);exact PyProof.Rows.callWith_builtin1 (dR (ha pos pins s σ H _ I h) fun us s1 ⟨vs,H1,I1,r1,q1⟩=>hc pins s1 σ H1 vs us Q I1 r1 q1) he lT
theorem sQ(hc:p9 X (.type T) r)(hg:Gl X x)(hm:X.mg x=none)(hv:bootBuiltins x=some (.type T))(ha:PA X (e ::es) t)(hn:x≠"__name__":=by decide)(qP:(x==("__debug__":Str))=false:=by decide)
 (he:starEach (e ::es) X.env=(false,eval e X.env) ::starEach es X.env:=by rfl) (lT:(backTo pos (starEach es X.env)).any (·.1)=false:=by rfl):PE X (.Call (.Name x p) (e ::es) [] pos) (Vo r t):=by
 intro pins s σ H Q I h;refine wpAny_Call_Name_kw (nA I hg hm hv ?_ hn qP);exact PyProof.Rows.callWith_type1 (dR (ha pos pins s σ H _ I h) fun us s1 ⟨vs,H1,I1,r1,q1⟩=>hc pins s1 σ H1 vs us Q I1 r1 q1) he lT
end
section
variable {κ:Type} [DecidableEq κ]
def lM(kvs:List (κ × V))(k:κ):Option V:=(kvs.find? fun kv=>decide (kv.1=k)).map (·.2)
def putK(kvs:List (κ × V))(k:κ)(v:V):List (κ × V):=
 if(kvs.any fun kv=>decide (kv.1=k))=true then kvs.map (fun kv=>if kv.1=k then(kv.1,v) else kv) else kvs++[(k,v)]
def Il(kvs:List (κ × V))(k:κ):List (κ × V):=kvs.filter fun kv=>decide (kv.1≠k)
theorem vw{p:κ × V}{r:List (κ × V)}{k:κ}(e:p.1=k):lM (p ::r) k=some p.2:=by simp [lM,List.find?_cons,e]
theorem wu{p:κ × V}{r:List (κ × V)}{k:κ}(e:¬p.1=k):lM (p ::r) k=lM r k:=by simp [lM,List.find?_cons,e]
theorem Bg(k:κ):∀kvs:List (κ × V),(kvs.any fun kv=>decide (kv.1=k))=(lM kvs k).isSome
 | []=>rfl
 | p ::r=>by
   rw[List.any_cons];by_cases e:p.1=k
   .simp only[vw e,decide_eq_true e,Bool.true_or,Option.isSome_some]
   .rw [wu e,decide_eq_false e,Bool.false_or];exact Bg k r
theorem om(kvs:List (κ × V))(k:κ)(v:V):(putK kvs k v).length<=kvs.length+1:=by
 unfold putK;split
 .rw [List.length_map];omega
 .rw [List.length_append,List.length_cons,List.length_nil];omega
theorem pO.sx{o:Option V}{u:Option Value}(r:pO o u):o.isSome=u.isSome:=by
 cases o with
 | none=>cases u with
   | none=>rfl
   | some _=>exact(show False from r).elim
 | some _=>cases u with
   | none=>exact(show False from r).elim
   | some _=>rfl
theorem pO.getD{o:Option V}{u:Option Value}{d:V}{d':Value}(r:pO o u)(rd:RelV d d'):RelV (o.getD d) (u.getD d'):=by
 cases o with
 | none=>cases u with
   | none=>exact rd
   | some _=>exact(show False from r).elim
 | some _=>cases u with
   | none=>exact(show False from r).elim
   | some _=>exact r
theorem KV.val{kvs:List (κ × V)}{vs:List (κ × Value)}(r:KV kvs vs)(k:κ):pO (lM kvs k) (valueAt vs k):=by
 unfold KV at r
 induction r with
 | nil=>exact True.intro
 | @cons p q ps qs h t ih=>
   obtain⟨h1,h2⟩:=h;by_cases e:p.1=k
   .have e':q.1=k:=h1.symm.trans e;have b:valueAt (q ::qs) k=some q.2:=by simp [valueAt,List.find?_cons,e']
    rw[vw e,b];exact h2
   .have e':¬q.1=k:=fun z=>e (h1.trans z)
    have b:valueAt (q ::qs) k=valueAt qs k:=by simp [valueAt,List.find?_cons,e']
    rw[wu e,b];exact ih
theorem KV.any{kvs:List (κ × V)}{vs:List (κ × Value)}(r:KV kvs vs)(k:κ):(kvs.any fun kv=>decide (kv.1=k))=vs.any fun kv=>decide (kv.1=k):=by
 unfold KV at r
 induction r with
 | nil=>rfl
 | cons h t ih=>rw [List.any_cons,List.any_cons,ih,h.1]
theorem KV.Of{kvs:List (κ × V)}{vs:List (κ × Value)}(r:KV kvs vs)(k:κ){y:V}{u:Value}(ry:RelV y u) :
 KV (kvs.map fun kv=>if kv.1=k then(kv.1,y) else kv) (vs.map fun kv=>if kv.1=k then(kv.1,u) else kv):=by
 unfold KV at r ⊢
 induction r with
 | nil=>exact .nil
 | @cons p q ps qs h t ih=>
   rw[List.map_cons,List.map_cons];refine .cons ?_ ih;obtain⟨h1,h2⟩:=h;by_cases e:p.1=k
   .rw [if_pos e,if_pos (h1.symm.trans e)];exact⟨h1,ry⟩
   .rw [if_neg e,if_neg (fun z=>e (h1.trans z))];exact⟨h1,h2⟩
theorem KV.put{kvs:List (κ × V)}{vs:List (κ × Value)}(r:KV kvs vs)(k:κ){y:V}{u:Value}(ry:RelV y u):KV (putK kvs k y) (stored vs k u):=by
 unfold putK stored;rw[r.any k];by_cases e:(vs.any fun kv=>decide (kv.1=k))=true
 .rw [if_pos e,if_pos e];exact r.Of k ry
 .rw [if_neg e,if_neg e];exact Paired.snoc r ⟨rfl,ry⟩
theorem KV.length{kvs:List (κ × V)}{vs:List (κ × Value)}(r:KV kvs vs):kvs.length=vs.length:=Paired.length r
end
theorem A5{k:Key}{u:Value}(r:RelV (kV k) u):(cW P w).is k u=true:=by
 cases k with
 | inl i=>obtain⟨t,e⟩:=(show ∃t,u=Value.int i t from r);subst e;exact AF P w i t
 | inr x=>obtain⟨t,e⟩:=(show ∃t,u=Value.str x t from r);subst e;exact z8 P w x t
theorem xZ:∀{ks:List Key} {us:List Value},Vals (ks.map kV) us->ItemsAre (cW P w) ks us
 | [],_,r=>by rw[List.map_nil] at r;cases r;exact .nil
 | k ::ks,_,r=>by
   rw[List.map_cons] at r;cases r with
   | cons h t=>exact .cons (A5 h) (xZ t)
abbrev KT(H:Hp):List (List Key × V)->List (List Key × Addr × Value)->Prop:=Paired fun p q=>p.1=q.1/\H q.2.1=some (.tup (p.1.map kV))/\RelV p.2 q.2.2
theorem KT.val{kvs:List (List Key × V)}{xs:List (List Key × Addr × Value)}(r:KT H kvs xs)(k:List Key):pO (lM kvs k) ((atKey xs k).map (·.2)):=by
 induction r with
 | nil=>exact True.intro
 | @cons p q ps qs h t ih=>
   obtain⟨h1,_,h2⟩:=h;by_cases e:p.1=k
   .have e':q.1=k:=h1.symm.trans e;have b:atKey (q ::qs) k=some q.2:=by simp [atKey,List.find?_cons,e']
    rw[vw e,b];exact h2
   .have e':¬q.1=k:=fun z=>e (h1.trans z)
    have b:atKey (q ::qs) k=atKey qs k:=by simp [atKey,List.find?_cons,e']
    rw[wu e,b];exact ih
theorem KT.Of{kvs:List (List Key × V)}{xs:List (List Key × Addr × Value)}(r:KT H kvs xs)(k:List Key){y:V}{u:Value}(ry:RelV y u) :
 KT H (kvs.map fun kv=>if kv.1=k then(kv.1,y) else kv) (xs.map (putAt k u)):=by
 induction r with
 | nil=>exact .nil
 | @cons p q ps qs h t ih=>
   rw[List.map_cons,List.map_cons];refine .cons ?_ ih;obtain⟨h1,h2,h3⟩:=h;unfold putAt;by_cases e:p.1=k
   .rw [if_pos e,if_pos (h1.symm.trans e)];exact⟨h1,h2,ry⟩
   .rw [if_neg e,if_neg (fun z=>e (h1.trans z))];exact⟨h1,h2,h3⟩
theorem KT.put{H:Hp}{kvs:List (List Key × V)}{xs:List (List Key × Addr × Value)}(r:KT H kvs xs)(k:List Key){b:Addr}{y:V}{u:Value}(hb:H b=some (.tup (k.map kV)))(ry:RelV y u) :
 KT H (putK kvs k y) (storedH xs k b u):=by
 have e:(kvs.any fun kv=>decide (kv.1=k))=(atKey xs k).isSome:=by
  rw[Bg,(r.val k).sx,Option.isSome_map]
 unfold putK storedH;rw[e];by_cases q:(atKey xs k).isSome=true
 .rw [if_pos q,if_pos q];exact r.Of k ry
 .rw [if_neg q,if_neg q];exact Paired.snoc r ⟨rfl,hb,ry⟩
theorem KT.keeps{H H':Hp}{kvs:List (List Key × V)}{xs:List (List Key × Addr × Value)}(r:KT H kvs xs)(ht:∀b ys,H b=some (.tup ys)->H' b=some (.tup ys)):KT H' kvs xs:=
 Paired.Np r fun _ _ z=>⟨z.1,ht _ _ z.2.1,z.2.2⟩
section
variable {P:Program} {w:World} {H:Hp} {h:Heap} {a:Addr}
theorem L8{u:HO}(ok:pN P w H h)(e:Rd H a u):dQ P w H h a u:=e.ok ok
theorem Dq{kvs:List (Key × V)}(ok:pN P w H h)(e:Rd H a (.dK kvs)):kvs.length<=sizeLine/\(a==sysModules)=false/\∃vs,KV kvs vs/\h.DictOf (cW P w) a vs:=
 show dQ P w H h a (.dK kvs) from L8 ok e
theorem Iu{kvs:List (Key × V)}(ok:pN P w H h)(e:H a=some (.dK kvs)):kvs.length<=sizeLine/\(a==sysModules)=false/\∃vs,KV kvs vs/\h.DictOf (cW P w) a vs:=Dq ok (.inl e)
theorem yT{ks:List Key}(ok:pN P w H h)(e:H a=some (.tup (ks.map kV))):(tupleKind (cW P w)).is h ks a:=by
 obtain⟨_,its,r,o,h1,h2,n,h3⟩:=(show dQ P w H h a (.tup (ks.map kV)) from ok a _ e)
 exact⟨o,its.toArray,n,h1,h2,h3,by simpa using xZ r⟩
theorem D0{kvs:List (List Key × V)}(ok:pN P w H h)(e:Rd H a (.dT kvs)):kvs.length<=sizeLine/\(a==sysModules)=false/\
 ∃xs,KT H kvs xs/\h.DictOfH (tupleKind (cW P w)) a xs:=by
 obtain⟨z,y,xs,r,o,es,ep,h1,h2,h3,h4,h5⟩:=(show dQ P w H h a (.dT kvs) from L8 ok e)
 refine⟨z,y,xs,r,o,es,ep,h1,h2,h3,h4,fun x hx=>?_,h5⟩
 have all:∀{l:List (List Key × V)} {m:List (List Key × Addr × Value)},KT H l m->∀x∈m,(tupleKind (cW P w)).is h x.1 x.2.1:=by
  intro l m q
  induction q with
  | nil=>intro x hx;exact nomatch hx
  | @cons p q ps qs hq t ih=>
    intro x hx;rcases List.mem_cons.mp hx with e | hx
    .subst e;exact yT ok (by rw[<-hq.1];exact hq.2.1)
    .exact ih x hx
 exact all r x hx
theorem P7{kvs:List (List Key × V)}(ok:pN P w H h)(e:H a=some (.dT kvs)):kvs.length<=sizeLine/\(a==sysModules)=false/\
 ∃xs,KT H kvs xs/\h.DictOfH (tupleKind (cW P w)) a xs:=D0 ok (.inl e)
end
def uC(H:Hp)(a:Addr)(y:V)(r:Option V):Prop:=
 (∃kvs k,Rd H a (.dK kvs)/\y=kV k/\r=lM kvs k)\/∃kvs k b,Rd H a (.dT kvs)/\y= .ref b/\H b=some (.tup (k.map kV))/\r=lM kvs k
def E9(H:Hp)(a:Addr)(y v:V)(H':Hp):Prop:=
 (∃kvs k,H a=some (.dK kvs)/\y=kV k/\kvs.length < sizeLine/\H'=upd H a (.dK (putK kvs k v)))\/
 ∃kvs k b,H a=some (.dT kvs)/\y= .ref b/\H b=some (.tup (k.map kV))/\kvs.length < sizeLine/\H'=upd H a (.dT (putK kvs k v))
theorem uC.k{H:Hp}{a:Addr}{kvs:List (Key × V)}{k:Key}(e:H a=some (.dK kvs)):uC H a (kV k) (lM kvs k):= .inl ⟨kvs,k, .inl e,rfl,rfl⟩
theorem E9.k{H:Hp}{a:Addr}{kvs:List (Key × V)}{k:Key}{v:V}(e:H a=some (.dK kvs))(hl:kvs.length < sizeLine):E9 H a (kV k) v (upd H a (.dK (putK kvs k v))):= .inl ⟨kvs,k,e,rfl,hl,rfl⟩
section
variable {X:Cx} {pins:List (Addr × Obj)} {σ:St} {H:Hp} {s:Shared} {a:Addr} {y v:V} {u r:Value} {o:Option V} {A:Around} {E:Value->Shared->Prop}
theorem Inv.big(I:Inv X pins σ H s):sysModules < s.heap.objs.size:=by
 have h:mainGlobals < s.heap.objs.size:=(I.mod.glob.keeps I.bk).lt;exact Nat.lt_trans (by decide) h
theorem SV{Q:Value->Shared->Prop}(hu:A.units+1 < cLine)(I:Inv X pins σ H s)(g:uC H a y o)(ry:RelV y u)(h:∀s',Inv X pins σ H s'->Q (.bool o.isSome) s') :
 wpAny (model X.prog X.w) A (compareOp .In u (.ref a)) Q E s:=by
 rcases g with⟨kvs,k,e,ey,l⟩ | ⟨kvs,k,b,e,ey,eb,l⟩
 .subst ey;obtain⟨z,hd,vs,rel,dd⟩:=Dq I.hok e;refine wpAny_in_of (A5 ry) hd dd.mapOf ?_;rw[<-(rel.val k).sx,<-l];exact h _ (I.tok _)
 .subst ey;cases(show u=Value.ref b from ry)
  obtain⟨z,hd,xs,rel,dd⟩:=D0 I.hok e;refine wpAny_in_heap (tupleKind_room_in1 hu) (yT I.hok eb) hd dd ?_;have q:=(rel.val k).sx;rw[Option.isSome_map] at q;rw[<-q,<-l];exact h _ (I.tok _)
theorem yV{h':Heap}{t':Nat}{ob:HO}(I:Inv X pins σ H s)(mu:Pz (H a))(hs:Heap.SameBut a s.heap h')(he:∃q,h'.get? a=some q)(new:dQ X.prog X.w (upd H a ob) h' a ob) :
 Inv X pins σ (upd H a ob) {s with heap:=h',toks:=t'}:=
 I.write (x:=a) (e:=a) mu (.inl rfl) (fun b q hb z=>(hs.2 b hb).trans z) he new
theorem Gs{H':Hp}{h':Heap}{kvs:List (Key × V)}{vs:List (Key × Value)}(z:kvs.length<=sizeLine)(hd:(a==sysModules)=false)(rel:KV kvs vs)(dd:h'.DictOf (cW P w) a vs) :
 dQ P w H' h' a (.dK kvs):=⟨z,hd,vs,rel,dd⟩
theorem E7{Q:Unit->Shared->Prop}(hu:A.units+1 < cLine)(I:Inv X pins σ H s)(g:E9 H a y v H')(ry:RelV y u)(rv:RelV v r)(h:∀s',Inv X pins σ H' s'->Q () s') :
 wpAny (model X.prog X.w) A (setItem (.ref a) u r) Q E s:=by
 rcases g with⟨kvs,k,e,ey,l,eH⟩ | ⟨kvs,k,b,e,ey,eb,l,eH⟩
 .subst ey eH;obtain⟨z,hd,vs,rel,dd⟩:=Iu I.hok e;have hz:vs.length<=sizeLine:=by rw[<-rel.length];exact z
  have hl:(putK kvs k v).length<=sizeLine:=by have:=om kvs k v;omega
  refine wpAny_setItem_pairs (hsz:=hz) (A5 ry) dd fun h' OO hs=>h _ ?_
  have he:∃q,h'.get? a=some q:=let⟨q,_,_,hq,_⟩:=OO;⟨q,hq⟩
  exact yV I (by rw[e];exact True.intro) hs he (Gs hl hd (rel.put k rv) OO)
 .subst ey eH;cases(show u=Value.ref b from ry)
  obtain⟨z,hd,xs,rel,dd⟩:=P7 I.hok e;have hz:xs.length<=sizeLine:=by rw[<-Paired.length rel];exact z
  have hl:(putK kvs k v).length<=sizeLine:=by have:=om kvs k v;omega
  refine wpAny_setItem_heap (hsz:=hz) (tupleKind_room_in1 hu) (yT I.hok eb) dd fun h' OO hs=>h _ ?_
  obtain⟨q,es,ep,hq,h2,h3,h4,_,h5⟩:=OO;refine yV I (by rw[e];exact True.intro) hs ⟨q,hq⟩ ⟨hl,hd,_,(rel.put k eb rv).keeps fun c ys ec=>?_,q,es,ep,hq,h2,h3,h4,h5⟩
  rw[br (QI ec e (fun z=>nomatch z))]
  exact ec
end
section
variable {X:Cx} {pins:List (Addr × Obj)} {σ:St} {H:Hp} {s:Shared} {a:Addr} {kvs:List (Key × V)} {k:Key} {u:Value} {A:Around} {E:Value->Shared->Prop}
end
def V_(i:Expr):Prop:=∀ov iv,subscripted i false ov iv=operate [ov,iv] (getItem ov iv)
def Vb(td ty:TE):TE:=fun σ H Q=>td σ H fun x H1=>ty σ H1 fun y H2=>∃a v,x= .ref a/\uC H2 a y (some v)/\Q v H2
def Tw(ty td:TE):TE:=fun σ H Q=>ty σ H fun y H1=>td σ H1 fun x H2=>∃a o,x= .ref a/\uC H2 a y o/\Q (.bl o.isSome) H2
def Ry(ty td:TE):TE:=fun σ H Q=>ty σ H fun y H1=>td σ H1 fun x H2=>∃a o,x= .ref a/\uC H2 a y o/\Q (.bl (!o.isSome)) H2
def Qc(td ty tv:TE):TS:=fun D σ H=>tv σ H fun v H1=>td σ H1 fun x H2=>ty σ H2 fun y H3=>∃a H4,x= .ref a/\E9 H3 a y v H4/\D.nx σ H4
def U5(td ty tv:TE)(rd:V->V->Hp->VK->Prop):TS:=fun D σ H=>td σ H fun x H1=>ty σ H1 fun y H2=>∃a v,x= .ref a/\uC H2 a y (some v)/\
 tv σ H2 fun y2 H3=>rd v y2 H3 fun z H4=>∃H5,E9 H4 a y z H5/\D.nx σ H5
def U_(td ty:TE):TS:=fun D σ H=>td σ H fun x H1=>ty σ H1 fun y H2=>∃a kvs k,x= .ref a/\H2 a=some (.dK kvs)/\y=kV k/\(lM kvs k).isSome=true/\D.nx σ (upd H2 a (.dK (Il kvs k)))
section
variable {X:Cx} {o i e value:Expr} {pos pos' tP:Pos} {td ty tv:TE}
theorem M_(hu:X.A.units+1 < cLine)(hi:PE X i ty)(ho:PE X o td):PC X .In i o (Tw ty td):=by
 intro pins s σ H Q I h;refine dR (hi pins s σ H _ I h) fun iv s1 ⟨y,H1,I1,ry,q1⟩=>dR (ho pins s1 σ H1 _ I1 q1) fun u s2 ⟨x,H2,I2,rx,a,ov,ex,g,q2⟩=>?_
 subst ex;obtain rfl:u=Value.ref a:=rx;exact SV hu I2 g ry fun s3 I3=>⟨.bl ov.isSome,H2,I3,rfl,q2⟩
theorem KR(hu:X.A.units+1 < cLine)(ho:PE X o td)(hi:PE X i ty)(hv:PE X value tv)(hs:swapsWith value (some (.Subscript o i pos')) pos.line X.env=pure false) :
 PS X (.Assign [.Subscript o i pos'] value pos) (Qc td ty tv):=by
 intro pins s σ H D I h;refine wpAny_Assign_Subscript (dR (hv pins s σ H _ I h) fun r s1 ⟨v,H1,I1,rv,q1⟩=>dR (ho pins s1 σ H1 _ I1 q1) fun u s2 ⟨x,H2,I2,rx,q2⟩=>dR (hi pins s2 σ H2 _ I2 q2) fun iv s3 ⟨y,H3,I3,ry,a,H4,ex,g,q3⟩=>?_) hs
 subst ex;obtain rfl:u=Value.ref a:=rx;exact E7 hu I3 g ry rv fun s4 I4=>⟨σ,H4,I4,q3⟩
end
theorem AM(h:Heap)(hb:sysModules < h.objs.size):dQ P w H (h.push {cls:= .type "dict",data:= .dict #[]}) h.objs.size (.dK []):=
 ⟨Nat.zero_le _,beq_eq_false_iff_ne.mpr (Ne.symm (Nat.ne_of_lt hb)),[], .nil,Heap.DictOf.new h⟩
def M8:TE:=fun _ H Q=>∀p,H p=none->Q (.ref p) (upd H p (.dK []))
def Sb:TE:=fun _ H Q=>∀p,H p=none->Q (.ref p) (upd H p (.dT []))
section
variable {X:Cx} {pos:Pos}
theorem HE:PE X (.Dict [] [] pos) M8:=fun pins s σ H Q I h=>
 wpAny_Dict_empty ⟨.ref s.heap.objs.size,_,I.laid (a:=s.heap.objs.size) (o:= .dK []) (t':=s.toks) (fun _ _ q=>Heap.get?_push_of_some _ q) (Nat.le_refl _) (AM s.heap I.big),rfl,h _ (I.hok.fresh (Nat.le_refl _))⟩
end
def wI:List (TE × TE)->St->Hp->(List (V × V)->Hp->Prop)->Prop
 | [],_,H,Q=>Q [] H
 | (tk,tv) ::r,σ,H,Q=>tk σ H fun x H1=>tv σ H1 fun y H2=>wI r σ H2 fun ps H3=>Q ((x,y) ::ps) H3
abbrev VV:List (V × V)->List (Value × Value)->Prop:=Paired fun p q=>RelV p.1 q.1/\RelV p.2 q.2
def Pa(X:Cx)(pos:Pos)(keys:List (Option Expr))(values:List Expr)(Bp:List (TE × TE)):Prop:=
 ∀(pins:List (Addr × Obj)) (s:Shared) (σ:St) (H:Hp) (Q:List (V × V)->Hp->Prop),Inv X pins σ H s->wI Bp σ H Q->
  wpAny (model X.prog X.w) X.A (evalPairs (pairTrees keys values X.env pos)) (fun vs s'=>∃ps H',Inv X pins σ H' s'/\VV ps vs/\Q ps H') X.xe s
theorem Et{X:Cx}:Pa X pos [] [] []:=fun pins s σ H Q I h=>pairTrees_nil_walk ⟨[],H,I, .nil,h⟩
theorem qX{X:Cx}{ks:List (Option Expr)}{tk tv:TE}{Bp:List (TE × TE)}(hk:PE X k tk)(hv:PE X v tv)(hr:Pa X pos ks vs Bp) :
 Pa X pos (some k ::ks) (v ::vs) ((tk,tv) ::Bp):=fun pins s σ H Q I h=>
 pairTrees_cons_walk (dR (hk pins s σ H _ I h) fun u s1 ⟨x,H1,I1,rx,q1⟩=>dR (hv pins s1 σ H1 _ I1 q1) fun w2 s2 ⟨y,H2,I2,ry,q2⟩=>
  dR (hr pins s2 σ H2 _ I2 q2) fun ws s3 ⟨ps,H3,I3,rel,q3⟩=>⟨(x,y) ::ps,H3,I3, .cons ⟨rx,ry⟩ rel,q3⟩)
def lN(kvs more:List (Key × V)):List (Key × V):=more.foldl (fun acc kv=>putK acc kv.1 kv.2) kvs
theorem KV.merge:∀{more:List (Key × V)} {rs:List (Key × Value)} {kvs:List (Key × V)} {vs:List (Key × Value)},KV more rs->KV kvs vs->KV (lN kvs more) (merged vs rs):=by
 intro more rs kvs vs r;unfold KV at r
 induction r generalizing kvs vs with
 | nil=>intro q;exact q
 | @cons p q ps qs h t ih=>
   intro r0;have e:KV (putK kvs p.1 p.2) (stored vs q.1 q.2):=by
    have:=r0.put p.1 h.2;rw[<-h.1];exact this
   exact ih e
theorem pW:∀(more kvs:List (Key × V)),(lN kvs more).length<=kvs.length+more.length
 | [],kvs=>by show kvs.length<=kvs.length+0;omega
 | p ::r,kvs=>by
   have h1:=pW r (putK kvs p.1 p.2);have h2:=om kvs p.1 p.2;show(lN (putK kvs p.1 p.2) r).length<=_;rw[List.length_cons];omega
theorem wm:∀{kvs:List (Key × V)} {ws:List (Value × Value)},VV (kvs.map fun kv=>(kV kv.1,kv.2)) ws->∃rs,Carries (cW P w) ws rs/\KV kvs rs
 | [],_,r=>by rw[List.map_nil] at r;cases r;exact⟨[],True.intro, .nil⟩
 | p ::kvs,_,r=>by
   rw[List.map_cons] at r;cases r with
   | @cons a b as bs h t=>
     obtain⟨rs,c,q⟩:=wm (P:=P) (w:=w) t;obtain⟨b1,b2⟩:=b;exact⟨(p.1,b2) ::rs,⟨A5 h.1,rfl,c⟩, .cons ⟨rfl,h.2⟩ q⟩
def Hw(Bp:List (TE × TE)):TE:=fun σ H Q=>∀p,H p=none->wI Bp σ (upd H p (.dK [])) fun ps H2=>H2 p=some (.dK [])/\∃kvs:List (Key × V),ps=kvs.map (fun kv=>(kV kv.1,kv.2))/\kvs.length<=15/\Q (.ref p) (upd H2 p (.dK (lN [] kvs)))
theorem JB{X:Cx}{pos:Pos}{keys:List (Option Expr)}{values:List Expr}{Bp:List (TE × TE)}(h:Pa X pos keys values Bp)(xV:keys.all (·.isSome)=true)(hl:keys.length=values.length)(h0:keys≠[])
 (Xz:keys.length<=15):PE X (.Dict keys values pos) (Hw Bp):=by
 intro pins s σ H Q I q;have hn:=I.hok.fresh (Nat.le_refl s.heap.objs.size);have I1:=I.laid (a:=s.heap.objs.size) (o:= .dK []) (h':=s.heap.push {cls:= .type "dict",data:= .dict #[]}) (t':=s.toks) (fun _ _ q=>Heap.get?_push_of_some _ q) (Nat.le_refl _) (AM s.heap I.big)
 refine wpAny_Dict_walk (knd:=cW X.prog X.w) xV hl h0 Xz (dR (h pins _ σ _ _ I1 (q _ hn)) fun ws s2 ⟨ps,H2,I2,rel,e,kvs,ep,lk,q2⟩=>?_)
 subst ep;obtain⟨rs,c,rk⟩:=wm (P:=X.prog) (w:=X.w) rel;obtain⟨z,hd,YM,r0,dd⟩:=Iu I2.hok e;cases r0;refine⟨rs,c,dd,fun h' OO hs=>⟨.ref s.heap.objs.size,_,?_,rfl,q2⟩⟩
 have hz:(lN [] kvs).length<=sizeLine:=by
  have h1:=pW kvs [];rw[List.length_nil] at h1;rw[sizeLine_eq];omega
 have he:∃q,h'.get? s.heap.objs.size=some q:=let⟨q,_,_,hq,_⟩:=OO;⟨q,hq⟩
 exact yV I2 (by rw[e];exact True.intro) hs he (Gs hz hd (rk.merge .nil) OO)
structure M1 (X:Cx) (o:Expr) (m:Str) (apos:Pos) (e:Expr) (cB:Pos):Prop where
 base:attributeBase o m X.env (eval o X.env)=eval o X.env
 few:((backTo cB (starEach [e] X.env)).all (fun x=>!x.1) && (backToKw cB (keywordEach [] X.env)).all (fun x=>x.1.isSome)
  && decide (([e]:List Expr).length+([]:List Keyword).length+(if([]:List Keyword).isEmpty then 0 else 1) < 30))=true
 line:(apos.endLine==cB.line)=true
 trees:backTo cB (starEach [e] X.env)=[(false,eval e X.env)]
structure M2 (X:Cx) (o:Expr) (m:Str) (apos:Pos) (e f:Expr) (cB:Pos):Prop where
 base:attributeBase o m X.env (eval o X.env)=eval o X.env
 few:((backTo cB (starEach [e,f] X.env)).all (fun x=>!x.1) && (backToKw cB (keywordEach [] X.env)).all (fun x=>x.1.isSome)
  && decide (([e,f]:List Expr).length+([]:List Keyword).length+(if([]:List Keyword).isEmpty then 0 else 1) < 30))=true
 line:(apos.endLine==cB.line)=true
 trees:backTo cB (starEach [e,f] X.env)=[(false,eval e X.env),(false,eval f X.env)]
def Pw(H:Hp)(a:Addr):Prop:=(∃kvs,Rd H a (.dK kvs))\/∃kvs,Rd H a (.dT kvs)
theorem Mr{X:Cx}{pins:List (Addr × Obj)}{s:Shared}{a:Addr}(I:Inv X pins σ H s)(d:Pw H a) :
 s.TypeIs (.ref a) "dict"/\(∀b,Value.ref a= .ref b->∃ob,s.heap.get? b=some ob/\ob.dict=none)/\(a==sysModules)=false:=by
 rcases d with⟨kvs,e⟩ | ⟨kvs,e⟩
 .obtain⟨_,hd,vs,_,dd⟩:=Dq I.hok e;refine⟨dd.typeIs,fun b q=>?_,hd⟩
  cases q;obtain⟨ob,_,_,h1,h2,_⟩:=dd;exact⟨ob,h1,h2.2.1⟩
 .obtain⟨_,hd,xs,_,dd⟩:=D0 I.hok e;refine⟨dd.typeIs,fun b q=>?_,hd⟩
  cases q;obtain⟨ob,_,_,h1,h2,_⟩:=dd;exact⟨ob,h1,h2.2.1⟩
section
variable {X:Cx} {pins:List (Addr × Obj)} {σ:St} {H:Hp} {s:Shared} {a:Addr} {y d:V} {u r:Value} {o:Option V} {A:Around} {E:Value->Shared->Prop}
theorem Mo{Q:Value->Shared->Prop}(hu:A.units+1 < cLine)(I:Inv X pins σ H s)(g:uC H a y o)(ry:RelV y u)(rd:RelV d r)(h:∀w' s',Inv X pins σ H s'->RelV (o.getD d) w'->Q w' s') :
 wpAny (model X.prog X.w) A (call (.builtin "dict.get") [.ref a,u,r]) Q E s:=by
 rcases g with⟨kvs,k,e,ey,l⟩ | ⟨kvs,k,b,e,ey,eb,l⟩
 .subst ey;obtain⟨z,hd,vs,rel,dd⟩:=Dq I.hok e;refine call_meetsIn PySem.F.slot_dict_get dd.typeIs PySem.F.entry_dict_get (PySem.F.args_dict_get_3 _ _ _) (meets_dict_get_default (cW X.prog X.w) a (A5 ry) hd r) ⟨_,dd.mapOf,h _ _ (I.tok _) ?_⟩;rw[l];exact(rel.val k).getD rd
 .subst ey;cases(show u=Value.ref b from ry)
  obtain⟨z,hd,xs,rel,dd⟩:=D0 I.hok e;refine call_meetsIn PySem.F.slot_dict_get dd.typeIs PySem.F.entry_dict_get (PySem.F.args_dict_get_3 _ _ _) (meetsH_dict_get_default (tupleKind (cW X.prog X.w)) a b hd r) ⟨tupleKind_room_in1 hu,k,xs,yT I.hok eb,dd,h _ _ (I.tok _) ?_⟩;rw[l];exact(rel.val k).getD rd
end
def Tj(td ty:TE):TE:=fun σ H Q=>td σ H fun x H1=>∃a,x= .ref a/\Pw H1 a/\ty σ H1 fun y H2=>∃o,uC H2 a y o/\Q (o.getD .cK) H2
def Ng(td ty tx:TE):TE:=fun σ H Q=>td σ H fun x H1=>∃a,x= .ref a/\Pw H1 a/\ty σ H1 fun y H2=>tx σ H2 fun z H3=>∃o,uC H3 a y o/\Q (o.getD z) H3
def S_(td ty:TE):TE:=fun σ H Q=>td σ H fun x H1=>∃a,x= .ref a/\Pw H1 a/\ty σ H1 fun y H2=>∃kvs k v,H2 a=some (.dK kvs)/\y=kV k/\lM kvs k=some v/\Q v (upd H2 a (.dK (Il kvs k)))
def SE(td ty tx:TE):TE:=fun σ H Q=>td σ H fun x H1=>∃a,x= .ref a/\Pw H1 a/\ty σ H1 fun y H2=>tx σ H2 fun z H3=>∃kvs k,H3 a=some (.dK kvs)/\y=kV k/\
 (∀v,lM kvs k=some v->Q v (upd H3 a (.dK (Il kvs k))))/\(lM kvs k=none->Q z H3)
section
variable {X:Cx} {o e f:Expr} {apos cB:Pos} {td ty tx:TE}
theorem Gu(hu:X.A.units+1 < cLine)(ho:PE X o td)(he:PE X e ty)(hf:PE X f tx)(m:M2 X o "get" apos e f cB):PE X (.Call (.Attribute o "get" apos) [e,f] [] cB) (Ng td ty tx):=by
 intro pins s σ H Q I h;refine wpAny_Call_method m.base m.few m.line PySem.F.plainAttrs_dict PySem.F.slot_dict_get PySem.F.type_dict_get (dR (ho pins s σ H _ I h) fun u s1 ⟨x,H1,I1,rx,a,ex,d,q1⟩=>?_)
 subst ex;obtain rfl:u=Value.ref a:=rx;obtain⟨t1,t2,_⟩:=Mr I1 d;refine⟨t1,t2,?_⟩;rw[m.trees];refine Calls.callWith_builtin rfl (Calls.evalArgs_plain (Calls.spliced_cons (dR (he pins s1 σ H1 _ I1 q1) fun iv s2 ⟨y,H2,I2,ry,q2⟩=>
  Calls.spliced_cons (dR (hf pins s2 σ H2 _ I2 q2) fun fv s3 ⟨z,H3,I3,rz,ov,g,q3⟩=>Calls.spliced_nil ?_))))
 exact Mo hu I3 g ry rz fun w' s4 I4 FY=>⟨_,H3,I4,FY,q3⟩
end
section
variable {X:Cx} {pins:List (Addr × Obj)} {σ:St} {H:Hp} {s:Shared} {a:Addr} {kvs:List (Key × V)} {A:Around} {E:Value->Shared->Prop}
end
section
variable {X:Cx} {pins:List (Addr × Obj)} {σ:St} {H:Hp} {s:Shared} {a:Addr} {y:V} {u:Value} {A:Around} {E:Value->Shared->Prop}
end
end L2
namespace HT
open PySem PyProof.Rows
def lexLt:List Int->List Int->Bool
 | [],[]=>false
 | [],_ ::_=>true
 | _ ::_,[]=>false
 | x ::xs,y ::ys=>if x=y then lexLt xs ys else decide (x < y)
section
open PySem.SeqAt
open PySem.AutoSeq1 (wpAny_loadPart')
open PySem.MeetsSeq PySem.MeetsSeq2 PySem.MeetsSeq3
end
section
variable {prog:Program} {w:World} {A:Around} {E:Value->Shared->Prop} {s:Shared}
theorem Ls{t b:Addr}{vs ws:List Value}{Q:Value->Shared->Prop}(ht:IsTup s.heap t vs.toArray)(hb:IsTup s.heap b ws.toArray)(hv:vs≠[])
 (h1:ws=[]->Q (.ref t) s) (h2:ws≠[]->Q (.ref s.heap.objs.size) {s with heap:=s.heap.push {cls:= .type "tuple",data:= .seq (vs++ws).toArray}})
 (hsz:vs.length+ws.length<=sizeLine):wpAny (model prog w) A (binaryOp .Add (.ref t) (.ref b)) Q E s:=by
 obtain⟨⟨cls,dd,data,sl⟩,ho,hc,n,hd⟩:=id ht;obtain⟨⟨TX,RN,data2,Pd⟩,OJ,hc2,n2,hd2⟩:=id hb;simp only at hc hd hc2 hd2;subst hc hd hc2 hd2;have e:vs.toArray++ws.toArray=(vs++ws).toArray:=by simp
 by_cases hw:ws=[]
 .exact concat_meets ⟨_,ho,rfl⟩ ⟨_,OJ,rfl⟩ noFill_tuple_add seq_tuple_add PySem.F.slot_tuple_add PySem.F.entry_tuple_add (PySem.F.args_tuple_add_2 _ _)
   (tuple_addW1 t b vs.toArray ws.toArray n n2 dd RN sl Pd (by simpa using hv) (by simp [hw])) ⟨ho,OJ,h1 hw⟩
 .refine concat_meets ⟨_,ho,rfl⟩ ⟨_,OJ,rfl⟩ noFill_tuple_add seq_tuple_add PySem.F.slot_tuple_add PySem.F.entry_tuple_add (PySem.F.args_tuple_add_2 _ _)
   (tuple_addW2 t b vs.toArray ws.toArray n n2 dd RN sl Pd (by simpa using hv) (by simpa using hw) (by rw[List.size_toArray,List.size_toArray];exact hsz)) ⟨ho,OJ,?_⟩
  rw[e];exact h2 hw
def iA(n d:Nat):Option Int->Nat
 | none=>d
 | some v=>if v < 0 then(v+(n:Int)).toNat else min v.toNat n
theorem Bd(n d:Nat):iA n d none=d:=rfl
theorem De(n d k:Nat):iA n d (some (k:Int))=min k n:=by
 show(if(k:Int) < 0 then((k:Int)+(n:Int)).toNat else min (k:Int).toNat n)=min k n
 rw[if_neg (by omega),Int.toNat_natCast]
theorem N1(n d:Nat)(hd:d<=n)(o:Option Int):iA n d o<=n:=by
 cases o with
 | none=>exact hd
 | some v=>
   show(if v < 0 then(v+(n:Int)).toNat else min v.toNat n)<=n
   by_cases hv:v < 0
   .rw [if_pos hv];omega
   .rw [if_neg hv];exact Nat.min_le_right _ _
theorem D6(v:Int)(n d:Nat):(if v < 0 then max (v+(n:Int)) 0 else min v (n:Int))=((iA n d (some v):Nat):Int):=by
 show(if v < 0 then max (v+(n:Int)) 0 else min v (n:Int))=(((if v < 0 then(v+(n:Int)).toNat else min v.toNat n):Nat):Int)
 by_cases hv:v < 0
 .simp only[if_pos hv];omega
 .simp only[if_neg hv];omega
theorem BV(lo hi:Option Int)(n:Nat):Builtin.Slice.sliceAdjust lo hi 1 (n:Int)=(((iA n 0 lo:Nat):Int),((iA n n hi:Nat):Int)):=by
 have h1:¬((1:Int) < 0):=by omega
 unfold Builtin.Slice.sliceAdjust;simp only[h1,if_false];refine Prod.ext ?_ ?_
 .cases lo with
  | none=>rfl
  | some v=>exact D6 v n 0
 .cases hi with
  | none=>rfl
  | some v=>exact D6 v n n
theorem Cs(i j:Nat):Builtin.Slice.slicePlaces (i:Int) (j:Int) 1=j - i:=by
 unfold Builtin.Slice.slicePlaces;have h1:(1:Int) > 0:=by omega
 simp only[h1,if_true,Int.ediv_one];split <;> omega
theorem wL{v:Value}{o:Option Int}{Q:Option Int->Shared->Prop}(p:IsPart v o)(h:Q o s):wpAny (model prog w) A (Builtin.Slice.slicePartIndex v) Q E s:=by
 cases p with
 | none=>exact slicePart_none h
 | int i t=>exact slicePart_int h
theorem sP{sl:Addr}{vl vu:Value}{lo hi:Option Int}{n:Nat}{Q:Int × Int × Nat->Shared->Prop}(hs:s.heap.IsSliceOf sl vl vu .none)(pl:IsPart vl lo)(pu:IsPart vu hi)
 (h:Q (((iA n 0 lo:Nat):Int),1,iA n n hi - iA n 0 lo) s):wpAny (model prog w) A (Builtin.Slice.sliceApplied (.ref sl) (pure (n:Int))) Q E s:=by
 obtain⟨os,hos,hcs,hds⟩:=id hs;unfold Builtin.Slice.sliceApplied Builtin.Slice.sliceFields;refine wpAny_bind (wpAny_bind (wpAny_field hos hds (x:=vl) rfl (wpAny_bind (wpAny_field hos hds (x:=vu) rfl (wpAny_bind (wpAny_field hos hds (x:= .none) rfl (wpAny_pure ?_)))))));refine wpAny_bind (slicePart_none ?_);show wpAny _ _ (if((1:Int)==0)=true then _ else _) _ _ s
 rw[if_neg (by decide)]
 refine wpAny_bind (wL pl (wpAny_bind (wL pu (wpAny_bind (wpAny_pure ?_)))));show wpAny _ _ (match Builtin.Slice.sliceAdjust lo hi 1 (n:Int) with | (lo,hi)=>pure (lo,(1:Int),Builtin.Slice.slicePlaces lo hi 1)) _ _ s
 rw[BV lo hi n];show wpAny _ _ (pure (((iA n 0 lo:Nat):Int),(1:Int),Builtin.Slice.slicePlaces ((iA n 0 lo:Nat):Int) ((iA n n hi:Nat):Int) 1)) _ _ s;rw[Cs];exact wpAny_pure h
theorem Gn(xs:Array Value)(i k:Nat):((List.range k).filterMap fun(m:Nat)=>xs[((i:Int)+(m:Int)*1).toNat]?).toArray=((xs.toList.drop i).take k).toArray:=by
 have e:(fun(m:Nat)=>xs[((i:Int)+(m:Int)*1).toNat]?)=fun m=>xs[i+m]?:=by
  funext m;have:((i:Int)+(m:Int)*1).toNat=i+m:=by omega
  rw[this]
 rw[e];have:=pick_run xs i k;rw[List.filterMap_map] at this;have e2:((fun x=>xs[x]?) ∘ fun x=>i+x)=fun m=>xs[i+m]?:=rfl
 rw[e2] at this;rw[this]
theorem rS{t sl:Addr}{items:Array Value}{vl vu:Value}{lo hi:Option Int}{Q:Value->Shared->Prop}(ht:IsTup s.heap t items)(hs:s.heap.IsSliceOf sl vl vu .none)(pl:IsPart vl lo)(pu:IsPart vu hi)
 (hw:¬(iA items.size 0 lo=0/\iA items.size items.size hi=items.size))
 (h:Q (.ref s.heap.objs.size) {s with heap:=s.heap.push {cls:= .type "tuple",data:= .seq ((items.toList.drop (iA items.size 0 lo)).take (iA items.size items.size hi - iA items.size 0 lo)).toArray}})
 (hsz:items.size<=sizeLine):wpAny (model prog w) A (getItem (.ref t) (.ref sl)) Q E s:=by
 have htake:sizeOk (.seq ((items.toList.drop (iA items.size 0 lo)).take (iA items.size items.size hi - iA items.size 0 lo)).toArray):=by
  show((items.toList.drop (iA items.size 0 lo)).take (iA items.size items.size hi - iA items.size 0 lo)).toArray.size<=sizeLine;rw[List.size_toArray,List.length_take,List.length_drop,Array.length_toList];omega
 have hj:iA items.size items.size hi<=items.size:=N1 _ _ (Nat.le_refl _) hi;obtain⟨os,hos,hcs,hds⟩:=id hs;have hTs:s.TypeIs (.ref sl) "slice":=⟨os,hos,hcs⟩;unfold getItem
 try with_reducible refine wpAny_holding ?_
 first | refine wpAny_bind (wpAny_pure ?_) | skip
 refine wpAny_bind (wpAny_sequenceKey ht.typeIs (by decide) ?_)
 refine wpAny_bind (wpAny_callSpecial?_slot (name:="__getitem__") ht.typeIs PyProof.Rows.slot_tuple_getitem
  (wpAny_call_entry PyProof.Rows.slot_tuple_getitem ht.typeIs entry_tuple_getitem ?_ (args_tuple_getitem _ _)))
 show wpAny _ _ (Builtin.Tuple.tupleItemsOf (.ref t) >>=_) _ _ s;refine wpAny_bind (tupleItemsOf_ ht ?_);refine wpAny_bind (wpAny_typeOf hTs ?_);rw[if_pos (by decide)]
 refine wpAny_bind (sP hs pl pu ?_);have hno:¬((((iA items.size 0 lo:Nat):Int)==0 && (1:Int)==1 && (iA items.size items.size hi - iA items.size 0 lo)==items.size)=true):=by
  intro q;rw[Bool.and_eq_true,Bool.and_eq_true] at q;have q1:((iA items.size 0 lo:Nat):Int)=0:=eq_of_beq q.1.1;have q2:iA items.size items.size hi - iA items.size 0 lo=items.size:=eq_of_beq q.2;exact hw ⟨by omega,by omega⟩
 show wpAny _ _ (if(((iA items.size 0 lo:Nat):Int)==0 && (1:Int)==1 && (iA items.size items.size hi - iA items.size 0 lo)==items.size)=true then _ else _) _ _ s
 rw[if_neg hno,Gn]
 first
  | exact wpAny_bind (m:=Builtin.Tuple.tupleExact _) (wpAny_newObj_type (wpAny_pure ⟨_,rfl,wpAny_pure h⟩) htake)
  | exact wpAny_bind (m:=Builtin.Tuple.tupleExact _) (wpAny_newObj_type (wpAny_bind (wpAny_pure (wpAny_pure ⟨_,rfl,wpAny_pure h⟩))) htake)
  | exact wpAny_bind (wpAny_bind (m:=Builtin.Tuple.tupleExact _) (wpAny_newObj_type (wpAny_pure (wpAny_pure ⟨_,rfl,wpAny_pure h⟩)) htake))
  | exact wpAny_bind (wpAny_bind (m:=Builtin.Tuple.tupleExact _) (wpAny_newObj_type (wpAny_pure ⟨_,rfl,wpAny_pure h⟩) htake))
end
end HT
namespace L2
open PySem PySem.Spec PyProof.Rows
abbrev TO:=St->Hp->(Option Int->Hp->Prop)->Prop
def PO(X:Cx)(e:Option Expr)(t:TO):Prop:=
 ∀(pins:List (Addr × Obj)) (s:Shared) (σ:St) (H:Hp) (Q:Option Int->Hp->Prop),Inv X pins σ H s->t σ H Q->
  wpAny (model X.prog X.w) X.A (evalPart e X.env) (fun u s'=>∃o H',Inv X pins σ H' s'/\IsPart u o/\Q o H') X.xe s
def JG:TO:=fun _ H Q=>Q none H
def P4(t:TE):TO:=fun σ H Q=>t σ H fun x H1=>∃i,x= .int i/\Q (some i) H1
section
variable {X:Cx} {e:Expr} {te:TE} {lo hi:Option Expr} {tl th:TO} {pos p2:Pos}
theorem J7:PO X none JG:=by
 intro pins s σ H Q I h;rw[evalPart_none];exact wpAny_pure ⟨none,H,I, .none,h⟩
theorem JY(h:PE X e te):PO X (some e) (P4 te):=by
 intro pins s σ H Q I hw;rw[evalPart_some];refine dR (h pins s σ H _ I hw) fun u s1 ⟨x,H1,I1,r1,q1⟩=>?_
 obtain⟨i,rfl,q⟩:=q1;obtain⟨t,rfl⟩:=r1;exact⟨some i,H1,I1, .int i t,q⟩
def LI(X:Cx)(r:V->Option Int->Option Int->Hp->VK->Prop):Prop:=
 ∀(pins:List (Addr × Obj)) (s:Shared) (σ:St) (H:Hp) (x:V) (v vl vu:Value) (lo hi:Option Int) (sl:Addr) (Q:VK),Inv X pins σ H s->RelV x v->s.heap.IsSliceOf sl vl vu .none->IsPart vl lo->IsPart vu hi->r x lo hi H Q->
  ∃T id,typeLookup (.type T) "__getitem__"=pure (some (.builtin id))/\s.TypeIs v T/\wpAny (model X.prog X.w) X.A (getItem v (.ref sl)) (EP X pins σ Q) X.xe s
theorem LI.or{r r':V->Option Int->Option Int->Hp->VK->Prop}(h:LI X r)(h':LI X r'):LI X (fun x lo hi H Q=>r x lo hi H Q\/r' x lo hi H Q):=by
 intro pins s σ H x v vl vu lo hi sl Q I rx hs pl pu q;rcases q with q | q
 .exact h pins s σ H x v vl vu lo hi sl Q I rx hs pl pu q
 .exact h' pins s σ H x v vl vu lo hi sl Q I rx hs pl pu q
def Wv(r:V->Option Int->Option Int->Hp->VK->Prop)(te:TE)(tl th:TO):TE:=fun σ H Q=>te σ H fun x H1=>tl σ H1 fun l H2=>th σ H2 fun u H3=>r x l u H3 Q
theorem Al{r:V->Option Int->Option Int->Hp->VK->Prop}(hr:LI X r)(he:PE X e te)(hl:PO X lo tl)(hu:PO X hi th):PE X (.Subscript e (.Slice lo hi none p2) pos) (Wv r te tl th):=by
 intro pins s σ H Q I h;refine Subscript_ (dR (he pins s σ H _ I h) fun v s1 ⟨x,H1,I1,r1,q1⟩=>?_)
 refine wpAny_Slice (dR (hl pins s1 σ H1 _ I1 q1) fun vl s2 ⟨l,H2,I2,pl,q2⟩=>dR (hu pins s2 σ H2 _ I2 q2) fun vu s3 ⟨u,H3,I3,pu,q3⟩=>?_)
 rw[evalPart_none];refine wpAny_pure ?_;have I4:Inv X pins σ H3 {s3 with heap:=s3.heap.push {cls:= .type "slice",data:= .fields #[vl,vu, .none]}}:=I3.kept (t':=s3.toks) fun b ob q=>Heap.get?_push_of_some _ q
 obtain⟨T,id,hT,ht,hg⟩:=hr pins {s3 with heap:=s3.heap.push {cls:= .type "slice",data:= .fields #[vl,vu, .none]}} σ H3 x v vl vu l u s3.heap.objs.size Q I4 r1 (Heap.IsSliceOf.new ..) pl pu q3
 show wpAny (model X.prog X.w) X.A (subscriptTail e (.Slice lo hi none p2) v (.ref s3.heap.objs.size)) (EP X pins σ Q) X.xe {s3 with heap:=s3.heap.push {cls:= .type "slice",data:= .fields #[vl,vu, .none]}}
 exact tail_any (ops:=[.ref s3.heap.objs.size,v]) ht hT hg (by with_unfolding_all rfl)
def z0(xs:List V)(lo hi:Option Int):List V:=(xs.drop (HT.iA xs.length 0 lo)).take (HT.iA xs.length xs.length hi - HT.iA xs.length 0 lo)
theorem ua(xs:List V)(lo hi:Option Int):(z0 xs lo hi).length<=xs.length:=by
 unfold z0;rw[List.length_take,List.length_drop];omega
def Ti(K:W.Frag):V->Option Int->Option Int->Hp->VK->Prop:=fun x lo hi H Q=>∃a xs,x= .ref a/\ud K H a xs/\
 ¬(HT.iA xs.length 0 lo=0/\HT.iA xs.length xs.length hi=xs.length)/\∀p,H p=none->Q (.ref p) (upd H p (.tup (z0 xs lo hi)))
theorem N2:LI X (Ti X.K):=by
 intro pins s σ H x v vl vu lo hi sl Q I rx hs pl pu h;obtain⟨a,xs,rfl,hx,hw,q⟩:=h;cases rx;obtain⟨its,r,ht,hz⟩:=I.tuple hx;have hlen:its.toArray.size=xs.length:=by rw[List.size_toArray];exact r.length.symm
 refine⟨"tuple",_,PyProof.Rows.slot_tuple_getitem.lookup,ht.typeIs,?_⟩;refine HT.rS ht hs pl pu (by rw[hlen];exact hw) ?_ (by rw[hlen];exact hz)
 rw[hlen];refine⟨.ref s.heap.objs.size,_,I.laid (t':=s.toks) (o:= .tup (z0 xs lo hi)) (fun b ob q=>Heap.get?_push_of_some _ q) (Nat.le_refl _) ?_,rfl,q _ (I.hok.fresh (Nat.le_refl _))⟩
 exact⟨Nat.le_trans (ua xs lo hi) hz,_,(r.drop (HT.iA xs.length 0 lo)).take (HT.iA xs.length xs.length hi - HT.iA xs.length 0 lo),IsTup.new _ _⟩
def WL(K:W.Frag):R2:=fun x y H Q=>∃a b ns ms,x= .ref a/\y= .ref b/\ud K H a (ns.map V.int)/\ud K H b (ms.map V.int)/\Q (.bl (HT.lexLt ns ms)) H
def Ve(K:W.Frag):R2:=fun x y H Q=>∃a b xs ys,x= .ref a/\y= .ref b/\ud K H a xs/\ud K H b ys/\xs≠[]/\xs.length+ys.length<=sizeLine/\
 (ys=[]->Q (.ref a) H)/\(ys≠[]->∀p,H p=none->Q (.ref p) (upd H p (.tup (xs++ys))))
end
def Bw(n:Nat)(i:Int):Option Nat:=if 0<=i then(if i < n then some i.toNat else none) else if -(n:Int)<=i then some (i+n).toNat else none
def sR{α:Type}(xs:List α)(i:Int):Option α:=(Bw xs.length i).bind fun j=>xs[j]?
theorem DG{n:Nat}{i:Int}{j:Nat}(h:Bw n i=some j):seqIndex? i n=some j/\j < n/\ -(n:Int)<=i/\i < n:=by
 unfold Bw at h;by_cases h0:0<=i
 .rw [if_pos h0] at h;by_cases h1:i < n
  .rw [if_pos h1] at h;have e:i.toNat=j:=Option.some.inj h;exact⟨by rw[seqIndex_of h0 h1,e],by omega,by omega,h1⟩
  .rw [if_neg h1] at h;cases h
 .rw [if_neg h0] at h;by_cases h1: -(n:Int)<=i
  .rw [if_pos h1] at h;have e:(i+n).toNat=j:=Option.some.inj h;exact⟨by rw[seqIndex_neg (by omega) h1,e],by omega,h1,by omega⟩
  .rw [if_neg h1] at h;cases h
theorem y9{α:Type}{xs:List α}{i:Int}{v:α}(h:sR xs i=some v):∃j,seqIndex? i xs.length=some j/\xs[j]? =some v/\j < xs.length/\ -(xs.length:Int)<=i/\i < xs.length:=by
 unfold sR at h;cases e:Bw xs.length i with
 | none=>rw [e] at h;cases h
 | some j=>
   rw[e] at h;obtain⟨h1,h2,h3,h4⟩:=DG e;exact⟨j,h1,h,h2,h3,h4⟩
def va(b:Expr):Prop:=∀o i,subscripted b false o i=operate [o,i] (getItem o i)
def K6(X:Cx)(r:R2):Prop:=
 ∀(value slice:Expr) (pins:List (Addr × Obj)) (s:Shared) (σ:St) (H:Hp) (x y:V) (v u:Value) (Q:VK),Inv X pins σ H s->RelV x v->RelV y u->r x y H Q->
  subscripted slice false v u=operate [v,u] (getItem v u)->wpAny (model X.prog X.w) X.A (subscriptTail value slice v u) (EP X pins σ Q) X.xe s
def VX(X:Cx)(id:String)(r:V->List V->Hp->VK->Prop):Prop:=
 ∀(pins:List (Addr × Obj)) (s:Shared) (σ:St) (H:Hp) (x:V) (xs:List V) (v:Value) (us:List Value) (Q:VK),Inv X pins σ H s->RelV x v->Vals xs us->r x xs H Q->
  wpAny (model X.prog X.w) X.A (call (.builtin id) (v ::us)) (EP X pins σ Q) X.xe s
section
variable {X:Cx} {a b:Expr} {ta tb:TE} {pos:Pos}
theorem K6.or{r r':R2}(h:K6 X r)(h':K6 X r'):K6 X (fun x y H Q=>r x y H Q\/r' x y H Q):=by
 intro value slice pins s σ H x y v u Q I rx ry q hs;rcases q with q | q
 .exact h value slice pins s σ H x y v u Q I rx ry q hs
 .exact h' value slice pins s σ H x y v u Q I rx ry q hs
theorem L6{r:R2}(hr:K6 X r)(ha:PE X a ta)(hb:PE X b tb)(hs:va b):PE X (.Subscript a b pos) (O3 r ta tb):=by
 intro pins s σ H Q I h;exact Subscript_ (MM ha hb I h fun v u s2 x y H2 I2 rx ry q=>hr a b pins s2 σ H2 x y v u Q I2 rx ry q (hs _ _))
def Ql(K:W.Frag):R2:=fun x y H Q=>∃p xs i v,x= .ref p/\y= .int i/\pV K H p xs/\sR xs i=some v/\Q v H
def Qf(K:W.Frag):R2:=fun x y H Q=>∃p xs i v,x= .ref p/\y= .int i/\ud K H p xs/\sR xs i=some v/\Q v H
def Qv:R2:=fun x y H Q=>∃z i c,x= .str z/\y= .int i/\z.length<=sizeLine/\sR z.cps.toList i=some c/\Q (.str ⟨#[c]⟩) H
theorem K5:K6 X (Ql X.K):=by
 intro value slice pins s σ H x y v u Q I rx ry h hs;obtain⟨p,xs,i,z,rfl,rfl,hq,he,q⟩:=h;cases rx;obtain⟨t,rfl⟩:=ry;obtain⟨its,r,pl,hz⟩:=I.list hq;obtain⟨j,h1,h2,h3,h4,h5⟩:=y9 he;obtain⟨w,ew,FY⟩:=r.get h2;have hl:=r.length;have hn:=sO;have fin:EP X pins σ Q w s:=⟨z,H,I,FY,q⟩;by_cases h0:0<=i
 .have hj:i.toNat=j:=by
   rw[seqIndex_of h0 h5] at h1;exact Option.some.inj h1
  exact item_listR pl.isList h0 (by omega) (by rw[hj];simpa using ew) fin hs
 .have hj:(i+(its.toArray.size:Int)).toNat=j:=by
   rw[seqIndex_neg (by omega) h4] at h1
   rw[List.size_toArray,<-hl];exact Option.some.inj h1
  exact subscriptTail_builtinR (x:=w) pl.isList.typeIs slot_list_getitem.lookup
   (wpAny_getItem_list_neg (Q:=fun r s'=>r=w/\EP X pins σ Q r s') pl.isList (by omega) (by rw[List.size_toArray] <;> omega) (by omega) (by rw[hj];simpa using ew) ⟨rfl,fin⟩) hs
theorem MP:K6 X (Qf X.K):=by
 intro value slice pins s σ H x y v u Q I rx ry h hs;obtain⟨p,xs,i,z,rfl,rfl,hq,he,q⟩:=h;cases rx;obtain⟨t,rfl⟩:=ry;obtain⟨its,r,pl,hz⟩:=I.tuple hq;obtain⟨j,h1,h2,h3,h4,h5⟩:=y9 he;obtain⟨w,ew,FY⟩:=r.get h2;have hl:=r.length;have hn:=sO;have fin:EP X pins σ Q w s:=⟨z,H,I,FY,q⟩;exact subscriptTail_builtinR (x:=w) pl.typeIs slot_tuple_getitem.lookup
  (getItem_tuple (j:=j) (Q:=fun r s'=>r=w/\EP X pins σ Q r s') pl (by omega) (by omega) (by rw[List.size_toArray,<-hl];exact h1) (by simpa using ew) ⟨rfl,fin⟩) hs
theorem MU:K6 X Qv:=by
 intro value slice pins s σ H x y v u Q I rx ry h hs;obtain⟨z,i,c,rfl,rfl,hz,he,q⟩:=h;obtain⟨t,rfl⟩:=rx;obtain⟨t',rfl⟩:=ry;obtain⟨j,h1,h2,h3,h4,h5⟩:=y9 he;have hl:z.cps.toList.length=z.length:=by simp [Str.length]
 rw[hl] at h1 h4 h5;have hn:=sO;exact tail_any (typeIs_str s z t) slot_str_getitem.lookup (getItem_str (c:=c) (by
  have e1:decide (i < -(2 ^ 63:Int))=false:=decide_eq_false (by omega)
  have e2:decide (i>=2 ^ 63)=false:=decide_eq_false (by omega)
  rw[e1,e2,Bool.or_false]) (by rw[h1];simpa using h2) ⟨.str ⟨#[c]⟩,H,I.tok _,⟨_,rfl⟩,q⟩) hs
def Su(K:W.Frag):R2:=fun x y H Q=>Ql K x y H Q\/Qf K x y H Q\/Qv x y H Q
theorem GP:K6 X (Su X.K):=K5.or (MP.or MU)
theorem CU(its:List Value)(n j:Nat)(u:Value):Obj.mapSeq (·.setIfInBounds j u) {cls:= .type "list",data:= .seq its.toArray n}={cls:= .type "list",data:= .seq (its.set j u).toArray n}:=by
 simp [Obj.mapSeq]
theorem Inv.lst{pins:List (Addr × Obj)}{H:Hp}{s:Shared}{p:Addr}{xs:List V}(I:Inv X pins σ H s)(h:H p=some (.lst xs)) :
 ∃(its:List Value) (n:Nat),Vals xs its/\s.heap.get? p=some {cls:= .type "list",data:= .seq its.toArray n}/\xs.length<=sizeLine:=by
 obtain⟨z,its,n,r,e⟩:=I.hok p _ h;exact⟨its,n,r,e,z⟩
theorem Inv.Oa{pins:List (Addr × Obj)}{σ:St}{H:Hp}{s:Shared}{p:Addr}{xs ys:List V}{its its':List Value}{n n':Nat}{f:Obj->Obj}(I:Inv X pins σ H s)(h:H p=some (.lst xs))
 (ho:s.heap.get? p=some {cls:= .type "list",data:= .seq its.toArray n}) (hf:f {cls:= .type "list",data:= .seq its.toArray n}={cls:= .type "list",data:= .seq its'.toArray n'}) (r:Vals ys its') (hz:ys.length<=sizeLine) (t:Nat) :
 Inv X pins σ (upd H p (.lst ys)) {s with heap:=s.heap.update p f,toks:=t}:=by
 have e:(s.heap.update p f).get? p=some {cls:= .type "list",data:= .seq its'.toArray n'}:=by
  rw[Heap.get?_update_self f ho (by rw[hf] <;> rfl),hf]
 refine I.write (x:=p) (e:=p) (by rw[h];trivial) (.inl rfl) (fun b u hb q=>(Heap.get?_update_other _ _ (Ne.symm hb)).trans q) ⟨_,e⟩ ?_
 exact⟨hz,its',n',r,e⟩
def L0:V->V->V->Hp->(Hp->Prop)->Prop:=fun o i v H Q=>∃p xs k j,o= .ref p/\i= .int k/\H p=some (.lst xs)/\Bw xs.length k=some j/\Q (upd H p (.lst (xs.set j v)))
theorem set_list:Po X L0:=by
 intro pins s σ H o i v ov iv u Q I ro ri rv h;obtain⟨p,xs,k,j,rfl,rfl,hp,hj,q⟩:=h;cases ro;obtain⟨t,rfl⟩:=ri;obtain⟨its,n,r,ho,hz⟩:=I.lst hp;obtain⟨h1,h2,h3,h4⟩:=DG hj;have hl:=r.length;have hn:=sO;have I':Inv X pins σ (upd H p (.lst (xs.set j v))) {s with heap:=s.heap.update p (Obj.mapSeq (·.setIfInBounds j u))}:=
  I.Oa hp ho (CU its n j u) (r.set rv j) (by rw[List.length_set];exact hz) s.toks
 by_cases h0:0<=k
 .have hk:k.toNat=j:=by
   rw[seqIndex_of h0 h4] at h1;exact Option.some.inj h1
  exact PySem.W.ki_setAt ho h0 (by omega) (by rw[List.size_toArray,<-hl];exact h4) (by rw[hk];exact⟨_,I',q⟩)
 .have hk:(k+(its.toArray.size:Int)).toNat=j:=by
   rw[seqIndex_neg (by omega) h3] at h1
   rw[List.size_toArray,<-hl];exact Option.some.inj h1
  exact PySem.W.ki_setBack ho (by omega) (by rw[List.size_toArray,<-hl];exact h3) (by omega) (by rw[hk];exact⟨_,I',q⟩)
theorem yW(lo hi:Option Int)(n:Nat):(sliceBounds lo hi none n).1=((HT.iA n 0 lo:Nat):Int)/\(sliceBounds lo hi none n).2.1=((HT.iA n n hi:Nat):Int)/\(sliceBounds lo hi none n).2.2=1:=by
 refine⟨?_,?_,rfl⟩
 .cases lo with
  | none=>simp [sliceBounds,HT.iA]
  | some i=>
    simp only[sliceBounds,HT.iA,Option.getD_none,show(1:Int) > 0 by decide,if_true]
    by_cases h:i < 0
    .simp only[h,if_true] <;> omega
    .simp only[h,if_false] <;> omega
 .cases hi with
  | none=>simp [sliceBounds,HT.iA]
  | some i=>
    simp only[sliceBounds,HT.iA,Option.getD_none,show(1:Int) > 0 by decide,if_true]
    by_cases h:i < 0
    .simp only[h,if_true] <;> omega
    .simp only[h,if_false] <;> omega
theorem xR(its:List Value)(lo hi:Option Int):slicePick its.toArray lo hi none=((its.drop (HT.iA its.length 0 lo)).take (HT.iA its.length its.length hi - HT.iA its.length 0 lo)).toArray:=by
 obtain⟨h1,h2,h3⟩:=yW lo hi its.toArray.size;unfold slicePick;rw[h1,h2,h3];simp only[sliceRange_one,pick_run,List.size_toArray] <;> rfl
def R9(K:W.Frag):V->Option Int->Option Int->Hp->VK->Prop:=fun x lo hi H Q=>∃a xs,x= .ref a/\pV K H a xs/\∀p,H p=none->Q (.ref p) (upd H p (.lst (z0 xs lo hi)))
theorem J9:LI X (R9 X.K):=by
 intro pins s σ H x v vl vu lo hi sl Q I rx hs pl pu h;obtain⟨a,xs,rfl,hx,q⟩:=h;cases rx;obtain⟨its,r,ht,hz⟩:=I.list hx;have hlen:=r.length;refine⟨"list",_,slot_list_getitem.lookup,ht.isList.typeIs,?_⟩;refine wpAny_getItem_list_slice ht.isList hs pl pu .none (by simp) ?_ (by rw[List.size_toArray] <;> omega)
 rw[xR,<-hlen];refine⟨.ref s.heap.objs.size,_,I.laid (t':=s.toks) (o:= .lst (z0 xs lo hi)) (fun b ob q=>Heap.get?_push_of_some _ q) (Nat.le_refl _) ?_,rfl,q _ (I.hok.fresh (Nat.le_refl _))⟩
 exact⟨Nat.le_trans (ua xs lo hi) hz,_,0,(r.drop (HT.iA xs.length 0 lo)).take (HT.iA xs.length xs.length hi - HT.iA xs.length 0 lo),Heap.get?_push_size _ rfl⟩
def nR:V->Bool
 | .cK=>true
 | .bl _=>true
 | .int _=>true
 | .str _=>true
 | _=>false
def L9:V->V->Bool
 | .cK, .cK=>true
 | .bl a, .bl b=>a==b
 | .bl a, .int b=>(if a then 1 else 0)==b
 | .int a, .bl b=>a==(if b then 1 else 0)
 | .int a, .int b=>a==b
 | .str a, .str b=>a==b
 | _,_=>false
theorem M4{s:Shared}{y x:V}{u v:Value}(ry:RelV y u)(rx:RelV x v)(fy:nR y=true)(fx:nR x=true):SeqAt.EqAt A s u v (L9 y x):=by
 cases y with
 | cK=>
   cases ry;cases x with
   | cK=>cases rx;exact SeqAt.EqAt.same _
   | bl b=>cases rx;exact SeqAt.EqAt.none_bool b
   | int b=>obtain⟨t,rfl⟩:=rx;exact SeqAt.EqAt.none_int b t
   | str b=>obtain⟨t,rfl⟩:=rx;exact SeqAt.EqAt.none_str b t
   | _=>exact absurd (show false=true from fx) Bool.false_ne_true
 | bl a=>
   cases ry;cases x with
   | cK=>cases rx;exact SeqAt.EqAt.bool_none a
   | bl b=>cases rx;exact SeqAt.EqAt.bool_bool a b
   | int b=>obtain⟨t,rfl⟩:=rx;exact SeqAt.EqAt.bool_int a b t
   | str b=>obtain⟨t,rfl⟩:=rx;exact SeqAt.EqAt.bool_str a b t
   | _=>exact absurd (show false=true from fx) Bool.false_ne_true
 | int a=>
   obtain⟨t',rfl⟩:=ry;cases x with
   | cK=>cases rx;exact SeqAt.EqAt.int_none a t'
   | bl b=>cases rx;exact SeqAt.EqAt.int_bool a t' b
   | int b=>obtain⟨t,rfl⟩:=rx;exact SeqAt.EqAt.int_int a t' b t
   | str b=>obtain⟨t,rfl⟩:=rx;exact SeqAt.EqAt.int_str a t' b t
   | _=>exact absurd (show false=true from fx) Bool.false_ne_true
 | str a=>
   obtain⟨t',rfl⟩:=ry;cases x with
   | cK=>cases rx;exact SeqAt.EqAt.str_none a t'
   | bl b=>cases rx;exact SeqAt.EqAt.str_bool a t' b
   | int b=>obtain⟨t,rfl⟩:=rx;exact SeqAt.EqAt.str_int a t' b t
   | str b=>obtain⟨t,rfl⟩:=rx;exact SeqAt.EqAt.str_str a t' b t
   | _=>exact absurd (show false=true from fx) Bool.false_ne_true
 | _=>exact absurd (show false=true from fy) Bool.false_ne_true
def CH(x:V)(u:Value):Bool:=match u with
 | .none=>L9 .cK x
 | .bool b=>L9 (.bl b) x
 | .int i _=>L9 (.int i) x
 | .str z _=>L9 (.str z) x
 | _=>false
theorem Ii{x y:V}{u:Value}(r:RelV y u)(f:nR y=true):CH x u=L9 y x:=by
 cases y with
 | cK=>cases r;rfl
 | bl b=>cases r;rfl
 | int i=>obtain⟨t,rfl⟩:=r;rfl
 | str z=>obtain⟨t,rfl⟩:=r;rfl
 | _=>exact absurd (show false=true from f) Bool.false_ne_true
theorem rK{x:V}:∀{xs:List V} {us:List Value},Vals xs us->xs.all nR=true->us.any (CH x)=xs.any fun y=>L9 y x
 | _,_, .nil,_=>rfl
 | y ::xs,u ::us, .cons r t,f=>by
   rw[List.all_cons,Bool.and_eq_true] at f;rw[List.any_cons,List.any_cons,Ii r f.1,rK t f.2]
theorem oX{s:Shared}{x:V}{v:Value}(rx:RelV x v)(fx:nR x=true):∀{xs:List V} {us:List Value},Vals xs us->xs.all nR=true->∀u∈us,SeqAt.EqAt A s u v (CH x u)
 | _,_, .nil,_=>fun u hu=>by cases hu
 | y ::xs,u ::us, .cons r t,f=>fun u' hu=>by
   rw[List.all_cons,Bool.and_eq_true] at f;rcases List.mem_cons.mp hu with rfl | hu
   .rw [Ii r f.1];exact M4 r rx f.1 fx
   .exact oX rx fx t f.2 u' hu
def LS(x:V)(xs:List V):Bool:=xs.any fun y=>L9 y x
def SI(K:W.Frag)(neg:Bool):R2:=fun x y H Q=>∃p xs,y= .ref p/\(pV K H p xs\/ud K H p xs)/\nR x=true/\xs.all nR=true/\Q (.bl (if neg then !LS x xs else LS x xs)) H
theorem E_:nk X (compareOp .In) (SI X.K false):=by
 intro pins s σ H x y v u Q I rx ry h;obtain⟨p,xs,rfl,hq,fx,fs,q⟩:=h;cases ry;rcases hq with hq | hq
 .obtain⟨its,r,pl,hz⟩:=I.list hq;refine SeqAt.in_listAt (CH x) pl.isList (fun w hw=>oX rx fx r fs w (by simpa using hw)) ⟨.bl _,H,I,rfl,?_⟩
  rw[show its.toArray.any (CH x)=its.any (CH x) by simp,rK r fs]
  exact q
 .obtain⟨its,r,pl,hz⟩:=I.tuple hq;refine SeqAt.in_tupleAt (CH x) pl (fun w hw=>oX rx fx r fs w (by simpa using hw)) ⟨.bl _,H,I,rfl,?_⟩
  rw[show its.toArray.any (CH x)=its.any (CH x) by simp,rK r fs]
  exact q
theorem zy:nk X (compareOp .NotIn) (SI X.K true):=by
 intro pins s σ H x y v u Q I rx ry h;obtain⟨p,xs,rfl,hq,fx,fs,q⟩:=h;cases ry;rcases hq with hq | hq
 .obtain⟨its,r,pl,hz⟩:=I.list hq;refine SeqAt.notIn_listAt (CH x) pl.isList (fun w hw=>oX rx fx r fs w (by simpa using hw)) ⟨.bl _,H,I,rfl,?_⟩
  rw[show its.toArray.any (CH x)=its.any (CH x) by simp,rK r fs]
  exact q
 .obtain⟨its,r,pl,hz⟩:=I.tuple hq;refine SeqAt.notIn_tupleAt (CH x) pl (fun w hw=>oX rx fx r fs w (by simpa using hw)) ⟨.bl _,H,I,rfl,?_⟩
  rw[show its.toArray.any (CH x)=its.any (CH x) by simp,rK r fs]
  exact q
theorem rA:p9 X (.type "list") (fun xs H Q=>∃p ys,xs=[.ref p]/\(pV X.K H p ys\/ud X.K H p ys)/\∀l,H l=none->Q (.ref l) (upd H l (.lst ys))):=by
 intro pins s σ H xs us Q I r h;obtain⟨p,ys,rfl,hq,q⟩:=h;obtain⟨u,rfl,rx⟩:=vals1 r;cases rx;have fin:∀(its:List Value),Vals ys its->ys.length<=sizeLine->∀(h':Heap) (c':Nat),(∀b o',s.heap.get? b=some o'->h'.get? b=some o')->
  h'.get? s.heap.objs.size=some {cls:= .type "list",dict:=none,data:= .seq its.toArray c',slots:=#[]}->EP X pins σ Q (.ref s.heap.objs.size) {s with heap:=h'}:=fun its r' hz h' c' kp e=>
  ⟨.ref s.heap.objs.size,_,I.laid (t':=s.toks) kp (Nat.le_refl _) (show dQ X.prog X.w _ h' _ (.lst ys) from⟨hz,its,c',r',e⟩),rfl,q _ (I.hok.fresh (Nat.le_refl _))⟩
 rcases hq with hq | hq
 .obtain⟨its,r',pl,hz⟩:=I.list hq;have hlen:=r'.length;obtain⟨o,ho,hc,n,hd⟩:=pl.isList;exact call_list_seq p (.inl rfl) ho hc hd (fun h' c' kp e=>fin its r' hz h' c' kp e) (by simp only[List.size_toArray] <;> omega)
 .obtain⟨its,r',pl,hz⟩:=I.tuple hq;have hlen:=r'.length;obtain⟨o,ho,hc,n,hd⟩:=pl;exact call_list_seq p (.inr rfl) ho hc hd (fun h' c' kp e=>fin its r' hz h' c' kp e) (by simp only[List.size_toArray] <;> omega)
theorem xG:p9 X (.type "tuple") (fun xs H Q=>∃p ys,xs=[.ref p]/\((pV X.K H p ys/\∀l,H l=none->Q (.ref l) (upd H l (.tup ys)))\/(ud X.K H p ys/\Q (.ref p) H))):=by
 intro pins s σ H xs us Q I r h;obtain⟨p,ys,rfl,h⟩:=h;obtain⟨u,rfl,rx⟩:=vals1 r;cases rx;rcases h with⟨hq,q⟩ | ⟨hq,q⟩
 .obtain⟨its,r',pl,hz⟩:=I.list hq;have hlen:=r'.length;refine call_tuple_list pl.isList (fun h' kp=>?_) (by simp only[List.size_toArray] <;> omega)
  have I1:Inv X pins σ H {s with heap:=h'}:=I.kept (t':=s.toks) kp
  have I2:Inv X pins σ (upd H h'.objs.size (.tup ys)) {s with heap:=h'.push {cls:= .type "tuple",data:= .seq its.toArray}}:=
   I1.laid (t':=s.toks) (fun b o e=>Heap.get?_push_of_some _ e) (Nat.le_refl _) (show dQ X.prog X.w _ _ _ (.tup ys) from⟨hz,its,r',IsTup.new _ _⟩)
  exact⟨.ref h'.objs.size,_,I2,rfl,q _ (I1.hok.fresh (Nat.le_refl _))⟩
 .obtain⟨its,r',pl,hz⟩:=I.tuple hq;exact call_tuple_same pl ⟨.ref p,H,I,rfl,q⟩
def SK(K:W.Frag)(T:String)(x:V)(H:Hp):Prop:=match x with
 | .str _=>T="str"
 | .int _=>T="int"
 | .ref p=>(T="list"/\∃xs,pV K H p xs)\/(T="tuple"/\∃o,K.lookup p=some o/\o.cls= .type "tuple"/\o.dict=none)\/
    (T="dict"/\((∃kvs,H p=some (.dK kvs))\/∃kvs,H p=some (.dT kvs)))\/(T="set"/\∃S n,H p=some (.set S n))
 | _=>False
theorem Nk{pins:List (Addr × Obj)}{s:Shared}{T:String}{x:V}{v:Value}(I:Inv X pins σ H s)(r:RelV x v)(ty:SK X.K T x H) :
 s.TypeIs v T/\∀a,v= .ref a->∃ob,s.heap.get? a=some ob/\ob.dict=none:=by
 cases x with
 | str z=>
   obtain⟨t,rfl⟩:=r;cases(show T="str" from ty)
   exact⟨typeIs_str s z t,fun _ e=>nomatch e⟩
 | int i=>
   obtain⟨t,rfl⟩:=r;cases(show T="int" from ty)
   exact⟨typeIs_int s i t,fun _ e=>nomatch e⟩
 | ref p=>
   cases r;rcases ty with⟨rfl,xs,hq⟩ | ⟨rfl,o,hk,hc,hd⟩ | ⟨rfl,hk⟩ | ⟨rfl,S,n,hk⟩
   .obtain⟨its,_,pl,_⟩:=I.list hq;refine⟨pl.isList.typeIs,fun a e=>?_⟩
    cases e;obtain⟨o,n,e,c,hd,_⟩:=pl;exact⟨o,e,hd⟩
   .refine⟨⟨o,I.sk p o hk,hc⟩,fun a e=>?_⟩
    cases e;exact⟨o,I.sk _ o hk,hd⟩
   .have z:∃o,s.heap.get? p=some o/\o.ExactDict:=by
     rcases hk with⟨kvs,hk⟩ | ⟨kvs,hk⟩
     .obtain⟨_,_,_,_,o,_,_,e,ex,_⟩:=I.hok p _ hk;exact⟨o,e,ex⟩
     .obtain⟨_,_,_,_,o,_,_,e,ex,_⟩:=I.hok p _ hk;exact⟨o,e,ex⟩
    obtain⟨o,e,ex⟩:=z;refine⟨⟨o,e,ex.1⟩,fun a e2=>?_⟩
    cases e2;exact⟨o,e,ex.2.1⟩
   .obtain⟨o,_,_,_,e,ex,_⟩:=I.hok p _ hk;refine⟨⟨o,e,ex.1⟩,fun a e2=>?_⟩
    cases e2;exact⟨o,e,ex.2.1⟩
 | _=>exact False.elim ty
def VZ(K:W.Frag)(T:String)(r:V->List V->Hp->VK->Prop)(to:TE):TE:=fun σ H Q=>to σ H fun x H1=>SK K T x H1/\r x [] H1 Q
def Wr(K:W.Frag)(T:String)(r:V->List V->Hp->VK->Prop)(to:TE)(t:TA):TE:=fun σ H Q=>to σ H fun x H1=>SK K T x H1/\t σ H1 fun xs H2=>r x xs H2 Q
variable {o e:Expr} {es:List Expr} {to:TE} {t:TA} {name:Str} {apos cB:Pos} {T id:String} {r:V->List V->Hp->VK->Prop}
theorem Ea(pa:PlainAttrs T)(slot:Slot T name id)(WS:typeOf (.builtin id)=pure (.type "method_descriptor"))(hm:VX X id r)(ho:PE X o to)(ha:PA X (e ::es) t)
 (mR:attributeBase o name X.env (eval o X.env)=eval o X.env:=by rfl)
 (tV:((backTo cB (starEach (e ::es) X.env)).all (fun x=>!x.1) && (backToKw cB (keywordEach [] X.env)).all (fun x=>x.1.isSome)
   && decide ((e ::es).length+([]:List Keyword).length+(if([]:List Keyword).isEmpty then 0 else 1) < 30))=true:=by rfl)
 (mQ:(apos.endLine==cB.line)=true:=by rfl) (hs:starEach (e ::es) X.env=(false,eval e X.env) ::starEach es X.env:=by rfl) (OQ:(backTo cB (starEach es X.env)).any (·.1)=false:=by rfl) :
 PE X (.Call (.Attribute o name apos) (e ::es) [] cB) (Wr X.K T r to t):=by
 intro pins s σ H Q I h;refine wpAny_Call_method_late mR tV mQ rfl (dR (ho pins s σ H _ I h) fun v s1 ⟨x,H1,I1,r1,ty,q1⟩=>?_)
 obtain⟨h1,h2⟩:=Nk I1 r1 ty;refine⟨T,id,pa,slot,WS,h1,h2,?_⟩;have hA:=ha cB pins s1 σ H1 _ I1 q1;rw[hs] at hA ⊢;refine Calls.callWith_builtin (by show(false || (backTo cB (starEach es X.env)).any (·.1))=false;rw [OQ] <;> rfl) (Calls.evalArgs_plain ?_)
 exact dR hA fun us s2 ⟨vs,H2,I2,r2,q2⟩=>hm pins s2 σ H2 x vs v us Q I2 r1 r2 q2
end
def SJ(X:Cx)(id:String)(r:V->List V->Hp->VK->Prop):Prop:=
 ∀(pins:List (Addr × Obj)) (s:Shared) (σ:St) (H:Hp) (x:V) (xs:List V) (v:Value) (us:List Value) (Q:VK),Inv X pins σ H s->RelV x v->Vals xs us->r x xs H Q->
  wpAny (model X.prog X.w) X.A (call (.builtin id) (v ::us)) (EP X pins σ Q) X.xe s
theorem Vals.one:∀{x:V} {us:List Value},Vals [x] us->∃u,us=[u]/\RelV x u
 | _,_, .cons r .nil=>⟨_,rfl,r⟩
theorem Vals.rep{xs:List V}{us:List Value}(h:Vals xs us):∀k:Nat,Vals (List.replicate k xs).flatten (List.replicate k us).flatten
 | 0=> .nil
 | k+1=>by
   rw[List.replicate_succ,List.replicate_succ,List.flatten_cons,List.flatten_cons];exact Vals.append h (Vals.rep h k)
theorem foldl_rep(its:List Value):∀(k:Nat) (acc:List Value),
 List.foldl (fun x1 x2=>x1++x2) acc.toArray (List.replicate k its.toArray)=(acc++(List.replicate k its).flatten).toArray
 | 0,acc=>by simp
 | k+1,acc=>by
   have e:acc.toArray++its.toArray=(acc++its).toArray:=by simp
   have e2:(acc++its)++(List.replicate k its).flatten=acc++(List.replicate (k+1) its).flatten:=by
    rw[List.replicate_succ,List.flatten_cons,List.append_assoc]
   rw[<-e2,<-foldl_rep its k (acc++its),<-e,List.replicate_succ,List.foldl_cons]
section
variable {X:Cx} {pins:List (Addr × Obj)} {σ:St} {H:Hp} {s:Shared} {l b:Addr} {xs ys zs:List V}
theorem Inv.M7{its its':List Value}{n:Nat}{f:Array Value->Array Value}{t':Nat}(I:Inv X pins σ H s)(hH:H l=some (.lst xs))
 (e:s.heap.get? l=some {cls:= .type "list",data:= .seq its.toArray n}) (hf:f its.toArray=its'.toArray) (hv:Vals ys its') (hz:ys.length<=sizeLine) :
 Inv X pins σ (upd H l (.lst ys)) {s with heap:=s.heap.update l (Obj.mapSeq f),toks:=t'}:=by
 have q:=PySem.IsL.update e f;rw[hf] at q;refine I.write (x:=l) (e:=l) (by rw[hH];exact trivial) (.inl rfl) (fun b' u hb hu=>(Heap.get?_update_other s.heap (Obj.mapSeq f) (Ne.symm hb)).trans hu) ⟨_,q⟩ ?_
 exact⟨hz,its',_,hv,q⟩
theorem Inv.JH{its:List Value}{t':Nat}(I:Inv X pins σ H s)(hv:Vals ys its)(hz:ys.length<=sizeLine) :
 Inv X pins σ (upd H s.heap.objs.size (.lst ys)) {s with heap:=s.heap.push {cls:= .type "list",data:= .seq its.toArray},toks:=t'}:=
 I.laid (fun _ _ q=>Heap.get?_push_of_some _ q) (Nat.le_refl _) ⟨hz,its,0,hv,Heap.get?_push_size _ rfl⟩
theorem Inv.fresh(I:Inv X pins σ H s):H s.heap.objs.size=none:=I.hok.fresh (Nat.le_refl _)
theorem Inv.Gh(I:Inv X pins σ H s)(hH:H l=some (.lst xs)):xs.length<=sizeLine/\∃(its:List Value) (n:Nat),Vals xs its/\xs.length=its.length/\s.heap.get? l=some {cls:= .type "list",data:= .seq its.toArray n}:=by
 obtain⟨z,its,n,r,e⟩:=I.hok l _ hH;exact⟨z,its,n,r,r.length,e⟩
theorem wc{n:Nat}(h:n<=sizeLine):Builtin.List.listTooLong n=false:=by
 unfold Builtin.List.listTooLong;exact decide_eq_false (by omega)
end
section
variable {X:Cx}
def KH:V->List V->Hp->VK->Prop:=fun x vs H Q=>∃l xs y,x= .ref l/\vs=[y]/\H l=some (.lst xs)/\xs.length < sizeLine/\Q .cK (upd H l (.lst (xs++[y])))
theorem sF:SJ X "list.append" KH:=by
 intro pins s σ H x vs v us Q I rx rv h;obtain⟨l,xs,y,rfl,rfl,hH,hz,q⟩:=h;cases rx;obtain⟨u,rfl,ru⟩:=rv.one;obtain⟨z,its,n,r,hl,e⟩:=I.Gh hH;refine call_meets F.slot_list_append ⟨_,e,rfl⟩ F.entry_list_append (F.args_list_append_2 _ _) (PySem.list_append l its.toArray n u (by rw[List.size_toArray];omega)) ⟨e,?_⟩
 refine⟨.cK,_,I.M7 (its':=its++[u]) hH e (by simp) (r.append (.cons ru .nil)) ?_,rfl,q⟩
 rw[List.length_append,List.length_singleton];omega
def KA:V->List V->Hp->VK->Prop:=fun x vs H Q=>∃l b xs zs,x= .ref l/\vs=[.ref b]/\H l=some (.lst xs)/\H b=some (.lst zs)/\xs.length+zs.length<=sizeLine/\Q .cK (upd H l (.lst (xs++zs)))
theorem Fq:SJ X "list.extend" KA:=by
 intro pins s σ H x vs v us Q I rx rv h;obtain⟨l,b,xs,zs,rfl,rfl,hH,hB,hz,q⟩:=h;cases rx;obtain⟨u,rfl,ru⟩:=rv.one;cases ru;obtain⟨z,its,n,r,hl,e⟩:=I.Gh hH;obtain⟨z2,rZ,n2,r2,F7,e2⟩:=I.Gh hB;have hsz:its.toArray.size+rZ.toArray.size<=sizeLine:=by rw[List.size_toArray,List.size_toArray];omega
 have hlong:¬(!its.toArray.isEmpty && Builtin.List.listTooLong (its.toArray.size+rZ.toArray.size))=true:=by
  rw[wc hsz,Bool.and_false];exact Bool.false_ne_true
 refine call_meets F.slot_list_extend ⟨_,e,rfl⟩ F.entry_list_extend (F.args_list_extend_2 _ _)
  (AutoSeq1.list_extend_list_list_0 l its.toArray n b rZ.toArray n2 hlong (by rw[List.size_toArray];omega) (by omega)) ⟨e,e2,?_⟩
 refine⟨.cK,_,I.M7 (its':=its++rZ) hH e (by simp) (r.append r2) ?_,rfl,q⟩
 rw[List.length_append];omega
def V4:V->List V->Hp->VK->Prop:=fun x vs H Q=>∃l xs y,x= .ref l/\vs=[]/\H l=some (.lst xs)/\xs[xs.length - 1]? =some y/\Q y (upd H l (.lst xs.dropLast))
def Ta:V->List V->Hp->VK->Prop:=fun x vs H Q=>∃l xs i k y,x= .ref l/\vs=[.int i]/\H l=some (.lst xs)/\ -(2 ^ 63)<=i/\i < 2 ^ 63/\seqIndex? i xs.length=some k/\xs[k]? =some y/\Q y (upd H l (.lst (xs.eraseIdx k)))
def PL:V->List V->Hp->VK->Prop:=fun x vs H Q=>∃l xs,x= .ref l/\vs=[]/\H l=some (.lst xs)/\Q .cK (upd H l (.lst xs.reverse))
def Sk:V->List V->Hp->VK->Prop:=fun x vs H Q=>∃l xs,x= .ref l/\vs=[]/\H l=some (.lst xs)/\Q .cK (upd H l (.lst []))
def WJ:R2:=fun x y H Q=>∃l b xs zs,x= .ref l/\y= .ref b/\H l=some (.lst xs)/\H b=some (.lst zs)/\xs.length+zs.length<=sizeLine/\∀p,H p=none->Q (.ref p) (upd H p (.lst (xs++zs)))
def Tx:R2:=fun x y H Q=>∃l k xs,x= .ref l/\y= .int k/\H l=some (.lst xs)/\ -(2 ^ 63)<=k/\k < 2 ^ 63/\xs.length*k.toNat<=sizeLine/\
 ∀p,H p=none->Q (.ref p) (upd H p (.lst (List.replicate k.toNat xs).flatten))
theorem len_rep{α:Type}(xs:List α)(k:Nat):(List.replicate k xs).flatten.length=k*xs.length:=by
 induction k with
 | zero=>simp
 | succ k ih=>rw [List.replicate_succ,List.flatten_cons,List.length_append,ih,Nat.succ_mul,Nat.add_comm]
theorem ND:nk X (binaryOp .Mult) Tx:=by
 intro pins s σ H x y v u Q I rx ry h;obtain⟨l,k,xs,rfl,rfl,hH,h1,h2,hz,q⟩:=h;cases rx;obtain⟨t,rfl⟩:=ry;obtain⟨z,its,n,r,hl,e⟩:=I.Gh hH;have hlen:its.toArray.size*k.toNat<=sizeLine:=by rw[List.size_toArray,<-hl];exact hz
 have hcap:¬its.toArray.size*k.toNat > (2 ^ 63 - 1) / 8:=by
  have:(sizeLine:Nat)<=(2 ^ 63 - 1) / 8:=by decide
  omega
 have hfit:¬(!Builtin.List.listFitsIndex k)=true:=by
  rw[fitsIndex_both h1 h2];exact Bool.false_ne_true
 have hlong:¬Builtin.List.listTooLong (its.toArray.size*k.toNat)=true:=by
  rw[wc hlen];exact Bool.false_ne_true
 have hnew:List.foldl (fun x1 x2=>x1++x2) #[] (List.replicate (if its.toArray.isEmpty=true then 0 else k.toNat) its.toArray)=(List.replicate k.toNat its).flatten.toArray:=by
  have f0:∀m:Nat,List.foldl (fun x1 x2=>x1++x2) #[] (List.replicate m its.toArray)=(List.replicate m its).flatten.toArray:=fun m=>by
   have:=foldl_rep its m [];rw[List.nil_append] at this;exact this
  rw[f0];cases its with
  | nil=>simp
  | cons a r'=>rw [if_neg (by simp)]
 refine wpAny_binaryOp_repeat_ref (T:="list") (U:="int") (by decide) ⟨_,e,rfl⟩ (fun s'=>typeIs_int s' k t) noFill_list_mul F.fills_int_mul F.slot_int_rmul repeat_list F.slot_int_index.lookup
  (call_meets F.slot_int_rmul (typeIs_int s k t) F.entry_int_rmul (F.args_int_rmul_2 _ _) (int___rmul___int_list k t l its.toArray n)
    ⟨e,rfl,⟨_,e,rfl⟩,call_meets F.slot_list_mul ⟨_,e,rfl⟩ F.entry_list_mul (F.args_list_mul_2 _ _) (AutoListH.list___mul___list_int_3 l its.toArray n k t hfit hcap hlong) ⟨e,?_⟩⟩)
 rw[hnew];exact⟨.ref _,_,I.JH (t':=s.toks) (r.rep k.toNat) (by rw[len_rep,Nat.mul_comm];exact hz),rfl,q _ I.fresh⟩
end
section
variable {prog:Program} {w:World} {A:Around} {E:Value->Shared->Prop} {s:Shared}
set_option maxRecDepth 100000 in
end
section
variable {X:Cx}
end
end L2
namespace Att
open PySem PySem.W PySem.Calls PyProof.Rows
theorem uJ{P:Params}:∀(ns:List Int) (vs:List Value),WellAll P h vs (ns.map WData.int)->IntsAre vs ns:=by
 intro ns
 induction ns with
 | nil=>
   intro vs w;rw[List.map_nil] at w;cases w;exact .nil
 | cons n ns ih=>
   intro vs w;rw[List.map_cons] at w;cases w with
   | cons a b=>
     cases a;exact .cons _ _ (ih _ b)
theorem FP{l:OpenLaw}{n:Nat}(hn:l.most=some n){P:Params}{h:Heap}{args:List WData}{vals:List Value}
 (Lx:l.row.toRowW.claim.pre args=true) (zK:WellAll P h vals args) :
 ∃a vs ns,vals=[Value.ref a]/\args=[WData.list (ns.map WData.int)]/\h.get? a=some {cls:= .type "list",data:= .seq vs.toArray}/\IntsAre vs ns/\ns.length<=n:=by
 have hsh:WShape.hasAll [] args [.list .int]=true:=(pre_splitW Lx).1;have hc:l.pre.holds [] {args:=args}=true:=(pre_splitW Lx).2;obtain⟨d,r,rfl,h1,h2⟩:=hasAllW_cons hsh;obtain rfl:=hasAllW_nil h2;obtain⟨xs,rfl,h3⟩:=hasW_list h1;obtain⟨ns,rfl⟩:=items_int h3;have hlen:ns.length<=n:=by
  unfold OpenLaw.pre at hc;have h4:(WTm.not (.lt (.lit (.int (n:Int))) (.len (.arg 0)))).holds [] {args:=[.list (ns.map .int)]}=true:=by
   have h4:=(holds_andW hc).1;rw[hn] at h4;exact h4
  have h5:=condW_of h4 (w_not (w_lt w_lit (w_len_list (w_arg rfl))));rw[List.length_map] at h5;refine Nat.le_of_not_lt fun q=>?_
  have q':(n:Int) < ((ns.length:Nat):Int):=by omega
  first
   | (rw [decide_eq_true q'] at h5;exact absurd h5 (by decide))
   | (simp at h5;omega)
 cases zK with
 | cons w1 w2=>
   cases w2;cases w1 with
   | list ho xV=>exact⟨_,_,ns,rfl,rfl,ho,uJ ns _ xV,hlen⟩
theorem EV(l:OpenLaw)(args:List WData):l.row.toRowW.claim.post args (.bool true) args=true:=
 postW_of (r:=l.row.toRowW) (X:=(true==true))
  (show WShape.has [] (.bool true) .bool=true by first | rfl | decide | simp [WShape.has,WShape.arms,WShape.armsAll])
  (show(WTm.eq .res (.lit (.bool true))).value [] {args:=args,res:=some (.bool true),after:=args}=some (.bool (true==true)) from w_eq_bool (w_res rfl) w_lit) rfl
theorem AZ{l:OpenLaw}{n:Nat}{q:Program}{loose:List Str}{XP:(Str->Option Value)->Heap->Prop}{YP:World->Heap->Prop}{d:DefRec}
 (hn:l.most=some n) (Ud:d.params.defaults=[])
 (call:∀(w:World) (s₀ s₁:Shared) (mg mb:Str->Option Value) (fa:Addr) (o:Obj) (pm cd doc:Value) (a:Addr) (vs:List Value) (ns:List Int),
   Ground q loose [] XP w s₀ mg mb s₁.heap->YP w s₁.heap->
   s₁.heap.get? fa=some o->o.data= .func (docDef d.name d.params d.body d.scope pm cd doc)->s₁.heap.CodeRec cd d.name->mg d.name=some (.ref fa)->
   s₁.heap.get? a=some {cls:= .type "list",data:= .seq vs.toArray}->IntsAre vs ns->ns.length<=n->s₁.gens=#[]->
   codeAny (model l.prog w) callerA (.call (.ref fa) ⟨[.ref a],[]⟩) (fun r s'=>r= .ok (.ret (.bool true))/\OldK s₁.heap s'.heap/\s'.os=s₁.os/\AllBare s'.gens) s₁) :
 WalkO q loose XP YP l.row.toRowW d [] (fun f vs=>PySem.call f vs):=by
 intro w s₀ s₁ mg mb G Y fa o pm cd doc dV kV ho hd tI hD QX hg args vals as Lx hlay hrd zK hlo;obtain rfl:dV= .none:=Dflts.none hD Ud;obtain rfl:kV= .none:=Dflts.noKw hD;obtain⟨a,vs,ns,rfl,rfl,OL,hints,hlen⟩:=FP hn Lx zK;refine enter_call (codeAny_mono (call w s₀ s₁ mg mb fa o pm cd doc a vs ns G Y ho (fd_plain hd) tI QX OL hints hlen hg) fun r s' hq=>?_)
 obtain⟨rfl,h2,h3,h4⟩:=hq;exact⟨.inl ⟨.bool true, .bool true,[],rfl,fun _=>rfl, .bool true,EV l _,fun _=>⟨List.Pairwise.nil,fun _ hm=>(nomatch hm)⟩⟩,h2,h3,h4⟩
section
variable {prog:Program} {w:World} {A:Around} {E:Value->Shared->Prop} {s:Shared} {K:Frag}
def RY(h:Heap):Heap:={h with objs:=#[]}
def ledger(h:Heap)(L d:Addr):List (Addr × Obj):=(List.range h.objs.size).filterMap fun a=>if a=L\/a=d then none else(h.get? a).map fun o=>(a,o)
end
end Att
namespace L2
open PySem PySem.Spec PyProof.Rows
theorem yh:∀{vs:List Value} {ns:List Int},IntsAre vs ns->Vals (ns.map V.int) vs
 | _,_, .nil=> .nil
 | _,_, .cons n t h=> .cons ⟨t,rfl⟩ (yh h)
def Qd(H:Hp):Prop:=∀b,H b=none\/∃o xs,H b=some (.lp o (.lst xs))
abbrev eL{K:W.Frag}{h:Heap}(_:K.In h):W.Frag:=K
def inClass(s:Stmt)(j:Nat):Stmt:=match s with
 | .ClassDef _ _ _ body _ _ _ _ _ _ _=>body.getD j (.Pass ⟨0,0,0,0⟩)
 | _=> .Pass ⟨0,0,0,0⟩
def ji(s:Stmt):Arguments:=match s with
 | .FunctionDef _ a _ _ _ _ _ _ _ _=>a
 | _=>{posonlyargs:=[],args:=[],vararg:=none,kwonlyargs:=[],kw_defaults:=[],kwarg:=none,defaults:=[]}
def aM(s:Stmt):List Stmt:=match s with
 | .FunctionDef _ _ b _ _ _ _ _ _ _=>b
 | _=>[]
def aC(s:Stmt):Scope:=match s with
 | .FunctionDef _ _ _ _ _ _ sc _ _ _=>sc
 | _=>{kind:= .function,names:=[],isGenerator:=false,isCoroutine:=false}
abbrev xn:Gm:=fun _ _ _ _ _ _=>False
abbrev E0:XK:=fun _ _ _=>False
theorem A4{X:Cx}:Passes xn X E0:=fun _ _ _ _ _ _ _ h=>h.elim
structure EA (K:W.Frag) (x qual:Str) (st:Stmt) (f:Addr) (fd:FuncData):Prop where
 ex:∃(oc:Value) (od:Option Addr) (kV doc pm:Value) (an:Option Addr) (dJ ct:Value) (Jz:Array (Option Value)),
  fd=PySem.W.fnOf x qual (ji st) (aM st) (aC st) .none kV doc pm an dJ ct/\K.lookup f=some ⟨oc,od, .func fd,Jz⟩/\PySem.W.codeIn K dJ qual=true
 kp:PySem.W.keepIn K (.ref f)=true
section
variable {P:Program} {w:World} {K:W.Frag} {mg:Str->Option Value} {base:Heap}
theorem EA.ok{x qual:Str}{st:Stmt}{f:Addr}{fd:FuncData}{N ps:List Str}{k:Nat}{sp:Sp}(F:EA K x qual st f fd)(S:aW N ps (aC st))(len:∀vs H Q E,sp vs H Q E->vs.length=ps.length)
 (mS:∀(dJ:Value) (A:Around) (outer:List Env) (s:Shared) (H:Hp) (vs:List V) (Q:VK) (E:XK),eX k (A.deeper (envOfC qual (aC st) s.heap.objs.size f dJ))->sp vs H Q E->
   ∃t,y7 (vz xn P w K mg base N qual (aC st) f dJ A outer s H E).Li (aM st) t/\t {nx:=fun _ H'=>Q .cK H',rt:=Q} (start N vs) H):jI P w K mg base xn (k+1) f fd ps sp:=by
 obtain⟨oc,od,kV,doc,pm,an,dJ,ct,Jz,rfl,lk,tI⟩:=F.ex;refine Qg lk tI S len fun A outer s H vs Q E hr Pf=>?_
 obtain⟨t,h,q⟩:=mS dJ A outer s H vs Q E hr Pf;exact⟨t,h.Li,q⟩
theorem EA.binds{x qual:Str}{st:Stmt}{f:Addr}{fd:FuncData}{ps:List Str}(F:EA K x qual st f fd)
 (h:∀(kV doc pm:Value) (an:Option Addr) (dJ ct:Value) (us:List Value),us.length=ps.length->bindArgs (PySem.W.fnOf x qual (ji st) (aM st) (aC st) .none kV doc pm an dJ ct) ⟨us,[]⟩=pure (ps.zip us)):Binds K fd ps []:=by
 obtain⟨oc,od,kV,doc,pm,an,dJ,ct,Jz,rfl,lk,tI⟩:=F.ex;exact .all (h kV doc pm an dJ ct)
theorem tj{x qual:Str}{st:Stmt}{f:Addr}{oc:Value}{od an:Option Addr}{Jz:Array (Option Value)}{kV doc pm dJ ct:Value}(l:K.lookup f=some ⟨oc,od, .func (PySem.W.fnOf x qual (ji st) (aM st) (aC st) .none kV doc pm an dJ ct),Jz⟩)
 (c:PySem.W.codeIn K dJ qual=true) (k:PySem.W.keepIn K (.ref f)=true):EA K x qual st f (PySem.W.fnOf x qual (ji st) (aM st) (aC st) .none kV doc pm an dJ ct):=⟨⟨oc,od,kV,doc,pm,an,dJ,ct,Jz,rfl,l,c⟩,k⟩
end
theorem Eg{A:Around}{k:Nat}(hr:eX k A):A.units+1 < cLine:=Nat.lt_of_le_of_lt (Nat.add_le_add_left (by decide:1<=64) _) hr.units
section
variable {X:Cx}
end
theorem Fi{A B:Prop}(h:B):if false=true then A else B:=by
 rw[if_neg Bool.false_ne_true];exact h
theorem FU{A B:Prop}(h:A):if true=true then A else B:=by
 rw[if_pos rfl];exact h
def bg(H H':Hp):Prop:=∀b o,H b=some o->H' b=some o
theorem bg.refl(H:Hp):bg H H:=fun _ _ h=>h
theorem bg.trans(a:bg H H1)(b:bg H1 H2):bg H H2:=fun c o h=>b c o (a c o h)
theorem bg.free{H H':Hp}(e:bg H H'){l:Addr}(h:H' l=Option.none):H l=Option.none:=by
 cases q:H l with
 | none=>rfl
 | some o=>
   rw[e l o q] at h;cases h
section
variable {κ:Type} [DecidableEq κ]
end
end L2
end
section
namespace L2
open PySem PySem.Spec PyProof.Rows
def uz(cells:List (Str × Addr)):List (Str × NameKind)->List (Str × Addr)->List (Str × Addr)
 | [],acc=>acc
 | (n,k) ::r,acc=>uz cells r (if k==NameKind.free then(n,(cells.lookup n).getD 0) ::acc else acc)
theorem m6{env:Env}:∀(names:List (Str × NameKind)) (acc:List (Str × Addr)),(∀y∈names,y.2= .free->∃c,env.cells.lookup y.1=some c)->
 (forIn names acc fun(x:Str × NameKind) (cs:List (Str × Addr))=>(match x with
   | (name,kind)=>if kind== .free then do let a <-cellOf env name;pure (ForInStep.yield ((name,a) ::cs)) else pure (ForInStep.yield cs):Sem (ForInStep (List (Str × Addr)))))=pure (uz env.cells names acc)
 | [],acc,_=>by simp [uz]
 | (n,k) ::r,acc,h=>by
   rw[List.forIn_cons];by_cases hk:k=NameKind.free
   .subst hk;obtain⟨c,hc⟩:=h (n, .free) List.mem_cons_self rfl;have e:cellOf env n=pure c:=by unfold cellOf;rw [hc]
    simp only[beq_self_eq_true,if_true,e,pure_bind,uz,hc,Option.getD_some];exact m6 r _ fun y hy=>h y (List.mem_cons_of_mem _ hy)
   .have hb:(k==NameKind.free)=false:=by simpa using hk
    simp only[hb,Bool.false_eq_true,if_false,pure_bind,uz];exact m6 r _ fun y hy=>h y (List.mem_cons_of_mem _ hy)
theorem nT{env:Env}{scope:Scope}(h:∀y∈scope.names,y.2= .free->∃c,env.cells.lookup y.1=some c):closureFor scope env=pure (uz env.cells scope.names []):=by
 unfold closureFor;have:=m6 (env:=env) scope.names [] h;simp only[bind_pure];exact this
theorem o4{cells:List (Str × Addr)}:∀(names:List (Str × NameKind)) (acc:List (Str × Addr)) {x:Str} {c:Addr},(uz cells names acc).lookup x=some c->
 acc.lookup x=some c\/((x,NameKind.free)∈names/\c=(cells.lookup x).getD 0)
 | [],acc,x,c,h=> .inl h
 | (n,k) ::r,acc,x,c,h=>by
   rcases o4 r _ h with q | ⟨q1,q2⟩
   .by_cases hk:k=NameKind.free
    .subst hk;simp only[beq_self_eq_true,if_true] at q;cases hx:x==n with
     | true=>
       have e:x=n:=by simpa using hx
       subst e;rw[List.lookup_cons,hx] at q;exact .inr ⟨List.mem_cons_self,(Option.some.inj q).symm⟩
     | false=>
       rw[List.lookup_cons,hx] at q;exact .inl q
    .have hb:(k==NameKind.free)=false:=by simpa using hk
     simp only[hb,Bool.false_eq_true,if_false] at q;exact .inl q
   .exact .inr ⟨List.mem_cons_of_mem _ q1,q2⟩
theorem A8{cells:List (Str × Addr)}:∀(names:List (Str × NameKind)) (acc:List (Str × Addr)) {x:Str},((x,NameKind.free)∈names\/∃c,acc.lookup x=some c)->∃c,(uz cells names acc).lookup x=some c
 | [],acc,x,h=>by
   rcases h with h | h
   .simp at h
   .exact h
 | (n,k) ::r,acc,x,h=>by
   refine A8 r _ ?_;rcases h with h | ⟨c,h⟩
   .rcases List.mem_cons.mp h with e | e
    .cases e;exact .inr ⟨(cells.lookup n).getD 0,by simp [List.lookup_cons]⟩
    .exact .inl e
   .by_cases hk:k=NameKind.free
    .subst hk;simp only[beq_self_eq_true,if_true];cases hx:x==n with
     | true=>exact .inr ⟨(cells.lookup n).getD 0,by rw[List.lookup_cons,hx]⟩
     | false=>exact .inr ⟨c,by rw[List.lookup_cons,hx];exact h⟩
    .have hb:(k==NameKind.free)=false:=by simpa using hk
     simp only[hb,Bool.false_eq_true,if_false];exact .inr ⟨c,h⟩
def bN(X:Cx)(scope:Scope)(N':List Str)(fp:List Addr)(s:Shared)(H:Hp):Cx where
 prog:=X.prog
 w:=X.w
 K:=X.K
 mg:=X.mg
 base:=X.base
 A:=X.A
 N:=N'
 s₀:=s
 H₀:=H
 env:=compEnvC scope (uz X.env.cells scope.names []) s.heap.objs.size X.env
 outer:=X.stack
 stack:=X.stack
 ex:=fp
 fn:=fun _=>false
 calm:=X.calm
 pn:=[]
 xe:=fun _ _=>False
structure bO (X:Cx) (scope:Scope) (own:List Str) (kp:List Nat) (kn:List Str):Prop where
 kind:scope.kind= .function
 nocell:∀y∈scope.names,y.2≠ .cell
 nd:∀y∈scope.names,y.2= .local->scope.names.lookup y.1=some .local
 free:∀y∈scope.names,y.2= .free->X.env.kindOf y.1=some .cell\/X.env.kindOf y.1=some .free
 names:kn.length=kp.length
 at_:∀(j i:Nat) (x:Str),kp[j]? =some i->kn[j]? =some x->X.N[i]? =some x
 isfree:∀x∈kn,scope.names.lookup x=some .free
def dO(own:List Str)(kp:List Nat)(σ:St):St:=List.replicate own.length none++kp.map fun i=>(σ[i]?).getD none
section
variable {X:Cx} {scope:Scope} {own:List Str} {kp:List Nat} {kn:List Str}
theorem fA{env:Env}:∀{names:List (Str × NameKind)} {x:Str} {k:NameKind},
 (names.map fun(n,k)=>if(k==NameKind.free && env.scope.kind== .function && env.kindOf n==some .cell) then(n,NameKind.cell) else(n,k)).lookup x=some k->
 names.lookup x=some k\/(k= .cell/\names.lookup x=some .free)
 | [],_,_,h=>by simp at h
 | (n,k) ::r,x,k',h=>by
   have ih:=@fA env r x k';have h:List.lookup x ((if(k==NameKind.free && env.scope.kind== .function && env.kindOf n==some .cell)=true then(n,NameKind.cell) else(n,k)) ::_)=some k':=h
   by_cases hc:(k==NameKind.free && env.scope.kind== .function && env.kindOf n==some .cell)=true
   .rw [if_pos hc] at h;have hkf:k= .free:=by
     simp only[Bool.and_eq_true,beq_iff_eq] at hc;exact hc.1.1
    cases hx:x==n with
    | true=>
      rw[List.lookup_cons,hx] at h;cases h;exact .inr ⟨rfl,by rw[List.lookup_cons,hx,hkf]⟩
    | false=>
      rw[List.lookup_cons,hx] at h;rw[List.lookup_cons,hx];exact ih h
   .rw [if_neg hc] at h;cases hx:x==n with
    | true=>
      rw[List.lookup_cons,hx] at h;rw[List.lookup_cons,hx];exact .inl h
    | false=>
      rw[List.lookup_cons,hx] at h;rw[List.lookup_cons,hx];exact ih h
theorem qc{pins:List (Addr × Obj)}{s:Shared}(C:bO X scope own kp kn)(I:Inv X pins σ H s):∀y∈scope.names,y.2= .free->∃c,X.env.cells.lookup y.1=some c:=fun y hy hf=>
 I.ok.has y.1 (C.free y hy hf)
theorem HP{pins:List (Addr × Obj)}{σ:St}{H:Hp}{s:Shared}{fp:List Addr}{jT:Heap}{tk:Nat}(C:bO X scope own kp kn)(I:Inv X pins σ H s)(hf:∀b∈fp,uR X pins H b)(hb:∀b∈fp,b < s.heap.objs.size)
 (hn:jT.Ns s.heap.objs.size (fun _=>none)) (hk:∀b o,s.heap.get? b=some o->jT.get? b=some o):Inv (bN X scope (own++kn) fp s H) [] (dO own kp σ) H {s with heap:=jT,toks:=tk}:=by
 have cl:∀x c,(uz X.env.cells scope.names []).lookup x=some c->X.env.cells.lookup x=some c:=fun x c e=>by
  rcases o4 scope.names [] e with q | ⟨q1,q2⟩
  .simp at q
  .obtain⟨c',Gd⟩:=qc C I (x, .free) q1 rfl;have Gd:X.env.cells.lookup x=some c':=Gd;rw[Gd] at q2;rw[Gd,q2];rfl
 have clh:∀x,scope.names.lookup x=some .free->∃c,(uz X.env.cells scope.names []).lookup x=some c:=fun x hx=>A8 scope.names [] (.inl (PySem.mem_of_lookup hx))
 refine⟨⟨I.ok.mod,C.kind,I.ok.glob,I.ok.blt,Nat.le_refl _,fun x y c h1 h2=>I.ok.inj x y c (cl x c h1) (cl y c h2),fun x hx=>?_,fun x c h=>(by cases h),I.ok.hd,I.ok.frames, .inl rfl,fun b zL=>⟨Nat.ne_of_lt (hb b zL),fun x c e z=>(hf b zL).2.2.2.2.1 x c (cl x c e) z⟩,
  fun b o e=>I.bs b o e,Nat.le_trans I.ok.bsz I.sz,fun b o e zL=>?_,fun b zL hs=>?_,I.stack,I.Dm⟩,
  rfl,I.bare,Un.kept hk,⟨_,hn,fun i x v h1 h2 h3=>?_⟩,fun x c e=>?_,I.hok.fresh (Nat.le_refl _),fun x c e=>I.freeC x c (cl x c e),fun p hp=>(by cases hp),I.hok.kept hk,?_⟩
 .have hx:(relabel scope X.env).names.lookup x=some .cell\/(relabel scope X.env).names.lookup x=some .free:=hx;rcases hx with hx | hx
  .rcases fA hx with q | ⟨_,q⟩
   .exact absurd rfl (C.nocell _ (PySem.mem_of_lookup q))
   .exact clh x q
  .rcases fA hx with q | ⟨q,_⟩
   .exact clh x q
   .cases q
 .rcases(hf b zL).2.2.2.1 with z | z
  .exact I.ok.noex b o e z
  .exact absurd (Nat.lt_of_lt_of_le (Heap.lt_size (I.ok.bs b o e).1) z) (Nat.lt_irrefl _)
 .rcases List.mem_cons.mp (I.CB b hs) with z | z
  .exact(hf b zL).2.1 z
  .exact(hf b zL).2.2.1 z
 .-- a kept name
  have h1:(own++kn)[i]? =some x:=h1;have h2:(dO own kp σ)[i]? =some (some v):=h2;unfold dO at h2;by_cases hi:i < own.length
  .rw [List.getElem?_append_left (by simpa using hi),List.getElem?_replicate] at h2
   split at h2 <;> cases h2
  .rw [List.getElem?_append_right (by simpa using hi),List.length_replicate,List.getElem?_map] at h2
   rw[List.getElem?_append_right (by simpa using hi)] at h1
   cases e:kp[i - own.length]? with
   | none=>rw [e] at h2;cases h2
   | some j=>
     rw[e] at h2;have h2:(σ[j]?).getD none=some v:=Option.some.inj h2;have hj:X.N[j]? =some x:=C.at_ _ j x e h1;have LB:σ[j]? =some (some v):=by
      cases q:σ[j]? with
      | none=>rw [q] at h2;cases h2
      | some y=>rw [q] at h2;exact congrArg some h2
     have hfree:scope.names.lookup x=some .free:=C.isfree x (List.mem_of_getElem? h1);have hkind:=C.free (x, .free) (PySem.mem_of_lookup hfree) rfl;obtain⟨m,hm,hl⟩:=I.loc;obtain⟨u,r,l⟩:=hl j x v hj LB (hkind.elim (fun q=>Or.inr (Or.inl q)) fun q=>Or.inr (Or.inr q))
     refine⟨u,r, .inr ⟨?_,?_⟩⟩
     .have h3:(relabel scope X.env).names.lookup x=some .local\/(relabel scope X.env).names.lookup x=some .cell\/(relabel scope X.env).names.lookup x=some .free:=h3;rcases h3 with q | q | q
      .rcases fA q with z | ⟨z,_⟩
       .rw [hfree] at z;cases z
       .cases z
      .exact .inl q
      .exact .inr q
     .rcases l with⟨k,_⟩ | ⟨_,c,hc,hcell⟩
      .rcases hkind with q | q
       .rw [show X.env.kindOf x=some .cell from q] at k;cases k
       .rw [show X.env.kindOf x=some .free from q] at k;cases k
      .obtain⟨c',Gd⟩:=clh x hfree;have:=cl x c' Gd;rw[hc] at this;cases this;obtain⟨o,ho,hd⟩:=hcell;exact⟨c,Gd,o,hk c o ho,hd⟩
 .obtain⟨v,o,ho,hd⟩:=I.cell x c (cl x c e);exact⟨v,o,hk c o ho,hd⟩
 .show(dO own kp σ).length=(own++kn).length;unfold dO;rw[List.length_append,List.length_replicate,List.length_map,List.length_append,C.names]
theorem vK{pins:List (Addr × Obj)}{s s':Shared}{fp:List Addr}{N':List Str}(I:Inv X pins σ H s)(hf:∀b∈fp,uR X pins H b)(J:Inv (bN X scope N' fp s H) [] c0 H' s'):Inv X pins σ H' s':=
 I.QH (ch:=fp) J.os J.base J.hok J.bare fun b hb=>⟨(hf b hb).2.2.2.1,(hf b hb).2.1,(hf b hb).2.2.2.2.1,(hf b hb).2.2.2.2.2⟩
end
def r_(X:Cx)(ifs:List Expr)(t:TT):Prop:=
 ∀(pins:List (Addr × Obj)) (s:Shared) (σ:St) (H:Hp) (Q:Bool->Hp->Prop),Inv X pins σ H s->t σ H Q->
  wpAny (model X.prog X.w) X.A (forIn ifs true fun c r=>if r=true then do let ok <-isTrue c X.env (eval c X.env);pure (ForInStep.yield ok) else pure (ForInStep.yield r)) (TP X pins σ Q) X.xe s
def SN:TT:=fun _ H Q=>Q true H
theorem Ai{X:Cx}:r_ X [] SN:=fun _ _ _ H _ I h=>wpAny_tests_nil ⟨H,I,h⟩
theorem zW{X:Cx}{t:TT}(h:PT X c t):r_ X [c] t:=fun pins s σ H Q I hq=>wpAny_tests_one (h pins s σ H Q I hq)
def DF(wi:TI)(g:TG)(tc:TT)(te:TE)(own:List Str)(kp:List Nat):TE:=fun σ H Q=>wi σ H fun J H1=>∀D,H1 D=none->
 ∃W:Nat->Nat->List V->Hp->Prop,(∃m,W 0 m [] (upd H1 D (.lst [])))/\∀i m ys H,W i m ys H->
  (J.stop i H/\Q (.ref D) H)\/(J.go i H/\∀x H',J.yld i H x H'->g x (dO own kp σ) H' fun xl H2=>tc xl H2 fun c H3=>
    if c=true then te xl H3 fun y H4=>H4 D=some (.lst ys)/\ys.length < sizeLine/\∃m',m' < m/\W (i+1) m' (ys++[y]) (upd H4 D (.lst (ys++[y])))
    else ∃m',m' < m/\W (i+1) m' ys H3)
section
variable {X:Cx} {scope:Scope} {own:List Str} {kp:List Nat} {kn:List Str} {tg iter elt:Expr} {ifs:List Expr} {wi:TI} {g:TG} {tc:TT} {te:TE} {pos:Pos}
theorem Ba{pins:List (Addr × Obj)}{σ:St}{H:Hp}{s:Shared}{fp:List Addr}{it D:Addr}{tn:Nat->Heap->Prop}{J:It}{Q:VK}{jT:Heap}{tk:Nat}{R:Result->Shared->Prop}
 (hc:X.calm=true) (C:bO X scope own kp kn) (I:Inv X pins σ H s) (hf:∀b∈fp,uR X pins H b) (hb:∀b∈fp,b < s.heap.objs.size) (T:Turn X.prog X.w X.K tg J fp it tn)
 (hg:PG (bN X scope (own++kn) fp s H) tg g) (hi:r_ (bN X scope (own++kn) fp s H) ifs tc) (he:PE (bN X scope (own++kn) fp s H) elt te)
 (hn:jT.Ns s.heap.objs.size (fun _=>none)) (hk:∀b o,s.heap.get? b=some o->jT.get? b=some o) (st:tn 0 s.heap)
 (W:Nat->Nat->List V->Hp->Prop) (w0:∃m,W 0 m [] H)
 (turn:∀i m ys H,W i m ys H->
   (J.stop i H/\Q (.ref D) H)\/(J.go i H/\∀x H',J.yld i H x H'->g x (dO own kp σ) H' fun xl H2=>tc xl H2 fun c H3=>
     if c=true then te xl H3 fun y H4=>H4 D=some (.lst ys)/\ys.length < sizeLine/\∃m',m' < m/\W (i+1) m' (ys++[y]) (upd H4 D (.lst (ys++[y])))
     else ∃m',m' < m/\W (i+1) m' ys H3))
 (hR:∀H' s' c0,Inv (bN X scope (own++kn) fp s H) [] c0 H' s'->Q (.ref D) H'->R (.ok .next) s') :
 codeAny (model X.prog X.w) X.A (.compStart (.ListComp elt [⟨tg,iter,ifs,0⟩] scope pos) 0 (.ref it) (.ref D) (bN X scope (own++kn) fp s H).env) R {s with heap:=jT,toks:=tk}:=by
 have I1:Inv (bN X scope (own++kn) fp s H) [] (dO own kp σ) H {s with heap:=jT,toks:=tk}:=HP C I hf hb hn hk
 have Vw:tn 0 jT:=T.keep _ _ _ st fun b _ o e=>hk b o e
 have fp1:∀{H':Hp} {p:List (Addr × Obj)},(∀b∈fp,H' b=none)->(∀b∈fp,∀q∈p,q.1≠b)->∀b∈fp,uR (bN X scope (own++kn) fp s H) p H' b:=fun {H' p} hn hp b zL=>
  ⟨hn b zL,(I1.ok.exf b zL).1,I1.ok.exfs b zL, .inl zL,fun x c e=>(I1.ok.exf b zL).2 x c e,fun q hq=>hp b zL q hq⟩
 obtain⟨m0,w0⟩:=w0;have loop:codeAny (model X.prog X.w) X.A (.compLoop (.ListComp elt [⟨tg,iter,ifs,0⟩] scope pos) 0 (.ref it) (.ref D) (bN X scope (own++kn) fp s H).env) R {s with heap:=jT,toks:=tk}:=by
  refine codeAny_loop rfl (fun n s'=>∃i ys H',Inv (bN X scope (own++kn) fp s H) [] (dO own kp σ) H' s'/\tn i s'.heap/\(∀b∈fp,H' b=none)/\W i n ys H') (fun n s' hI=>?_) m0 ⟨0,[],H,I1,Vw,fun b zL=>(hf b zL).1,w0⟩
  obtain⟨i,ys,H3,I3,Lv,QY,w3⟩:=hI;show wpAny _ _ ((compTurn (.ListComp elt [⟨tg,iter,ifs,0⟩] scope pos) 0 (.ref it) (.ref D) (bN X scope (own++kn) fp s H).env).onRaise (fun x=>do noteFrame x (bN X scope (own++kn) fp s H).env;theTreesLotGoes x)) _ _ s'
  refine wpAny_noted (wpAny_noRaise ?_);rw[compTurn_list];refine wpAny_bind (wpAny_standAt (wpAny_bind ?_));rcases turn i n ys H3 w3 with⟨stop,q⟩ | ⟨go,step⟩
  .refine dR (T.done (bN X scope (own++kn) fp s H) rfl rfl rfl hc i [] s' _ H3 _ I3 (fp1 QY (fun _ _ q hq=>by cases hq)) Lv stop) fun r s4 ⟨hr,I4⟩=>?_
   subst hr;exact wpAny_pure (hR H3 s4 _ I4 q)
  .refine dR (T.item (bN X scope (own++kn) fp s H) rfl rfl rfl hc i [] s' _ H3 _ I3 (fp1 QY (fun _ _ q hq=>by cases hq)) Lv go) fun r s4 ⟨u,hr,h4⟩=>?_
   subst hr;refine wpAny_bind (dR h4 fun _ s5 ⟨x,H5,I5,r5,y5,OR,UK⟩=>?_)
   have I5':=I5.pinned (fp1 UK (fun _ _ q hq=>by cases hq)) (T.obj _ _ OR)
   have keepIt:∀{Bq:St} {H7:Hp} {s7:Shared},Inv (bN X scope (own++kn) fp s H) ([]++qk fp s5.heap) Bq H7 s7->tn (i+1) s7.heap/\∀b∈fp,H7 b=none:=fun {Bq H7 s7} I7=>by
    refine⟨T.keep _ _ _ OR fun b hb o e=>(I7.pin (b,o) (List.mem_append_right _ (List.mem_append_right _ (nH hb e)))).1,fun b hb=>?_⟩
    obtain⟨o,e,d⟩:=T.obj _ _ OR b hb;exact(I7.pin (b,o) (List.mem_append_right _ (List.mem_append_right _ (nH hb e)))).2.1
   have reset:∀{Bq:St} {H7:Hp} {s7:Shared},Inv (bN X scope (own++kn) fp s H) ([]++qk fp s5.heap) Bq H7 s7->Inv (bN X scope (own++kn) fp s H) [] (dO own kp σ) H7 s7:=fun {Bq H7 s7} I7=>by
    have I8:=I7.qY;have hun:Un (F9 X.stack) fp H H7 s.heap s7.heap:=I8.base;have I9:Inv X pins σ H7 s7:=vK I hf I8;refine⟨I8.ok,I8.os,I8.bare,I8.base,?_,I8.cell,I8.free,I8.freeC,I8.pin,I8.hok,I1.len⟩;obtain⟨m,hm,_⟩:=I8.loc;refine⟨m,hm,fun i x v h1 h2 h3=>?_⟩
    obtain⟨m1,TM,zE⟩:=I1.loc;obtain⟨u1,r1,l1⟩:=zE i x v h1 h2 h3;have h1:(own++kn)[i]? =some x:=h1;have h2:(dO own kp σ)[i]? =some (some v):=h2;unfold dO at h2;by_cases hi:i < own.length
    .rw [List.getElem?_append_left (by simpa using hi),List.getElem?_replicate] at h2
     split at h2 <;> cases h2
    .rw [List.getElem?_append_right (by simpa using hi),List.length_replicate,List.getElem?_map] at h2
     rw[List.getElem?_append_right (by simpa using hi)] at h1
     cases e:kp[i - own.length]? with
     | none=>rw [e] at h2;cases h2
     | some j=>
       rw[e] at h2;have h2:(σ[j]?).getD none=some v:=Option.some.inj h2;have hj:X.N[j]? =some x:=C.at_ _ j x e h1;have LB:σ[j]? =some (some v):=by
        cases q:σ[j]? with
        | none=>rw [q] at h2;cases h2
        | some y=>rw [q] at h2;exact congrArg some h2
       have hfree:scope.names.lookup x=some .free:=C.isfree x (List.mem_of_getElem? h1);have hkind:=C.free (x, .free) (PySem.mem_of_lookup hfree) rfl;obtain⟨m9,YL,Xm⟩:=I9.loc;obtain⟨u,r,l⟩:=Xm j x v hj LB (hkind.elim (fun q=>Or.inr (Or.inl q)) fun q=>Or.inr (Or.inr q))
       refine⟨u,r, .inr ?_⟩;rcases l1 with⟨k,k2⟩ | ⟨k,c,hc,hcell⟩
       .have k:(relabel scope X.env).names.lookup x=some .local:=k;rcases fA k with z | ⟨z,_⟩
        .rw [hfree] at z;cases z
        .cases z
       .refine⟨k,c,hc,?_⟩;rcases l with⟨k',_⟩ | ⟨_,c',Gd,OG⟩
        .rcases hkind with q | q
         .rw [show X.env.kindOf x=some .cell from q] at k';cases k'
         .rw [show X.env.kindOf x=some .free from q] at k';cases k'
        .have hcl:(uz X.env.cells scope.names []).lookup x=some c:=hc;rcases o4 scope.names [] hcl with q | ⟨q1,q2⟩
         .simp at q
         .rw [Gd] at q2;have q2:c=c':=q2;rw[q2];exact OG
   have hmm:=hg ([]++qk fp s5.heap) s5 (dO own kp σ) H5 x u _ I5' r5 (step x H5 y5);refine wpAny_bind (dR hmm fun _ s6 ⟨Q_,H6,I6,q6⟩=>?_)
   refine wpAny_bind (dR (hi _ s6 Q_ H6 _ I6 q6) fun ok s7 ⟨H7,I7,q7⟩=>?_)
   cases ok with
   | false=>
     simp only[Bool.false_eq_true,if_false] at q7 ⊢;obtain⟨m',OX,w7⟩:=q7;obtain⟨a1,a2⟩:=keepIt I7;exact wpAny_pure ⟨rfl,m',OX,i+1,ys,H7,reset I7,a1,a2,w7⟩
   | true=>
     simp only[if_true] at q7 ⊢;refine wpAny_bind (wpAny_bind (dR (he _ s7 Q_ H7 _ I7 q7) fun yv s8 ⟨y,H8,I8,r8,hD,hlt,m',OX,w8⟩=>wpAny_bind ?_))
     obtain⟨a1,a2⟩:=keepIt I8;refine dR (sF _ s8 Q_ H8 (.ref D) [y] (.ref D) [yv] (fun v H9=>v= .cK/\H9=upd H8 D (.lst (ys++[y]))) I8 rfl (.cons r8 .nil) ⟨D,ys,y,rfl,rfl,hD,hlt,rfl,rfl⟩) fun _ s9 ⟨v9,H9,I9,_,_,e9⟩=>?_
     subst e9;obtain⟨b1,b2⟩:=keepIt I9;exact wpAny_pure (wpAny_pure ⟨rfl,m',OX,i+1,ys++[y],_,reset I9,b1,b2,w8⟩)
 exact codeAny_compStart_list loop (T.self _ _ _ _ _ Vw loop)
theorem Dr(hc:X.calm=true)(C:bO X scope own kp kn)(hi:PI X tg iter wi)(hg:∀fp s H,PG (bN X scope (own++kn) fp s H) tg g)(F4:∀fp s H,r_ (bN X scope (own++kn) fp s H) ifs tc)
 (he:∀fp s H,PE (bN X scope (own++kn) fp s H) elt te) (hs:∀x,foldedSetIterable iter X.env x=pure x:=by intro _;rfl):PE X (.ListComp elt [⟨tg,iter,ifs,0⟩] scope pos) (DF wi g tc te own kp):=by
 intro pins s σ H Q I h;rw[eval_ListComp];refine wpAny_comprehension_free (use:=none) rfl hs (nT (qc C I)) C.kind C.nd (dR (hi pins s σ H _ I h) fun v s1 h1=>dR h1 fun RS s2 h2=>?_)
 obtain⟨it,fp,tn,J,H2,e,I2,T,Jy,f2,q⟩:=h2;subst e;refine wpAny_newObj_type ?_;have I3:Inv X pins σ (upd H2 s2.heap.objs.size (.lst [])) {s2 with heap:=s2.heap.push {cls:= .type "list",dict:=none,data:= .seq ([]:List Value).toArray}}:=I2.JH (its:=[]) (t':=s2.toks) .nil (Nat.zero_le _)
 obtain⟨W,w0,turn⟩:=q s2.heap.objs.size I2.fresh;have fne:∀b∈fp,b < s2.heap.objs.size:=fun b hb=>let⟨o,e,_⟩:=T.obj _ _ Jy b hb;Heap.lt_size e
 have f3:∀b∈fp,uR X pins (upd H2 s2.heap.objs.size (.lst [])) b:=fun b hb=>⟨by rw[br (Nat.ne_of_lt (fne b hb))];exact(f2 b hb).1,(f2 b hb).2⟩
 generalize hs3:({s2 with heap:=s2.heap.push {cls:= .type "list",dict:=none,data:= .seq ([]:List Value).toArray}}:Shared)=s3 at I3 ⊢
 have Lv:tn 0 s3.heap:=by rw[<-hs3];exact T.keep _ _ _ Jy fun b _ o e=>Heap.get?_push_of_some _ e
 have fne3:∀b∈fp,b < s3.heap.objs.size:=fun b hb=>by rw[<-hs3];exact Nat.lt_of_lt_of_le (fne b hb) (by rw[Heap.size_push];exact Nat.le_succ _)
 refine wpAny_newFunctionEnv (fun y hy=>C.nocell y hy) (by intro y hy;simp at hy) (fun jT C_ C8=>?_) C.kind
 have hk:∀b o,s3.heap.get? b=some o->jT.get? b=some o:=fun b o e=>C8.extBut b o (Nat.ne_of_lt (Heap.lt_size e)) (Heap.get?_push_of_some _ e)
 refine Ba (D:=s2.heap.objs.size) hc C I3 f3 fne3 T (hg fp s3 _) (F4 fp s3 _) (he fp s3 _) C_ hk Lv W w0 turn fun H' s' c0 J' hq=>?_
 have B:=vK I3 f3 J';obtain⟨m',OX,_⟩:=J'.loc;refine⟨m',OX,fun h' sb=>⟨.ref s2.heap.objs.size,H',?_,rfl,hq⟩⟩
 have fC:=I3.wJ (H':=H') (b:=s3.heap.objs.size) (Nat.le_refl _) J'.free;exact B.turned (it:=s3.heap.objs.size) (t':=s'.toks) (fun b o hb e=>(sb.2 b hb).trans e) fC.1 fC.2.1 fC.2.2.2.1 fC.2.2.2.2.1 fC.2.2.2.2.2
theorem vv{i:Nat}{x:Str}{pos' qO:Pos}(hc:X.calm=true)(hN:X.N.Nodup)(hx:X.N[i]? =some x)(Md:X.env.scope.names.lookup x=some .local)(C:bO X scope own kp kn)(hi:PI X tg iter wi)
 (hg:∀fp s H,PG (bN X scope (own++kn) fp s H) tg g) (F4:∀fp s H,r_ (bN X scope (own++kn) fp s H) ifs tc)
 (he:∀fp s H,PE (bN X scope (own++kn) fp s H) elt te)
 (Br:swapsWith (.ListComp elt [⟨tg,iter,ifs,0⟩] scope pos) (some (.Name x pos')) qO.line X.env=pure true:=by rfl)
 (hs:∀x,foldedSetIterable iter X.env x=pure x:=by intro _;rfl) :
 PS X (.Assign [.Name x pos'] (.ListComp elt [⟨tg,iter,ifs,0⟩] scope pos) qO) (Fs (DF wi g tc te own kp) (wK i)):=by
 intro pins s σ H D I h;rw[exec_Assign_Name_used _ _ _ _ Br];refine wpAny_bind (wpAny_standAt (wpAny_bind ?_));show wpAny _ X.A (do let _ <-comprehension (.ListComp elt [⟨tg,iter,ifs,0⟩] scope pos) scope X.env _ (newList []) false (eval iter X.env) (some (assign (.Name x pos') X.env))) _ _ s
 refine wpAny_bind (wpAny_mono (wpAny_comprehension_free (use:=some (assign (.Name x pos') X.env)) (Q:=fun _ s'=>SP X pins D .next s') rfl hs (nT (qc C I)) C.kind C.nd
  (dR (hi pins s σ H _ I h) fun v s1 h1=>dR h1 fun RS s2 h2=>?_)) (fun _ s' hq=>wpAny_pure (wpAny_pure hq)) fun _ _ e=>e)
 obtain⟨it,fp,tn,J,H2,e,I2,T,Jy,f2,q⟩:=h2;subst e;refine wpAny_newObj_type ?_;have I3:Inv X pins σ (upd H2 s2.heap.objs.size (.lst [])) {s2 with heap:=s2.heap.push {cls:= .type "list",dict:=none,data:= .seq ([]:List Value).toArray}}:=I2.JH (its:=[]) (t':=s2.toks) .nil (Nat.zero_le _)
 obtain⟨W,w0,turn⟩:=q s2.heap.objs.size I2.fresh;have fne:∀b∈fp,b < s2.heap.objs.size:=fun b hb=>let⟨o,e,_⟩:=T.obj _ _ Jy b hb;Heap.lt_size e
 have f3:∀b∈fp,uR X pins (upd H2 s2.heap.objs.size (.lst [])) b:=fun b hb=>⟨by rw[br (Nat.ne_of_lt (fne b hb))];exact(f2 b hb).1,(f2 b hb).2⟩
 generalize hs3:({s2 with heap:=s2.heap.push {cls:= .type "list",dict:=none,data:= .seq ([]:List Value).toArray}}:Shared)=s3 at I3 ⊢
 have Lv:tn 0 s3.heap:=by rw[<-hs3];exact T.keep _ _ _ Jy fun b _ o e=>Heap.get?_push_of_some _ e
 have fne3:∀b∈fp,b < s3.heap.objs.size:=fun b hb=>by rw[<-hs3];exact Nat.lt_of_lt_of_le (fne b hb) (by rw[Heap.size_push];exact Nat.le_succ _)
 refine wpAny_newFunctionEnv (fun y hy=>C.nocell y hy) (by intro y hy;simp at hy) (fun jT C_ C8=>?_) C.kind
 have hk:∀b o,s3.heap.get? b=some o->jT.get? b=some o:=fun b o e=>C8.extBut b o (Nat.ne_of_lt (Heap.lt_size e)) (Heap.get?_push_of_some _ e)
 refine Ba (Q:=fun x H1=>wK i x σ H1 D.nx) (D:=s2.heap.objs.size) hc C I3 f3 fne3 T (hg fp s3 _) (F4 fp s3 _) (he fp s3 _) C_ hk Lv W w0 turn fun H' s' c0 J' hq=>?_
 have B:=vK I3 f3 J';obtain⟨m',OX,_⟩:=J'.loc;have fC:=I3.wJ (H':=H') (b:=s3.heap.objs.size) (Nat.le_refl _) J'.free;show wpAny _ X.A (assign (.Name x pos') X.env (.ref s2.heap.objs.size)) _ _ s';refine wpAny_assign_Name (yC B hN hx (.inl Md) (v:= .ref s2.heap.objs.size) rfl (fun s4 I4 ⟨a,sb,ha⟩=>?_) (.inr Md))
 have ha':s3.heap.objs.size≠a:=by
  rcases ha with rfl | z
  .exact fC.2.1
  .exact fun e=>fC.2.2.2.2.1 x a z e.symm
 refine⟨m',OX.sameBut sb ha',fun h' XO=>⟨_,H',?_,hq⟩⟩
 exact I4.turned (it:=s3.heap.objs.size) (t':=s4.toks) (fun b o hb e=>(XO.2 b hb).trans e) fC.1 fC.2.1 fC.2.2.2.1 fC.2.2.2.2.1 fC.2.2.2.2.2
end
end L2
end
section
namespace L2
open PySem PySem.Spec PyProof.Rows
inductive D where
 | cK | bl (b:Bool) | int (i:Int) | str (x:Str) | lst (ds:List D) | tup (ds:List D) | dct (ks:List Key) (ds:List D)
inductive R (α:Type) where
 | ok (a:α) | ex (c:Nat) | no
def R.bind{α β:Type}:R α->(α->R β)->R β
 | .ok a,f=>f a
 | .ex c,_=> .ex c
 | .no,_=> .no
theorem R.ak{α β:Type}{r:R α}{f:α->R β}{b:β}(h:r.bind f= .ok b):∃a,r= .ok a/\f a= .ok b:=by
 cases r with
 | ok a=>exact⟨a,rfl,h⟩
 | ex c=>cases h
 | no=>cases h
@[simp] theorem R.bj{α β:Type}(a:α)(f:α->R β):(R.ok a).bind f=f a:=rfl
def R.bX{α:Type}(c:Bool)(r:R α):R α:=if c then r else .no
theorem R.bp{α:Type}{c:Bool}{r:R α}{a:α}(h:R.bX c r= .ok a):c=true/\r= .ok a:=by
 cases c with
 | true=>exact⟨rfl,h⟩
 | false=>cases h
@[simp] theorem R.O5{α:Type}(r:R α):R.bX true r=r:=rfl
def wj(K:W.Frag)(B:List Addr)(H:Hp)(a:Addr)(xs:List V):Prop:=
 (a ∉ B/\Rd H a (.lst xs))\/∃(its:List Value) (n:Nat),K.lookup a=some {cls:= .type "list",data:= .seq its.toArray n}/\xs.length<=sizeLine/\Vals xs its
def yJ(K:W.Frag)(B:List Addr)(H:Hp)(a:Addr)(xs:List V):Prop:=
 (a ∉ B/\Rd H a (.tup xs))\/∃(o:Obj) (its:Array Value) (n:Nat),K.lookup a=some o/\o.cls= .type "tuple"/\o.data= .seq its n/\its.size<=sizeLine/\Vals xs its.toList
theorem wj.sq{K:W.Frag}{B:List Addr}{a:Addr}{xs:List V}(h:wj K B H a xs):pV K H a xs:=by
 rcases h with z | ⟨its,n,hk,hz,r⟩
 .exact .inl z.2
 .exact .inr ⟨_,its.toArray,n,hk,rfl,rfl,rfl,by rw[List.size_toArray,<-r.length];exact hz,by simpa using r⟩
theorem yJ.sq{K:W.Frag}{B:List Addr}{a:Addr}{xs:List V}(h:yJ K B H a xs):ud K H a xs:=h.elim (fun z=> .inl z.2) .inr
mutual
def Rep(K:W.Frag)(B:List Addr)(H:Hp):D->V->Prop
 | .cK,v=>v= .cK
 | .bl b,v=>v= .bl b
 | .int i,v=>v= .int i
 | .str x,v=>v= .str x
 | .lst ds,v=>∃a xs,v= .ref a/\wj K B H a xs/\aG K B H ds xs
 | .tup ds,v=>∃a xs,v= .ref a/\yJ K B H a xs/\aG K B H ds xs
 | .dct ks ds,v=>∃(a:Addr) (kvs:List (Key × V)),v= .ref a/\(a ∉ B/\H a=some (.dK kvs))/\kvs.map (·.1)=ks/\aG K B H ds (kvs.map (·.2))
def aG(K:W.Frag)(B:List Addr)(H:Hp):List D->List V->Prop
 | [],xs=>xs=[]
 | d ::ds,xs=>∃x r,xs=x ::r/\Rep K B H d x/\aG K B H ds r
end
def dA(B:List Addr)(H:Hp)(B':List Addr)(H':Hp):Prop:=∀b o,H b=some o->b ∉ B->H' b=some o/\b ∉ B'
theorem dA.rd{B B':List Addr}(p:dA B H B' H'){a:Addr}{u:HO}(h:Rd H a u)(n:a ∉ B):Rd H' a u/\a ∉ B':=by
 rcases h with e | ⟨o,e⟩
 .exact⟨.inl (p a _ e n).1,(p a _ e n).2⟩
 .exact⟨.inr ⟨o,(p a _ e n).1⟩,(p a _ e n).2⟩
theorem dA.trans{B B' QW:List Addr}(p:dA B H B' H')(q:dA B' H' QW n_):dA B H QW n_:=fun b o e n=>
 let⟨e1,n1⟩:=p b o e n;q b o e1 n1
theorem dA.same{B:List Addr}(s:bg H H'):dA B H B H':=fun b o e n=>⟨s b o e,n⟩
theorem dA.refl(B:List Addr)(H:Hp):dA B H B H:=dA.same (bg.refl H)
theorem wj.bu{K:W.Frag}{B B':List Addr}(p:dA B H B' H'){a:Addr}{xs:List V}(l:wj K B H a xs):wj K B' H' a xs:=
 l.elim (fun z=> .inl ⟨(p.rd z.2 z.1).2,(p.rd z.2 z.1).1⟩) .inr
mutual
theorem Rep.bu{K:W.Frag}{B B':List Addr}(p:dA B H B' H'):∀{d:D} {v:V},Rep K B H d v->Rep K B' H' d v
 | .cK,_,h=>h
 | .bl _,_,h=>h
 | .int _,_,h=>h
 | .str _,_,h=>h
 | .lst ds,v,h=>by
   unfold Rep at h ⊢;obtain⟨a,xs,e,l,r⟩:=h;exact⟨a,xs,e,l.bu p,aG.bu p r⟩
 | .tup ds,v,h=>by
   unfold Rep at h ⊢;obtain⟨a,xs,e,l,r⟩:=h;exact⟨a,xs,e,l.elim (fun z=> .inl ⟨(p.rd z.2 z.1).2,(p.rd z.2 z.1).1⟩) .inr,aG.bu p r⟩
 | .dct ks ds,v,h=>by
   unfold Rep at h ⊢;obtain⟨a,kvs,e,⟨n,l⟩,k,r⟩:=h;exact⟨a,kvs,e,⟨(p a _ l n).2,(p a _ l n).1⟩,k,aG.bu p r⟩
theorem aG.bu{K:W.Frag}{B B':List Addr}(p:dA B H B' H'):∀{ds:List D} {xs:List V},aG K B H ds xs->aG K B' H' ds xs
 | [],_,h=>h
 | d ::ds,xs,h=>by
   unfold aG at h ⊢;obtain⟨x,r,e,h1,h2⟩:=h;exact⟨x,r,e,Rep.bu p h1,aG.bu p h2⟩
end
theorem Rep.same{K:W.Frag}{B:List Addr}{d:D}{v:V}(h:Rep K B H d v)(s:bg H H'):Rep K B H' d v:=h.bu (dA.same s)
theorem aG.same{K:W.Frag}{B:List Addr}{d:List D}{v:List V}(h:aG K B H d v)(s:bg H H'):aG K B H' d v:=h.bu (dA.same s)
theorem aG.nil{K:W.Frag}{B:List Addr}:aG K B H [] []:=by unfold aG;rfl
theorem aG.cons{K:W.Frag}{B:List Addr}{d:D}{ds:List D}{x:V}{xs:List V}(h:Rep K B H d x)(t:aG K B H ds xs):aG K B H (d ::ds) (x ::xs):=by
 unfold aG;exact⟨x,xs,rfl,h,t⟩
theorem aG.cx{K:W.Frag}{B:List Addr}{d:D}{ds:List D}{xs:List V}(h:aG K B H (d ::ds) xs):∃x r,xs=x ::r/\Rep K B H d x/\aG K B H ds r:=by
 unfold aG at h;exact h
theorem aG.length{K:W.Frag}{B:List Addr}:∀{ds:List D} {xs:List V},aG K B H ds xs->ds.length=xs.length
 | [],_,h=>by unfold aG at h;rw [h];rfl
 | d ::ds,xs,h=>by
   obtain⟨x,r,rfl,_,h2⟩:=h.cx;simp [h2.length]
theorem aG.get{K:W.Frag}{B:List Addr}:∀{ds:List D} {xs:List V} {i:Nat} {d:D},aG K B H ds xs->ds[i]? =some d->∃x,xs[i]? =some x/\Rep K B H d x
 | [],_,_,_,_,e=>by simp at e
 | d ::ds,xs,0,d',h,e=>by
   obtain⟨x,r,rfl,h1,h2⟩:=h.cx;simp at e;subst e;exact⟨x,rfl,h1⟩
 | d ::ds,xs,i+1,d',h,e=>by
   obtain⟨x,r,rfl,h1,h2⟩:=h.cx;obtain⟨y,e1,e2⟩:=aG.get (i:=i) h2 (by simpa using e)
   exact⟨y,by simpa using e1,e2⟩
theorem aG.append{K:W.Frag}{B:List Addr}:∀{ds es:List D} {xs ys:List V},aG K B H ds xs->aG K B H es ys->aG K B H (ds++es) (xs++ys)
 | [],_,_,_,h,t=>by unfold aG at h;subst h;exact t
 | d ::ds,es,xs,ys,h,t=>by
   obtain⟨x,r,rfl,h1,h2⟩:=h.cx;exact aG.cons h1 (aG.append h2 t)
theorem aG.drop{K:W.Frag}{B:List Addr}:∀{ds:List D} {xs:List V} (n:Nat),aG K B H ds xs->aG K B H (ds.drop n) (xs.drop n)
 | _,_,0,h=>h
 | [],_,n+1,h=>by unfold aG at h;subst h;exact aG.nil
 | d ::ds,xs,n+1,h=>by
   obtain⟨x,r,rfl,h1,h2⟩:=h.cx;exact aG.drop n h2
theorem aG.take{K:W.Frag}{B:List Addr}:∀{ds:List D} {xs:List V} (n:Nat),aG K B H ds xs->aG K B H (ds.take n) (xs.take n)
 | _,_,0,h=>aG.nil
 | [],_,n+1,h=>by unfold aG at h;subst h;exact aG.nil
 | d ::ds,xs,n+1,h=>by
   obtain⟨x,r,rfl,h1,h2⟩:=h.cx;exact aG.cons h1 (aG.take n h2)
def D.atom:D->Bool
 | .cK=>true | .bl _=>true | .int _=>true | .str _=>true | _=>false
theorem Rep.atom{K:W.Frag}{B B':List Addr}{d:D}{v:V}(a:d.atom=true)(h:Rep K B H d v):Rep K B' H' d v:=by
 cases d <;> first | exact h | cases a
inductive Sl where
 | un | val (d:D) | bld (ds:List D)
abbrev aw:=List Sl
structure eP (K:W.Frag) (Z B:List Addr) (H:Hp) (σ:St) (δ:aw):Prop where
 len:δ.length=σ.length
 bs:∀a∈B,∃o,H a=some o
 zb:∀a∈Z,a∈B
 val:∀(i:Nat) (d:D),δ[i]? =some (.val d)->∃v,σ[i]? =some (some v)/\Rep K B H d v
 bld:∀(i:Nat) (ds:List D),δ[i]? =some (.bld ds)->∃a xs,σ[i]? =some (some (.ref a))/\a∈B/\a ∉ Z/\H a=some (.lst xs)/\aG K B H ds xs
 dis:∀(i j:Nat) (a:Addr) (ds es:List D),δ[i]? =some (.bld ds)->δ[j]? =some (.bld es)->σ[i]? =some (some (.ref a))->σ[j]? =some (some (.ref a))->i=j
theorem eP.same{K:W.Frag}{Z B:List Addr}{δ:aw}(E:eP K Z B H σ δ)(s:bg H H'):eP K Z B H' σ δ where
 len:=E.len
 bs:=fun a ha=>let⟨o,e⟩:=E.bs a ha;⟨o,s a o e⟩
 zb:=E.zb
 val:=fun i d e=>let⟨v,h1,h2⟩:=E.val i d e;⟨v,h1,h2.same s⟩
 bld:=fun i ds e=>let⟨a,xs,h1,h2,h3,h4,h5⟩:=E.bld i ds e;⟨a,xs,h1,h2,h3,s a _ h4,h5.same s⟩
 dis:=E.dis
def Qr(δ:aw):aw:=δ.map fun x=>match x with | .bld ds=> .val (.lst ds) | y=>y
theorem PE.imp{X:Cx}{t t':TE}(h:PE X e t)(w:∀σ H Q,t' σ H Q->t σ H Q):PE X e t':=fun pins s σ H Q I hq=>h pins s σ H Q I (w σ H Q hq)
theorem PT.imp{X:Cx}{t t':TT}(h:PT X e t)(w:∀σ H Q,t' σ H Q->t σ H Q):PT X e t':=fun pins s σ H Q I hq=>h pins s σ H Q I (w σ H Q hq)
theorem PA.imp{X:Cx}{t t':TA}(h:PA X e t)(w:∀σ H Q,t' σ H Q->t σ H Q):PA X e t':=fun pos pins s σ H Q I hq=>h pos pins s σ H Q I (w σ H Q hq)
theorem PS.imp{X:Cx}{t t':TS}(h:PS X e t)(w:∀D σ H,t' D σ H->t D σ H):PS X e t':=fun pins s σ H D I hq=>h pins s σ H D I (w D σ H hq)
theorem y7.imp{X:Cx}{t t':TS}(h:y7 X e t)(w:∀D σ H,t' D σ H->t D σ H):y7 X e t':=fun pins s σ H D I hq=>h pins s σ H D I (w D σ H hq)
theorem PG.imp{X:Cx}{t t':TG}(h:PG X e t)(w:∀v σ H Q,t' v σ H Q->t v σ H Q):PG X e t':=fun pins s σ H v u Q I r hq=>h pins s σ H v u Q I r (w v σ H Q hq)
theorem PI.imp{X:Cx}{t t':TI}(h:PI X tg e t)(w:∀σ H Q,t' σ H Q->t σ H Q):PI X tg e t':=fun pins s σ H Q I hq=>h pins s σ H Q I (w σ H Q hq)
abbrev FD:=aw->R D
def tD(K:W.Frag)(f:FD):TE:=fun σ H Q=>∃Z B δ d,eP K Z B H σ δ/\f δ= .ok d/\∀v H',bg H H'->Rep K B H' d v->Q v H'
def tN(K:W.Frag)(f:aw->R (List D)):TE:=fun σ H Q=>∃Z B δ ds,eP K Z B H σ δ/\f δ= .ok ds/\∀a xs H',bg H H'->H a=none->H' a=some (.lst xs)->aG K (a ::B) H' ds xs->Q (.ref a) H'
def NF(K:W.Frag)(f:aw->R Bool):TT:=fun σ H Q=>∃Z B δ b,eP K Z B H σ δ/\f δ= .ok b/\∀H',bg H H'->Q b H'
def UT(K:W.Frag)(f:aw->R (List D)):TA:=fun σ H Q=>∃Z B δ ds,eP K Z B H σ δ/\f δ= .ok ds/\∀vs H',bg H H'->aG K B H' ds vs->Q vs H'
abbrev PD(X:Cx)(e:Expr)(f:FD):Prop:=PE X e (tD X.K f)
abbrev PN(X:Cx)(e:Expr)(f:aw->R (List D)):Prop:=PE X e (tN X.K f)
abbrev PB(X:Cx)(e:Expr)(f:aw->R Bool):Prop:=PT X e (NF X.K f)
abbrev Js(X:Cx)(es:List Expr)(f:aw->R (List D)):Prop:=PA X es (UT X.K f)
section
variable {X:Cx}
def eNew(f:aw->R (List D)):FD:=fun δ=>(f δ).bind fun ds=> .ok (.lst ds)
theorem Oe{f:aw->R (List D)}(h:PN X e f):PD X e (eNew f):=h.imp fun σ H Q ⟨Z,B,δ,d,E,hf,q⟩=>by
 obtain⟨ds,h1,h2⟩:=R.ak hf;cases h2;refine⟨Z,B,δ,ds,E,h1,fun a xs H' s n e r=>q _ H' s ?_⟩
 unfold Rep;refine⟨a,xs,rfl, .inl ⟨fun ha=>?_, .inl e⟩,r.bu fun b o e nb=>⟨e,fun hb=>nb (List.mem_cons_of_mem _ hb)⟩⟩
 obtain⟨o,ho⟩:=E.bs a ha;rw[n] at ho;cases ho
theorem rh{B:List Addr}{H:Hp}{p:Addr}{o:HO}(h:H p=none):dA B H (p ::B) (upd H p o):=fun b u e nb=>
 ⟨by rw[br (cz e h)];exact e,fun hb=>by
   rcases List.mem_cons.mp hb with z | z
   .exact cz e h z
   .exact nb z⟩
def Vh(f:FD):FD:=fun δ=>(f (Qr δ)).bind fun d=>R.bX d.atom (.ok d)
def Vq(f:aw->R Bool):aw->R Bool:=fun δ=>f (Qr δ)
def ab(i:Nat):FD:=fun δ=>match δ[i]? with | some (.val d)=> .ok d | _=> .no
def eC(d:D):FD:=fun _=> .ok d
theorem Oz(i:Nat){x:Str}{pos:Pos}(hN:X.N[i]? =some x:=by rfl)(hv:Hz X.env.scope x:=by first | exact Or.inl rfl | exact Or.inr (Or.inl rfl) | exact Or.inr (Or.inr rfl))(hd:(x==("__debug__":Str))=false:=by decide)
 (tI:(x==("__classdict__":Str))=false:=by decide):PD X (.Name x pos) (ab i):=(sU hN hv hd tI).imp fun σ H Q ⟨Z,B,δ,d,E,hf,q⟩=>by
 unfold ab at hf;split at hf
 .rename_i d' e;cases hf;obtain⟨v,h1,h2⟩:=E.val i d e;exact⟨v,h1,q v H (bg.refl H) h2⟩
 .cases hf
theorem qV{v:V}{d:D}(h:PE X e (tC v))(r:∀B H,Rep X.K B H d v):PD X e (eC d):=h.imp fun σ H Q ⟨Z,B,δ,d',E,hf,q⟩=>by
 cases hf;exact q v H (bg.refl H) (r B H)
theorem MY{i j pos}:PD X (.Constant (.int i) j pos) (eC (.int i)):=qV vF fun _ _=>by unfold Rep;rfl
theorem QM{b j pos}:PD X (.Constant (.bool b) j pos) (eC (.bl b)):=qV P6 fun _ _=>by unfold Rep;rfl
theorem MR{j pos}:PD X (.Constant .none j pos) (eC .cK):=qV Oi fun _ _=>by unfold Rep;rfl
theorem MF{x j pos}:PD X (.Constant (.str x) j pos) (eC (.str x)):=qV wb fun _ _=>by unfold Rep;rfl
def Glob(K:W.Frag)(mg:Str->Option Value)(x:Str)(d:D):Prop:=∃(u:Value) (v:V),mg x=some u/\RelV v u/\∀B H,Rep K B H d v
def bb:aw->R (List D):=fun _=> .ok []
def az(f:FD)(g:aw->R (List D)):aw->R (List D):=fun δ=>(f δ).bind fun d=>(g δ).bind fun ds=> .ok (d ::ds)
theorem JI:Js X [] bb:=gI.imp fun σ H Q ⟨Z,B,δ,d,E,hf,q⟩=>by
 cases hf;exact q [] H (bg.refl H) aG.nil
theorem Hl{g:aw->R (List D)}(h:PD X e f)(t:Js X es g)(hs:starEach (e ::es) X.env=(false,eval e X.env) ::starEach es X.env:=by rfl):Js X (e ::es) (az f g):=
 (dF h t hs).imp fun σ H Q ⟨Z,B,δ,d,E,hf,q⟩=>by
   obtain⟨d1,h1,h2⟩:=R.ak hf;obtain⟨ds,h3,h4⟩:=R.ak h2;cases h4;exact⟨Z,B,δ,d1,E,h1,fun v H1 s1 r1=>⟨Z,B,δ,ds,E.same s1,h3,fun vs H2 s2 r2=>q _ H2 (s1.trans s2) (aG.cons (r1.same s2) r2)⟩⟩
def il(g:aw->R (List D)):FD:=fun δ=>(g δ).bind fun ds=>R.bX (decide (ds.length<=sizeLine)) (.ok (.tup ds))
def eB(g:aw->R (List D)):aw->R (List D):=fun δ=>(g δ).bind fun ds=>R.bX (decide (ds.length<=sizeLine)) (.ok ds)
theorem aP{H:Hp}{p:Addr}{o:HO}(h:H p=none):bg H (upd H p o):=fun b u e=>by rw[br (cz e h)];exact e
theorem Nq{g:aw->R (List D)}{x1 pos}(h:Js X es g):PD X (.Tuple es x1 pos) (il g):=(Hk h).imp fun σ H Q ⟨Z,B,δ,d,E,hf,q⟩=>by
 obtain⟨ds,h1,h2⟩:=R.ak hf;obtain⟨hl,h3⟩:=R.bp h2;cases h3;refine⟨Z,B,δ,ds,E,h1,fun vs H1 s1 r1=>⟨by rw[<-r1.length];exact of_decide_eq_true hl,fun p hp=>q _ _ (s1.trans (aP hp)) ?_⟩⟩
 unfold Rep;refine⟨p,vs,rfl, .inl ⟨fun ha=>?_, .inl aV⟩,r1.same (aP hp)⟩
 obtain⟨o,ho⟩:=(E.same s1).bs p ha;rw[hp] at ho;cases ho
theorem Ow{g:aw->R (List D)}{pos}(h:Js X es g):PN X (.List es pos) (eB g):=(IE h).imp fun σ H Q ⟨Z,B,δ,d,E,hf,q⟩=>by
 obtain⟨ds,h1,h2⟩:=R.ak hf;obtain⟨hl,h3⟩:=R.bp h2;cases h3;exact⟨Z,B,δ,_,E,h1,fun vs H1 s1 r1=>⟨by rw[<-r1.length];exact of_decide_eq_true hl,fun p hp=>q p vs _ (s1.trans (aP hp)) (s1.free hp) aV (r1.bu (rh hp))⟩⟩
def lG(X:Cx)(f:Value->Value->Sem Value)(g:D->D->R D):Prop:=
 ∀(pins:List (Addr × Obj)) (s:Shared) (σ:St) (H:Hp) (B:List Addr) (da db d:D) (x y:V) (v u:Value),Inv X pins σ H s->(∀a∈B,∃o,H a=some o)->RelV x v->RelV y u->Rep X.K B H da x->Rep X.K B H db y->g da db= .ok d->
  wpAny (model X.prog X.w) X.A (f v u) (EP X pins σ fun z H'=>bg H H'/\Rep X.K B H' d z) X.xe s
def e2(g:D->D->R D)(fa fb:FD):FD:=fun δ=>(fa δ).bind fun a=>(fb δ).bind fun b=>g a b
theorem lG.r{f:Value->Value->Sem Value}{g:D->D->R D}(h:lG X f g):nk X f (fun x y H Q=>∃B da db d,(∀a∈B,∃o,H a=some o)/\Rep X.K B H da x/\Rep X.K B H db y/\g da db= .ok d/\∀z H',bg H H'->Rep X.K B H' d z->Q z H'):=by
 intro pins s σ H x y v u Q I rx ry ⟨B,da,db,d,hb,ha,zL,hg,q⟩;exact dR (h pins s σ H B da db d x y v u I hb rx ry ha zL hg) fun z s' ⟨zv,H',I',r',s1,r1⟩=>⟨zv,H',I',r',q zv H' s1 r1⟩
theorem Nh{K:W.Frag}{g:D->D->R D}{Q:VK}(h:tD K (e2 g fa fb) σ H Q) :
 O3 (fun x y H Q=>∃B da db d,(∀a∈B,∃o,H a=some o)/\Rep K B H da x/\Rep K B H db y/\g da db= .ok d/\∀z H',bg H H'->Rep K B H' d z->Q z H') (tD K fa) (tD K fb) σ H Q:=by
 obtain⟨Z,B,δ,d,E,hf,q⟩:=h;obtain⟨d1,h1,h2⟩:=R.ak hf;obtain⟨d2,h3,h4⟩:=R.ak h2;exact⟨Z,B,δ,d1,E,h1,fun v1 H1 s1 r1=>⟨Z,B,δ,d2,E.same s1,h3,fun v2 H2 s2 r2=>⟨B,d1,d2,d,(E.same (s1.trans s2)).bs,r1.same s2,r2,h4,fun z H' s3 r3=>q z H' (s1.trans (s2.trans s3)) r3⟩⟩⟩
theorem Pq{op:Operator}{g:D->D->R D}(ho:lG X (binaryOp op) g)(ha:PD X a fa)(hb:PD X b fb):PD X (.BinOp a op b pos) (e2 g fa fb):=
 (Dh ho.r ha hb).imp fun σ H Q h=>Nh h
theorem NV{op:CmpOp}{g:D->D->R D}(ho:lG X (compareOp op) g)(ha:PD X a fa)(hb:PD X b fb)(hm:behindInMarks op b=false):PD X (.Compare a [op] [b] pos) (e2 g fa fb):=
 (DT ho.r ha hb hm).imp fun σ H Q h=>Nh h
def b2(g:D->D->R D)(fa fb:FD):aw->R Bool:=fun δ=>(e2 g fa fb δ).bind fun d=>match d with | .bl b=> .ok b | _=> .no
theorem M6{op:CmpOp}{g:D->D->R D}(ho:lG X (compareOp op) g)(ha:PD X a fa)(hb:PD X b fb)(hm:behindInMarks op b=false):PB X (.Compare a [op] [b] pos) (b2 g fa fb):=
 (DL ho.r ha hb hm).imp fun σ H Q ⟨Z,B,δ,b,E,hf,q⟩=>by
   obtain⟨d,h1,h2⟩:=R.ak hf;cases d with
   | bl k=>
     cases h2;exact Nh (g:=g) (Q:=fun x H'=>∃k,x= .bl k/\Q k H') ⟨Z,B,δ, .bl b,E,h1,fun v H' s r=>⟨b,by unfold Rep at r;exact r,q H' s⟩⟩
   | _=>cases h2
def Si(g g':D->D->R D)(fa fb fc:FD):FD:=fun δ=>(fa δ).bind fun a=>(fb δ).bind fun b=>(g a b).bind fun r=>match r with
 | .bl true=>(fc δ).bind fun c=>g' b c
 | .bl false=> .ok (.bl false)
 | _=> .no
def Ld:D->R Bool
 | .cK=> .ok false
 | .bl b=> .ok b
 | .int i=> .ok (i !=0)
 | .str x=>R.bX (decide (x.length<=sizeLine)) (.ok ((x.length:Int) !=0))
 | .lst ds=> .ok (!ds.isEmpty)
 | .tup ds=> .ok (!ds.isEmpty)
 | .dct _ _=> .no
def rF(f:FD):aw->R Bool:=fun δ=>(f δ).bind Ld
theorem aG.isEmpty{K:W.Frag}{B:List Addr}{ds:List D}{xs:List V}(h:aG K B H ds xs):ds.isEmpty=xs.isEmpty:=by
 have:=h.length;cases ds <;> cases xs <;> simp_all
theorem IV{K:W.Frag}{B:List Addr}{d:D}{v:V}{b:Bool}(r:Rep K B H d v)(h:Ld d= .ok b):Ku K v H b:=by
 cases d with
 | cK=>unfold Rep at r;subst r;cases h;exact rfl
 | bl k=>unfold Rep at r;subst r;cases h;exact rfl
 | int i=>unfold Rep at r;subst r;cases h;exact rfl
 | str x=>unfold Rep at r;subst r;obtain⟨h1,h2⟩:=R.bp h;cases h2;exact⟨of_decide_eq_true h1,rfl⟩
 | lst ds=>unfold Rep at r;obtain⟨a,xs,rfl,l,r⟩:=r;cases h;exact .inl ⟨xs,l.sq,by rw[r.isEmpty]⟩
 | tup ds=>unfold Rep at r;obtain⟨a,xs,rfl,l,r⟩:=r;cases h;exact .inr (.inl ⟨xs,l.sq,by rw[r.isEmpty]⟩)
 | dct _ _=>cases h
theorem NK{a:Expr}(ha:PD X a f)(he:∀whole,isTrue a X.env whole=(do let v <-whole;standAt a.pos;holding [v] (truthy v)):=by intro _;rfl):PB X a (rF f):=
 (Bl ha he).imp fun σ H Q ⟨Z,B,δ,b,E,hf,q⟩=>by
   obtain⟨d,h1,h2⟩:=R.ak hf;exact⟨Z,B,δ,d,E,h1,fun v H' s r=>⟨b,IV r h2,q H' s⟩⟩
def Wj(f g:aw->R Bool):aw->R Bool:=fun δ=>(f δ).bind fun b=>if b then g δ else .ok false
def O8(f g:aw->R Bool):aw->R Bool:=fun δ=>(f δ).bind fun b=>if b then .ok true else g δ
def xw(f:aw->R Bool):aw->R Bool:=fun δ=>(f δ).bind fun b=> .ok (!b)
def Nv(X:Cx)(e:Expr)(f:aw->R Bool):Prop:=PW X e (NF X.K f)
theorem Nv.pb{f:aw->R Bool}(h:Nv X e f):PB X e f:=PW.pt h
theorem Kc{f:aw->R Bool}(h:PB X a f):Nv X (.BoolOp .Or [a] pos) f:=Ni h
theorem N0{rest:List Expr}{f g:aw->R Bool}(ha:PB X a f)(hb:Nv X (.BoolOp .Or (b ::rest) pos) g):Nv X (.BoolOp .Or (a ::b ::rest) pos) (O8 f g):=by
 intro wh pins s σ H Q I ⟨Z,B,δ,k,E,hf,q⟩;refine Qh ha hb wh pins s σ H Q I ?_;obtain⟨c,h1,h2⟩:=R.ak hf;refine⟨Z,B,δ,c,E,h1,fun H1 s1=>?_⟩
 cases c with
 | true=>rw [if_pos rfl] at h2 ⊢;cases h2;exact q H1 s1
 | false=>rw [if_neg (by decide)] at h2 ⊢;exact⟨Z,B,δ,k,E.same s1,h2,fun H' s2=>q H' (s1.trans s2)⟩
theorem Om{f:aw->R Bool}(ha:PB X a f):PB X (.UnaryOp .Not a pos) (xw f):=(IW ha).imp fun σ H Q ⟨Z,B,δ,k,E,hf,q⟩=>by
 obtain⟨c,h1,h2⟩:=R.ak hf;cases h2;exact⟨Z,B,δ,c,E,h1,fun H1 s1=>q H1 s1⟩
def Se(f:FD):aw->R Bool:=fun δ=>(f δ).bind fun d=>match d with | .bl b=> .ok b | _=> .no
def Wn(f g:FD):FD:=fun δ=>(Se f δ).bind fun b=>if b then g δ else .ok (.bl false)
def Yy(f g:FD):FD:=fun δ=>(Se f δ).bind fun b=>if b then .ok (.bl true) else g δ
def VS(f:FD):FD:=fun δ=>(Se f δ).bind fun b=> .ok (.bl (!b))
def MZ(c:aw->R Bool)(f g:FD):FD:=fun δ=>(c δ).bind fun b=>if b then f δ else g δ
theorem Qx{fc:aw->R Bool}(hc:PB X c fc)(ha:PD X a f)(hb:PD X b g):PD X (.IfExp c a b pos) (MZ fc f g):=(IF hc ha hb).imp fun σ H Q ⟨Z,B,δ,k,E,hf,q⟩=>by
 obtain⟨c,h1,h2⟩:=R.ak hf;refine⟨Z,B,δ,c,E,h1,fun H1 s1=>?_⟩
 cases c with
 | true=>rw [if_pos rfl] at h2 ⊢;exact⟨Z,B,δ,k,E.same s1,h2,fun v H' s2 r2=>q v H' (s1.trans s2) r2⟩
 | false=>rw [if_neg (by decide)] at h2 ⊢;exact⟨Z,B,δ,k,E.same s1,h2,fun v H' s2 r2=>q v H' (s1.trans s2) r2⟩
def gm(X:Cx)(f:Value)(g:List D->R D):Prop:=
 ∀(pins:List (Addr × Obj)) (s:Shared) (σ:St) (H:Hp) (B:List Addr) (ds:List D) (d:D) (xs:List V) (us:List Value),Inv X pins σ H s->(∀a∈B,∃o,H a=some o)->Vals xs us->aG X.K B H ds xs->g ds= .ok d->
  wpAny (model X.prog X.w) X.A (call f us) (EP X pins σ fun z H'=>bg H H'/\Rep X.K B H' d z) X.xe s
def bw(g:List D->R D)(fs:aw->R (List D)):FD:=fun δ=>(fs δ).bind g
theorem gm.r{f:Value}{g:List D->R D}(h:gm X f g):p9 X f (fun xs H Q=>∃B ds d,(∀a∈B,∃o,H a=some o)/\aG X.K B H ds xs/\g ds= .ok d/\∀z H',bg H H'->Rep X.K B H' d z->Q z H'):=by
 intro pins s σ H xs us Q I rx ⟨B,ds,d,hb,hr,hg,q⟩;exact dR (h pins s σ H B ds d xs us I hb rx hr hg) fun z s' ⟨zv,H',I',r',s1,r1⟩=>⟨zv,H',I',r',q zv H' s1 r1⟩
theorem DK{K:W.Frag}{g:List D->R D}{fs:aw->R (List D)}{Q:VK}(h:tD K (bw g fs) σ H Q) :
 UT K fs σ H fun vs H1=>∃B ds d,(∀a∈B,∃o,H1 a=some o)/\aG K B H1 ds vs/\g ds= .ok d/\∀z H',bg H1 H'->Rep K B H' d z->Q z H':=by
 obtain⟨Z,B,δ,d,E,hf,q⟩:=h;obtain⟨ds,h1,h2⟩:=R.ak hf;exact⟨Z,B,δ,ds,E,h1,fun vs H1 s1 r1=>⟨B,ds,d,(E.same s1).bs,r1,h2,fun z H' s2 r2=>q z H' (s1.trans s2) r2⟩⟩
theorem Hb{g:List D->R D}{x:Str}{id:String}{p pos:Pos}{e:Expr}{es:List Expr}{fs:aw->R (List D)}(hc:gm X (.builtin id) g)(hg:Gl X x)(hm:X.mg x=none)(hv:bootBuiltins x=some (.builtin id))(ha:Js X (e ::es) fs)(hn:x≠"__name__":=by decide)(qP:(x==("__debug__":Str))=false:=by decide)
 (he:starEach (e ::es) X.env=(false,eval e X.env) ::starEach es X.env:=by rfl) (lT:(backTo pos (starEach es X.env)).any (·.1)=false:=by rfl):PD X (.Call (.Name x p) (e ::es) [] pos) (bw g fs):=
 (rO hc.r hg hm hv ha hn qP he lT).imp fun σ H Q h=>DK h
theorem E5{g:List D->R D}{x:Str}{T:String}{p pos:Pos}{e:Expr}{es:List Expr}{fs:aw->R (List D)}(hc:gm X (.type T) g)(hg:Gl X x)(hm:X.mg x=none)(hv:bootBuiltins x=some (.type T))(ha:Js X (e ::es) fs)(hn:x≠"__name__":=by decide)(qP:(x==("__debug__":Str))=false:=by decide)
 (he:starEach (e ::es) X.env=(false,eval e X.env) ::starEach es X.env:=by rfl) (lT:(backTo pos (starEach es X.env)).any (·.1)=false:=by rfl):PD X (.Call (.Name x p) (e ::es) [] pos) (bw g fs):=
 (sQ hc.r hg hm hv ha hn qP he lT).imp fun σ H Q h=>DK h
def Ih(K:W.Frag)(n:Nat)(g:List D->R D):Sp:=fun vs H Q _=>vs.length=n/\∃B ds d,(∀a∈B,∃o,H a=some o)/\aG K B H ds vs/\g ds= .ok d/\∀z H',bg H H'->Rep K B H' d z->Q z H'
theorem J4{g:List D->R D}{k n:Nat}{f:Addr}{fd:FuncData}{ps:List Str}{x:Str}{p pos:Pos}{e:Expr}{es:List Expr}{fs:aw->R (List D)}
 (F:jI X.prog X.w X.K X.mg X.base xn k f fd ps (Ih X.K n g)) (hr:eX k X.A) (hg:Gl X x) (hm:X.mg x=some (.ref f)) (hk:PySem.W.keepIn X.K (.ref f)=true) (hb:Binds X.K fd ps []) (ha:Js X (e ::es) fs)
 (hn:∀δ ds,fs δ= .ok ds->ds.length=n) (qP:(x==("__debug__":Str))=false:=by decide) (he:starEach (e ::es) X.env=(false,eval e X.env) ::starEach es X.env:=by rfl) (lT:(backTo pos (starEach es X.env)).any (·.1)=false:=by rfl) :
 PD X (.Call (.Name x p) (e ::es) [] pos) (bw g fs):=
 (zk F hr hg hm hk hb .nil A4 ha qP he lT).imp fun σ H Q ⟨Z,B,δ,d,E,hf,q⟩=>by
   obtain⟨ds,h1,h2⟩:=R.ak hf;refine⟨Z,B,δ,ds,E,h1,fun vs H1 s1 r1=>?_⟩
   show Ih X.K n g (vs++[]) H1 Q E0;rw[List.append_nil];exact⟨by rw[<-r1.length];exact hn δ ds h1,B,ds,d,(E.same s1).bs,r1,h2,fun z H' s2 r2=>q z H' (s1.trans s2) r2⟩
end
end L2
end
section
namespace L2
open PySem PySem.Spec PyProof.Rows
inductive Out where
 | nx (δ:aw) | rt (d:D)
abbrev FS:=aw->R Out
structure Ev (Z B:List Addr) (H:Hp) (B':List Addr) (H':Hp):Prop where
 bu:dA B H B' H'
 zs:∀b o,H b=some o->b∈Z->H' b=some o/\b∈B'
theorem Ev.refl(Z B:List Addr)(H:Hp)(zb:∀a∈Z,a∈B):Ev Z B H B H:=⟨dA.refl B H,fun b o e z=>⟨e,zb b z⟩⟩
theorem Ev.trans{Z B B' QW:List Addr}(a:Ev Z B H B' H')(b:Ev Z B' H' QW n_):Ev Z B H QW n_:=
 ⟨a.bu.trans b.bu,fun c o e z=>let⟨e1,_⟩:=a.zs c o e z;b.zs c o e1 z⟩
theorem Ev.same{Z B:List Addr}(zb:∀a∈Z,a∈B)(s:bg H H'):Ev Z B H B H':=⟨dA.same s,fun b o e z=>⟨s b o e,zb b z⟩⟩
def DW(K:W.Frag)(Z B:List Addr)(H:Hp)(D:Ends):Out->Prop
 | .nx eg=>∀c0 B' H',Ev Z B H B' H'->eP K Z B' H' c0 eg->D.nx c0 H'
 | .rt d=>∀v B' H',Ev Z B H B' H'->(∀a∈Z,a∈B')->Rep K B' H' d v->D.rt v H'
theorem DW.ev{K:W.Frag}{Z B B1:List Addr}{D:Ends}{o:Out}(q:DW K Z B H D o)(ev:Ev Z B H B1 H1):DW K Z B1 H1 D o:=by
 cases o with
 | nx eg=>exact fun c0 B' H' FV E'=>q c0 B' H' (ev.trans FV) E'
 | rt d=>exact fun v B' H' FV z r=>q v B' H' (ev.trans FV) z r
def sD(K:W.Frag)(F:FS):TS:=fun D σ H=>∃Z B δ o,eP K Z B H σ δ/\F δ= .ok o/\DW K Z B H D o
abbrev GV(X:Cx)(st:Stmt)(F:FS):Prop:=PS X st (sD X.K F)
abbrev uN(X:Cx)(st:List Stmt)(F:FS):Prop:=y7 X st (sD X.K F)
section
variable {X:Cx}
def zp:FS:=fun δ=> .ok (.nx δ)
def iV(F G:FS):FS:=fun δ=>(F δ).bind fun o=>match o with | .nx eg=>G eg | .rt d=> .ok (.rt d)
theorem J_:uN X [] zp:=zh.imp fun D σ H ⟨Z,B,δ,o,E,hf,q⟩=>by
 cases hf;exact q σ B H (Ev.refl Z B H E.zb) E
theorem Oj{K:W.Frag}{F G:FS}{D:Ends}(h:sD K (iV F G) D σ H):P_ (sD K F) (sD K G) D σ H:=by
 obtain⟨Z,B,δ,o,E,hf,q⟩:=h;obtain⟨o1,h1,h2⟩:=R.ak hf;refine⟨Z,B,δ,o1,E,h1,?_⟩;cases o1 with
 | nx δ1=>
   intro Jw B1 H1 ev E1;refine⟨Z,B1,δ1,o,E1,h2,?_⟩;cases o with
   | nx du=>exact fun c0 B' H' FV E'=>q c0 B' H' (ev.trans FV) E'
   | rt d=>exact fun v B' H' FV z r=>q v B' H' (ev.trans FV) z r
 | rt d=>
   cases h2;exact q
theorem Hx{st:Stmt}{rest:List Stmt}{F G:FS}(h1:GV X st F)(h2:uN X rest G):uN X (st ::rest) (iV F G):=(vG h1 h2).imp fun D σ H h=>Oj h
theorem JF{st:Stmt}{F:FS}(h1:GV X st F):uN X [st] F:=yX h1
theorem eP.set{K:W.Frag}{Z B:List Addr}{σ:St}{δ:aw}(E:eP K Z B H σ δ){i:Nat}{d:D}{v:V}(hi:i < σ.length)(r:Rep K B H d v):eP K Z B H (σ.set i (some v)) (δ.set i (.val d)) where
 len:=by rw[List.length_set,List.length_set];exact E.len
 bs:=E.bs
 zb:=E.zb
 val:=fun j d' e=>by
  by_cases h:i=j
  .subst h;rw[List.getElem?_set_self (by rw[E.len];exact hi)] at e
   cases e;exact⟨v,List.getElem?_set_self hi,r⟩
  .rw [List.getElem?_set_ne h] at e ⊢;exact E.val j d' e
 bld:=fun j ds e=>by
  by_cases h:i=j
  .subst h;rw[List.getElem?_set_self (by rw[E.len];exact hi)] at e
   cases e
  .rw [List.getElem?_set_ne h] at e ⊢;exact E.bld j ds e
 dis:=fun j k a ds es e1 e2 e3 e4=>by
  by_cases h:i=j
  .subst h;rw[List.getElem?_set_self (by rw[E.len];exact hi)] at e1
   cases e1
  .by_cases h':i=k
   .subst h';rw[List.getElem?_set_self (by rw[E.len];exact hi)] at e2
    cases e2
   .rw [List.getElem?_set_ne h] at e1 e3;rw[List.getElem?_set_ne h'] at e2 e4;exact E.dis j k a ds es e1 e2 e3 e4
theorem eP.setB{K:W.Frag}{Z B:List Addr}{H:Hp}{σ:St}{δ:aw}(E:eP K Z B H σ δ){i:Nat}{ds:List D}{a:Addr}{xs:List V}(hi:i < σ.length)(hB:a∈B)(hZ:a ∉ Z)(hH:H a=some (.lst xs))(r:aG K B H ds xs)
 (new:∀j es,j≠i->δ[j]? =some (.bld es)->σ[j]?≠some (some (.ref a))):eP K Z B H (σ.set i (some (.ref a))) (δ.set i (.bld ds)) where
 len:=by rw[List.length_set,List.length_set];exact E.len
 bs:=E.bs
 zb:=E.zb
 val:=fun j d' e=>by
  by_cases h:i=j
  .subst h;rw[List.getElem?_set_self (by rw[E.len];exact hi)] at e
   cases e
  .rw [List.getElem?_set_ne h] at e ⊢;exact E.val j d' e
 bld:=fun j es e=>by
  by_cases h:i=j
  .subst h;rw[List.getElem?_set_self (by rw[E.len];exact hi)] at e
   cases e;exact⟨a,xs,List.getElem?_set_self hi,hB,hZ,hH,r⟩
  .rw [List.getElem?_set_ne h] at e ⊢;exact E.bld j es e
 dis:=fun j k b Rj Rh e1 e2 e3 e4=>by
  by_cases h:i=j
  .subst h;by_cases h':i=k
   .exact h'
   .rw [List.getElem?_set_self hi] at e3;cases e3;rw[List.getElem?_set_ne h'] at e2 e4;exact absurd e4 (new k Rh (Ne.symm h') e2)
  .by_cases h':i=k
   .subst h';rw[List.getElem?_set_self hi] at e4;cases e4;rw[List.getElem?_set_ne h] at e1 e3;exact absurd e3 (new j Rj (Ne.symm h) e1)
   .rw [List.getElem?_set_ne h] at e1 e3;rw[List.getElem?_set_ne h'] at e2 e4;exact E.dis j k b Rj Rh e1 e2 e3 e4
def rp(i:Nat)(f:FD):FS:=fun δ=>(f δ).bind fun d=>R.bX (decide (i < δ.length)) (.ok (.nx (δ.set i (.val d))))
theorem Og{K:W.Frag}{i:Nat}{D:Ends}(h:sD K (rp i f) D σ H):Fs (tD K f) (wK i) D σ H:=by
 obtain⟨Z,B,δ,o,E,hf,q⟩:=h;obtain⟨d,h1,h2⟩:=R.ak hf;obtain⟨hi,h3⟩:=R.bp h2;cases h3;refine⟨Z,B,δ,d,E,h1,fun v H1 s1 r1=>?_⟩
 exact q _ B H1 (Ev.same E.zb s1) ((E.same s1).set (by rw[<-E.len];exact of_decide_eq_true hi) r1)
theorem Kp{i:Nat}{pos pos':Pos}(hN:X.N.Nodup)(hi:X.N[i]? =some x)(hx:Loc X.env.scope x)(he:PD X e f)(hs:swapsWith e (some (.Name x pos')) pos.line X.env=pure false:=by rfl)(hf:X.fn x=true\/X.env.scope.names.lookup x=some .local:=by first | exact .inl rfl | exact .inr rfl | assumption) :
 GV X (.Assign [.Name x pos'] e pos) (rp i f):=(B9 hN hi hx he hs hf).imp fun D σ H h=>Og h
def B8(i:Nat)(f:aw->R (List D)):FS:=fun δ=>(f δ).bind fun ds=>R.bX (decide (i < δ.length)) (.ok (.nx (δ.set i (.bld ds))))
theorem OD{K:W.Frag}{i:Nat}{f:aw->R (List D)}{D:Ends}(h:sD K (B8 i f) D σ H):Fs (tN K f) (wK i) D σ H:=by
 obtain⟨Z,B,δ,o,E,hf,q⟩:=h;obtain⟨ds,h1,h2⟩:=R.ak hf;obtain⟨hi,h3⟩:=R.bp h2;cases h3;refine⟨Z,B,δ,ds,E,h1,fun a xs H1 s1 n e r=>?_⟩
 have E1:=E.same s1;have aB:a ∉ B:=fun ha=>by obtain⟨o,ho⟩:=E.bs a ha;rw [n] at ho;cases ho
 have nZ:a ∉ Z:=fun ha=>aB (E.zb a ha)
 have p0:dA B H (a ::B) H1:=fun b o e' nb=>⟨s1 b o e',fun hb=>by
  rcases List.mem_cons.mp hb with z | z
  .subst z;rw [n] at e';cases e'
  .exact nb z⟩
 have E2:eP K Z (a ::B) H1 σ δ:={
  len:=E.len
  bs:=fun b hb=>by
   rcases List.mem_cons.mp hb with z | z
   .subst z;exact⟨_,e⟩
   .exact E1.bs b z
  zb:=fun b hb=>List.mem_cons_of_mem _ (E.zb b hb)
  val:=fun j d e=>let⟨v,q1,q2⟩:=E.val j d e;⟨v,q1,q2.bu p0⟩
  bld:=fun j es e=>let⟨b,ys,q1,q2,q3,q4,q5⟩:=E.bld j es e;⟨b,ys,q1,List.mem_cons_of_mem _ q2,q3,s1 b _ q4,q5.bu p0⟩
  dis:=E.dis}
 refine q _ (a ::B) H1 ⟨p0,fun b o e' hb=>⟨s1 b o e',List.mem_cons_of_mem _ (E.zb b hb)⟩⟩ (E2.setB (by rw[<-E.len];exact of_decide_eq_true hi) List.mem_cons_self nZ e r fun j es hj ej LB=>?_)
 obtain⟨b,ys,q1,_,_,q4,_⟩:=E.bld j es ej;rw[LB] at q1;cases q1;rw[n] at q4;cases q4
theorem Lo{i:Nat}{f:aw->R (List D)}{pos pos':Pos}(hN:X.N.Nodup)(hi:X.N[i]? =some x)(hx:Loc X.env.scope x)(he:PN X e f)(hs:swapsWith e (some (.Name x pos')) pos.line X.env=pure false:=by rfl)(hf:X.fn x=true\/X.env.scope.names.lookup x=some .local:=by first | exact .inl rfl | exact .inr rfl | assumption) :
 GV X (.Assign [.Name x pos'] e pos) (B8 i f):=(B9 hN hi hx he hs hf).imp fun D σ H h=>OD h
theorem eP.grow{K:W.Frag}{Z B:List Addr}{H:Hp}{σ:St}{δ:aw}(E:eP K Z B H σ δ){i:Nat}{ds es:List D}{a:Addr}{xs ys:List V}(hd:δ[i]? =some (.bld ds))(LB:σ[i]? =some (some (.ref a)))(hB:a∈B)(hH:H a=some (.lst xs))(r:aG K B H es ys) :
 eP K Z B (upd H a (.lst ys)) σ (δ.set i (.bld es))/\dA B H B (upd H a (.lst ys)):=by
 have p:dA B H B (upd H a (.lst ys)):=fun b o e nb=>⟨by rw[br (fun(z:b=a)=>nb (by rw[z];exact hB))];exact e,nb⟩
 have hi:i < δ.length:=(List.getElem?_eq_some_iff.mp hd).1;refine⟨{
  len:=by rw[List.length_set];exact E.len
  bs:=fun b hb=>by
   by_cases z:b=a
   .subst z;exact⟨_,aV⟩
   .rw [br z];exact E.bs b hb
  zb:=E.zb
  val:=fun j d e=>by
   by_cases h:i=j
   .subst h;rw [List.getElem?_set_self hi] at e;cases e
   .rw [List.getElem?_set_ne h] at e;obtain⟨v,q1,q2⟩:=E.val j d e;exact⟨v,q1,q2.bu p⟩
  bld:=fun j fs e=>by
   by_cases h:i=j
   .subst h;rw [List.getElem?_set_self hi] at e;cases e;obtain⟨b,zs,q1,q2,q3,_,_⟩:=E.bld i ds hd;rw[LB] at q1;cases q1;exact⟨a,ys,LB,hB,q3,aV,r.bu p⟩
   .rw [List.getElem?_set_ne h] at e;obtain⟨b,zs,q1,q2,q3,q4,q5⟩:=E.bld j fs e;have ne:b≠a:=fun z=>by subst z;exact h (E.dis i j b ds fs hd e LB q1)
    exact⟨b,zs,q1,q2,q3,by rw[br ne];exact q4,q5.bu p⟩
  dis:=fun j k b Rj Rh e1 e2 e3 e4=>by
   have f1:∃fs,δ[j]? =some (.bld fs):=by
    by_cases h:i=j
    .subst h;exact⟨ds,hd⟩
    .rw [List.getElem?_set_ne h] at e1;exact⟨_,e1⟩
   have f2:∃fs,δ[k]? =some (.bld fs):=by
    by_cases h:i=k
    .subst h;exact⟨ds,hd⟩
    .rw [List.getElem?_set_ne h] at e2;exact⟨_,e2⟩
   obtain⟨_,f1⟩:=f1;obtain⟨_,f2⟩:=f2;exact E.dis j k b _ _ f1 f2 e3 e4},p⟩
theorem Ev.grow{Z B:List Addr}{a:Addr}{o:HO}(zb:∀a∈Z,a∈B)(hZ:a ∉ Z)(p:dA B H B (upd H a o)):Ev Z B H B (upd H a o):=
 ⟨p,fun b u e hb=>⟨by rw[br (fun(z:b=a)=>hZ (by rw[<-z];exact hb))];exact e,zb b hb⟩⟩
def wq(δ:aw)(i:Nat):R (List D):=match δ[i]? with | some (.bld ds)=> .ok ds | _=> .no
theorem AL{δ:aw}{i:Nat}{ds:List D}(h:wq δ i= .ok ds):δ[i]? =some (.bld ds):=by
 unfold wq at h;split at h
 .rename_i q;cases h;exact q
 .cases h
def Hi(i:Nat)(f:FD):FS:=fun δ=>(f δ).bind fun d=>(wq δ i).bind fun ds=>R.bX (decide (ds.length < sizeLine)) (.ok (.nx (δ.set i (.bld (ds++[d])))))
theorem J3{i:Nat}{x:Str}{e:Expr}{f:FD}{fP apos cB pos:Pos}(hN:X.N[i]? =some x)(hv:Hz X.env.scope x)(he:PD X e f)
 (hd:(x==("__debug__":Str))=false:=by decide) (tI:(x==("__classdict__":Str))=false:=by decide)
 (hs:starEach [e] X.env=(false,eval e X.env) ::starEach [] X.env:=by rfl) (mQ:(apos.endLine==cB.line)=true:=by rfl)
 (tV:((backTo cB (starEach [e] X.env)).all (fun x=>!x.1) && (backToKw cB (keywordEach [] X.env)).all (fun x=>x.1.isSome)
   && decide (([e]:List Expr).length+([]:List Keyword).length+(if([]:List Keyword).isEmpty then 0 else 1) < 30))=true:=by rfl)
 (Br:swapsWith (.Call (.Attribute (.Name x fP) "append" apos) [e] [] cB) none pos.line X.env=pure false:=by rfl)
 (mR:attributeBase (.Name x fP) "append" X.env (eval (.Name x fP) X.env)=eval (.Name x fP) X.env:=by rfl) :
 GV X (.Expr (.Call (.Attribute (.Name x fP) "append" apos) [e] [] cB) pos) (Hi i f):=by
 refine(vg (Ea (X:=X) PySem.F.plainAttrs_list PySem.F.slot_list_append PySem.F.type_list_append sF (sU hN hv hd tI) (dF he gI hs) mR tV mQ hs) Br).imp fun D σ H ⟨Z,B,δ,o,E,hf,q⟩=>?_
 obtain⟨d,h1,h2⟩:=R.ak hf;obtain⟨ds,h3,h4⟩:=R.ak h2;obtain⟨hl,h5⟩:=R.bp h4;cases h5;have hb:=AL h3;obtain⟨a,xs,q1,q2,q3,q4,q5⟩:=E.bld i ds hb;refine⟨.ref a,q1, .inl ⟨rfl,xs,pV.of q4⟩,⟨Z,B,δ,d,E,h1,fun v H1 s1 r1=>?_⟩⟩
 have E1:=E.same s1;refine⟨a,xs,v,rfl,rfl,s1 a _ q4,by rw[<-q5.length];exact of_decide_eq_true hl,?_⟩
 obtain⟨E2,p2⟩:=E1.grow (es:=ds++[d]) (ys:=xs++[v]) hb q1 q2 (s1 a _ q4) ((q5.same s1).append (aG.cons r1 aG.nil));exact q σ B _ ((Ev.same E.zb s1).trans (Ev.grow E.zb q3 p2)) E2
def GJ(i:Nat)(f:aw->R (List D)):FS:=fun δ=>(f δ).bind fun es=>(wq δ i).bind fun ds=>R.bX (decide (ds.length+es.length<=sizeLine)) (.ok (.nx (δ.set i (.bld (ds++es)))))
theorem Ka{i:Nat}{x:Str}{e:Expr}{f:aw->R (List D)}{fP apos cB pos:Pos}(hN:X.N[i]? =some x)(hv:Hz X.env.scope x)(he:PN X e f)
 (hd:(x==("__debug__":Str))=false:=by decide) (tI:(x==("__classdict__":Str))=false:=by decide)
 (hs:starEach [e] X.env=(false,eval e X.env) ::starEach [] X.env:=by rfl) (mQ:(apos.endLine==cB.line)=true:=by rfl)
 (tV:((backTo cB (starEach [e] X.env)).all (fun x=>!x.1) && (backToKw cB (keywordEach [] X.env)).all (fun x=>x.1.isSome)
   && decide (([e]:List Expr).length+([]:List Keyword).length+(if([]:List Keyword).isEmpty then 0 else 1) < 30))=true:=by rfl)
 (Br:swapsWith (.Call (.Attribute (.Name x fP) "extend" apos) [e] [] cB) none pos.line X.env=pure false:=by rfl)
 (mR:attributeBase (.Name x fP) "extend" X.env (eval (.Name x fP) X.env)=eval (.Name x fP) X.env:=by rfl) :
 GV X (.Expr (.Call (.Attribute (.Name x fP) "extend" apos) [e] [] cB) pos) (GJ i f):=by
 refine(vg (Ea (X:=X) PySem.F.plainAttrs_list PySem.F.slot_list_extend PySem.F.type_list_extend Fq (sU hN hv hd tI) (dF he gI hs) mR tV mQ hs) Br).imp fun D σ H ⟨Z,B,δ,o,E,hf,q⟩=>?_
 obtain⟨es,h1,h2⟩:=R.ak hf;obtain⟨ds,h3,h4⟩:=R.ak h2;obtain⟨hl,h5⟩:=R.bp h4;cases h5;have hb:=AL h3;obtain⟨a,xs,q1,q2,q3,q4,q5⟩:=E.bld i ds hb;refine⟨.ref a,q1, .inl ⟨rfl,xs,pV.of q4⟩,⟨Z,B,δ,es,E,h1,fun b ys H1 s1 n e r=>?_⟩⟩
 have E1:=E.same s1;have r':aG X.K B H1 es ys:=r.bu fun b o e nb=>⟨e,fun hb=>nb (List.mem_cons_of_mem _ hb)⟩
 refine⟨a,b,xs,ys,rfl,rfl,s1 a _ q4,e,by rw[<-q5.length,<-r'.length];exact of_decide_eq_true hl,?_⟩
 obtain⟨E2,p2⟩:=E1.grow (es:=ds++es) (ys:=xs++ys) hb q1 q2 (s1 a _ q4) ((q5.same s1).append r');exact q σ B _ ((Ev.same E.zb s1).trans (Ev.grow E.zb q3 p2)) E2
def lp(i:Nat)(δ:aw):aw:=match δ[i]? with | some (.bld ds)=>δ.set i (.val (.lst ds)) | _=>δ
theorem eP.lp{K:W.Frag}{Z B:List Addr}{δ:aw}(E:eP K Z B H σ δ)(i:Nat):∃B',Ev Z B H B' H/\eP K Z B' H σ (lp i δ):=by
 unfold L2.lp;cases hd:δ[i]? with
 | none=>exact⟨B,Ev.refl Z B H E.zb,E⟩
 | some x=>
   cases x with
   | un=>exact⟨B,Ev.refl Z B H E.zb,E⟩
   | val d=>exact⟨B,Ev.refl Z B H E.zb,E⟩
   | bld ds=>
     obtain⟨a,xs,q1,q2,q3,q4,q5⟩:=E.bld i ds hd;have hi:i < δ.length:=(List.getElem?_eq_some_iff.mp hd).1;have p:dA B H (B.filter fun b=>decide (b≠a)) H:=fun b o e nb=>⟨e,fun hb=>nb (List.mem_filter.mp hb).1⟩
     have zb:∀b∈Z,b∈B.filter fun b=>decide (b≠a):=fun b hb=>List.mem_filter.mpr ⟨E.zb b hb,decide_eq_true fun z=>q3 (z▸hb)⟩
     refine⟨B.filter fun b=>decide (b≠a),⟨p,fun b o e hb=>⟨e,zb b hb⟩⟩,{
      len:=by rw[List.length_set];exact E.len
      bs:=fun b hb=>E.bs b (List.mem_filter.mp hb).1
      zb:=zb
      val:=fun j d e=>by
       by_cases h:i=j
       .subst h;rw [List.getElem?_set_self hi] at e;cases e;refine⟨.ref a,q1,?_⟩;unfold Rep;exact⟨a,xs,rfl, .inl ⟨fun hb=>by simpa using(List.mem_filter.mp hb).2, .inl q4⟩,q5.bu p⟩
       .rw [List.getElem?_set_ne h] at e;obtain⟨v,z1,z2⟩:=E.val j d e;exact⟨v,z1,z2.bu p⟩
      bld:=fun j fs e=>by
       by_cases h:i=j
       .subst h;rw [List.getElem?_set_self hi] at e;cases e
       .rw [List.getElem?_set_ne h] at e;obtain⟨b,zs,z1,z2,z3,z4,z5⟩:=E.bld j fs e;exact⟨b,zs,z1,List.mem_filter.mpr ⟨z2,decide_eq_true fun z=>by subst z;exact h (E.dis i j b ds fs hd e q1 z1)⟩,z3,z4,z5.bu p⟩
      dis:=fun j k b Rj Rh e1 e2 e3 e4=>by
       by_cases h:i=j
       .subst h;rw [List.getElem?_set_self hi] at e1;cases e1
       .by_cases h':i=k
        .subst h';rw [List.getElem?_set_self hi] at e2;cases e2
        .rw [List.getElem?_set_ne h] at e1;rw[List.getElem?_set_ne h'] at e2;exact E.dis j k b Rj Rh e1 e2 e3 e4}⟩
def CY(i:Nat)(F:FS):FS:=fun δ=>F (lp i δ)
theorem OF{K:W.Frag}{i:Nat}{F:FS}{D:Ends}(h:sD K (CY i F) D σ H):sD K F D σ H:=by
 obtain⟨Z,B,δ,o,E,hf,q⟩:=h;obtain⟨B1,ev,E1⟩:=E.lp i;refine⟨Z,B1,L2.lp i δ,o,E1,hf,?_⟩;cases o with
 | nx eg=>exact fun c0 B' H' FV E'=>q c0 B' H' (ev.trans FV) E'
 | rt d=>exact fun v B' H' FV z r=>q v B' H' (ev.trans FV) z r
theorem Kk(i:Nat){F:FS}(h:uN X Mi F):uN X Mi (CY i F):=h.imp fun D σ H h=>OF h
def jy(f:FD):FS:=fun δ=>(f δ).bind fun d=> .ok (.rt d)
theorem JQ(he:PD X e f):GV X (.Return (some e) pos) (jy f):=(Ht he).imp fun D σ H ⟨Z,B,δ,o,E,hf,q⟩=>by
 obtain⟨d,h1,h2⟩:=R.ak hf;cases h2;exact⟨Z,B,δ,d,E,h1,fun v H1 s1 r1=>q v B H1 (Ev.same E.zb s1) E.zb r1⟩
def Dx(c:aw->R Bool)(F G:FS):FS:=fun δ=>(c δ).bind fun b=>if b then F δ else G δ
theorem MA{fc:aw->R Bool}{F G:FS}(hc:PB X c fc)(ha:uN X a F)(hb:uN X b G):GV X (.If c a b pos) (Dx fc F G):=(GH hc ha hb).imp fun D σ H ⟨Z,B,δ,o,E,hf,q⟩=>by
 obtain⟨k,h1,h2⟩:=R.ak hf;refine⟨Z,B,δ,k,E,h1,fun H1 s1=>?_⟩
 have q':=q.ev (Ev.same E.zb s1);cases k with
 | true=>rw [if_pos rfl] at h2;exact FU ⟨Z,B,δ,o,E.same s1,h2,q'⟩
 | false=>rw [if_neg (by decide)] at h2;exact Fi ⟨Z,B,δ,o,E.same s1,h2,q'⟩
abbrev FT:=D->aw->R aw
def gD(K:W.Frag)(t:FT):TG:=fun v σ H Q=>∃Z B δ d eg,eP K Z B H σ δ/\Rep K B H d v/\t d δ= .ok eg/\∀c0 H',bg H H'->eP K Z B H' c0 eg->c0.length=σ.length->Q c0 H'
abbrev Nx(X:Cx)(tg:Expr)(t:FT):Prop:=PG X tg (gD X.K t)
def aS(i:Nat):FT:=fun d δ=>R.bX (decide (i < δ.length)) (.ok (δ.set i (.val d)))
theorem Hn{i:Nat}{pos:Pos}(hN:X.N.Nodup)(hi:X.N[i]? =some x)(hx:Loc X.env.scope x)(hf:X.fn x=true\/X.env.scope.names.lookup x=some .local:=by first | exact .inl rfl | exact .inr rfl | assumption):Nx X (.Name x pos) (aS i):=
 (DA hN hi hx hf).imp fun v σ H Q ⟨Z,B,δ,d,eg,E,r,ht,q⟩=>by
   obtain⟨hi,h⟩:=R.bp ht;cases h;exact q _ H (bg.refl H) (E.set (by rw[<-E.len];exact of_decide_eq_true hi) r) (List.length_set ..)
abbrev Iz:=List D->aw->R aw
def V1(K:W.Frag)(t:Iz):HV:=fun vs σ H Q=>∃Z B δ ds eg,eP K Z B H σ δ/\aG K B H ds vs/\t ds δ= .ok eg/\∀c0 H',bg H H'->eP K Z B H' c0 eg->c0.length=σ.length->Q c0 H'
abbrev GC(X:Cx)(ts:List Expr)(t:Iz):Prop:=Kh X ts (V1 X.K t)
theorem Kh.imp{X:Cx}{t t':HV}(h:Kh X e t)(w:∀v σ H Q,t' v σ H Q->t v σ H Q):Kh X e t':=fun pins s σ H v u Q I r hq=>h pins s σ H v u Q I r (w v σ H Q hq)
def gp:Iz:=fun ds δ=>match ds with | []=> .ok δ | _=> .no
def bJ(t:FT)(u:Iz):Iz:=fun ds δ=>match ds with | d ::r=>(t d δ).bind fun eg=>u r eg | []=> .no
theorem Hg:GC X [] gp:=Dn.imp fun vs σ H Q ⟨Z,B,δ,ds,eg,E,r,ht,q⟩=>by
 cases ds with
 | nil=>unfold aG at r;cases ht;exact⟨r,q σ H (bg.refl H) E rfl⟩
 | cons=>cases ht
theorem Fy{u:Iz}(h1:Nx X e t)(h2:GC X es u)(hs:(assignEach (e ::es) X.env).map (·.2)=assign e X.env ::(assignEach es X.env).map (·.2):=by rfl):GC X (e ::es) (bJ t u):=
 (Ab h1 h2 hs).imp fun vs σ H Q ⟨Z,B,δ,ds,eg,E,r,ht,q⟩=>by
   cases ds with
   | nil=>cases ht
   | cons d ds=>
     obtain⟨x,xs,rfl,r1,r2⟩:=r.cx;obtain⟨δ1,h1,h2⟩:=R.ak ht;exact⟨x,xs,rfl,Z,B,δ,d,δ1,E,r1,h1,fun Jw H1 s1 E1 l1=>⟨Z,B,δ1,ds,eg,E1,r2.same s1,h2,fun xl H2 s2 E2 l2=>q xl H2 (s1.trans s2) E2 (l2.trans l1)⟩⟩
def gb(n:Nat)(t:Iz):FT:=fun d δ=>match d with | .tup ds=>R.bX (decide (ds.length=n)) (t ds δ) | _=> .no
theorem J5{k:Nat}{t:Iz}{n:Nat}{pos:Pos}(hc:X.calm=true)(h:GC X es t)(hn:(assignEach es X.env).length=n:=by rfl)(Jj:(assignEach es X.env).findIdx? (·.1)=none:=by rfl):Nx X (.Tuple es k pos) (gb n t):=
 (Hm hc h hn Jj).imp fun v σ H Q ⟨Z,B,δ,d,eg,E,r,ht,q⟩=>by
   cases d with
   | tup ds=>
     unfold Rep at r;obtain⟨a,xs,rfl,l,r⟩:=r;obtain⟨hl,h⟩:=R.bp ht;exact⟨a,xs,rfl,l.sq,by rw[<-r.length];exact of_decide_eq_true hl,Z,B,δ,ds,eg,E,r,h,q⟩
   | _=>cases ht
def NR(f:FD)(t:FT):FS:=fun δ=>(f δ).bind fun d=>(t d δ).bind fun eg=> .ok (.nx eg)
theorem Lq{tg e:Expr}{f:FD}{t:FT}{pos:Pos}(he:PD X e f)(hg:Nx X tg t)(hs:swapsWithSole [tg] e pos.line X.env=pure false:=by rfl)(hw:swappedStores [tg] e X.env=pure none:=by rfl)
 (h1:(assignEach [tg] X.env).map (·.2)=[assign tg X.env]:=by rfl):GV X (.Assign [tg] e pos) (NR f t):=(BJ he hg hs hw h1).imp fun D σ H ⟨Z,B,δ,o,E,hf,q⟩=>by
 obtain⟨d,h1,h2⟩:=R.ak hf;obtain⟨δ1,h3,h4⟩:=R.ak h2;cases h4;exact⟨Z,B,δ,d,E,h1,fun v H1 s1 r1=>⟨Z,B,δ,d,δ1,E.same s1,r1,h3,fun c0 H2 s2 E2 _=>q c0 B H2 (Ev.same E.zb (s1.trans s2)) E2⟩⟩
def IJ(K:W.Frag)(B:List Addr)(H:Hp)(J:It)(ds:List D):Prop:=∀B' H',dA B H B' H'->(∀(i:Nat) (d:D),ds[i]? =some d->J.go i H'/\∀x n_,J.yld i H' x n_->(∀a∈B',∃o,H' a=some o)->bg H' n_/\Rep K B' n_ d x)/\J.stop ds.length H'
def iD(K:W.Frag)(f:aw->R (List D)):TI:=fun σ H R=>∃Z B δ ds,eP K Z B H σ δ/\f δ= .ok ds/\∀J H1,bg H H1->IJ K B H1 J ds->R J H1
abbrev O2(X:Cx)(tg e:Expr)(f:aw->R (List D)):Prop:=PI X tg e (iD X.K f)
def cI(f:FD):aw->R (List D):=fun δ=>(f δ).bind fun d=>match d with | .lst ds=> .ok ds | .tup ds=> .ok ds | _=> .no
theorem Kl(h:PD X e f):O2 X tg e (cI f):=by
 intro pins s σ H RR I ⟨Z,B,δ,ds,E,hf,q⟩;obtain⟨d,h1,h2⟩:=R.ak hf;refine dR (h pins s σ H (fun v H1=>bg H H1/\Rep X.K B H1 d v) I ⟨Z,B,δ,d,E,h1,fun v H1 s1 r1=>⟨s1,r1⟩⟩) fun v s1 ⟨x,H1,I1,r1,ss,rr⟩=>?_
 cases d with
 | lst es=>
   cases h2;unfold Rep at rr;obtain⟨a,xs,rfl,l,rr⟩:=rr;cases r1;obtain⟨its,rv,p,hz⟩:=I1.list l.sq;refine wpAny_pyIter_list p.isList ?_;refine⟨s1.heap.objs.size,[s1.heap.objs.size],_,_,H1,rfl,I1.kept (t':=s1.toks) fun b o e=>Heap.get?_push_of_some _ e,xX a _,⟨_,Heap.get?_push_size _ rfl,rfl,rfl⟩,fun b hb=>?_,q _ H1 ss fun B' H' pr=>?_⟩
   .have e:b=s1.heap.objs.size:=by simpa using hb
    subst e;exact I1.wJ (Nat.le_refl _) (I1.hok.fresh (Nat.le_refl _))
   .have l':wj X.K B' H' a xs:=l.bu pr;have OM:=rr.bu pr;refine⟨fun i d hd=>?_,⟨xs,l'.sq,by rw[rr.length];exact Nat.le_refl _⟩⟩
    obtain⟨x,hx,rx⟩:=OM.get hd;exact⟨⟨xs,x,l'.sq,hx⟩,fun y n_ ⟨e1,e2⟩ _=>by
     subst e1;have:=e2 xs l'.sq;rw[hx] at this;cases this;exact⟨bg.refl _,rx⟩⟩
 | tup es=>
   cases h2;unfold Rep at rr;obtain⟨a,xs,rfl,l,rr⟩:=rr;cases r1;obtain⟨its,rv,p,hz⟩:=I1.tuple l.sq;refine wpAny_pyIter_tuple (show s1.heap.IsTuple a its.toArray from p) ?_
   refine⟨s1.heap.objs.size,[s1.heap.objs.size],_,_,H1,rfl,I1.kept (t':=s1.toks) fun b o e=>Heap.get?_push_of_some _ e,CT a _,⟨_,Heap.get?_push_size _ rfl,rfl,rfl⟩,fun b hb=>?_,q _ H1 ss fun B' H' pr=>?_⟩
   .have e:b=s1.heap.objs.size:=by simpa using hb
    subst e;exact I1.wJ (Nat.le_refl _) (I1.hok.fresh (Nat.le_refl _))
   .have l':yJ X.K B' H' a xs:=l.elim (fun z=> .inl ⟨(pr.rd z.2 z.1).2,(pr.rd z.2 z.1).1⟩) .inr
    have OM:=rr.bu pr;refine⟨fun i d hd=>?_,⟨xs,l'.sq,by rw[rr.length];exact Nat.le_refl _⟩⟩
    obtain⟨x,hx,rx⟩:=OM.get hd;exact⟨⟨xs,x,l'.sq,hx⟩,fun y n_ ⟨e1,e2⟩ _=>by
     subst e1;have:=e2 xs l'.sq;rw[hx] at this;cases this;exact⟨bg.refl _,rx⟩⟩
 | _=>cases h2
def eY(lo:Int)(n:Nat):List D:=(List.range n).map fun(i:Nat)=>D.int (lo+i)
theorem Hh{K:W.Frag}{B:List Addr}(lo:Int)(n:Nat):IJ K B H (QT lo n) (eY lo n):=fun B' H' _=>by
 refine⟨fun i d hd=>?_,?_⟩
 .unfold eY at hd;rw[List.getElem?_map] at hd;cases e:(List.range n)[i]? with
  | none=>rw [e] at hd;cases hd
  | some j=>
    rw[e] at hd;cases hd;obtain⟨hi,ej⟩:=List.getElem?_eq_some_iff.mp e;rw[List.getElem_range] at ej;subst ej;rw[List.length_range] at hi;exact⟨hi,fun x n_ ⟨e1,e2⟩ _=>by subst e1 e2;exact⟨bg.refl _,by unfold Rep;rfl⟩⟩
 .show n<=(eY lo n).length;unfold eY;rw[List.length_map,List.length_range];exact Nat.le_refl _
def kD(f:FD):aw->R (List D):=fun δ=>(f δ).bind fun d=>match d with | .int j=>R.bX (decide (-(2 ^ 62)<=j/\j < 2 ^ 62)) (.ok (eY 0 j.toNat)) | _=> .no
theorem B4{tg a:Expr}{p pos:Pos}(h:PD X a f)(hg:Gl X "range")(hm:X.mg "range"=none)(hs:starEach [a] X.env=[(false,eval a X.env)]:=by rfl):O2 X tg (.Call (.Name "range" p) [a] [] pos) (kD f):=
 (xW hg hm (dF h gI hs) hs).imp fun σ H RR ⟨Z,B,δ,ds,E,hf,q⟩=>by
   obtain⟨d,h1,h2⟩:=R.ak hf;cases d with
   | int j=>
     obtain⟨hb,h3⟩:=R.bp h2;cases h3;have hb:=of_decide_eq_true hb;refine⟨Z,B,δ, .int j,E,h1,fun v H1 s1 r1=>⟨j,?_,hb.1,hb.2,q _ H1 s1 (Hh 0 _)⟩⟩
     unfold Rep at r1;rw[r1]
   | _=>cases h2
def Tu(f g:FD):aw->R (List D):=fun δ=>(f δ).bind fun d=>(g δ).bind fun e=>match d,e with
 | .int i, .int j=>R.bX (decide (-(2 ^ 62)<=i/\i < 2 ^ 62/\ -(2 ^ 62)<=j/\j < 2 ^ 62)) (.ok (eY i (j - i).toNat)) | _,_=> .no
def uc(t:FT)(body:FS):List D->FS
 | [],δ=> .ok (.nx δ)
 | d ::ds,δ=>(t d δ).bind fun δ1=>(body δ1).bind fun o=>match o with | .nx du=>uc t body ds du | .rt r=> .ok (.rt r)
def xr(it:aw->R (List D))(t:FT)(body:FS):FS:=fun δ=>(it δ).bind fun ds=>uc t body ds δ
theorem Ll{tg iter:Expr}{body:List Stmt}{it:aw->R (List D)}{t:FT}{F:FS}{pos:Pos}(hp:PassesOwn (model X.prog X.w) X.A X.env X.xe)(hc:X.calm=true)(hi:O2 X tg iter it)(hg:Nx X tg t)(hb:uN X body F)
 (hs:∀x,foldedSetIterable iter X.env x=pure x:=by intro _;rfl):GV X (.For tg iter body [] pos) (xr it t F):=(CJ hp hc hi hg hb hs).imp fun D σ H ⟨Z,B,δ,o,E,hf,q⟩=>by
 obtain⟨ds,h1,h2⟩:=R.ak hf;refine⟨Z,B,δ,ds,E,h1,fun J H1 s1 ir=>?_⟩
 refine⟨fun i m c0 H'=>m=ds.length - i/\i<=ds.length/\∃B' eg,Ev Z B H1 B' H'/\eP X.K Z B' H' c0 eg/\uc t F (ds.drop i) eg= .ok o,⟨ds.length,rfl,Nat.zero_le _,B,δ,Ev.refl Z B H1 E.zb,E.same s1,by simpa using h2⟩,?_⟩
 rintro i m c0 H' ⟨rfl,hi,B',eg,ev,E',hl⟩;obtain⟨go,stop⟩:=ir B' H' ev.bu;by_cases hlt:i < ds.length
 .have hd:ds[i]? =some ds[i]:=List.getElem?_eq_getElem hlt;have hdrop:ds.drop i=ds[i] ::ds.drop (i+1):=List.drop_eq_getElem_cons hlt;rw[hdrop] at hl;obtain⟨δ1,h3,h4⟩:=R.ak hl;obtain⟨o1,h5,h6⟩:=R.ak h4;obtain⟨g1,g2⟩:=go i _ hd;refine .inr ⟨g1,fun xl H2=>∃B2 du,Ev Z B H1 B2 H2/\eP X.K Z B2 H2 xl du/\uc t F (ds.drop (i+1)) du= .ok o,fun xl H2 n=>⟨ds.length - (i+1),by omega,rfl,hlt,n⟩,fun x n_ y=>?_⟩
  obtain⟨ss,rr⟩:=g2 x n_ y E'.bs;refine⟨Z,B',eg,ds[i],δ1,E'.same ss,rr,h3,fun xl H2 s2 E2 l2=>⟨Z,B',δ1,o1,E2,h5,?_⟩⟩
  have ev2:Ev Z B H1 B' H2:=ev.trans (Ev.same E'.zb (ss.trans s2));cases o1 with
  | nx du=>exact fun Bo B3 H3 TN E3=>⟨B3,du,ev2.trans TN,E3,h6⟩
  | rt d=>
    cases h6;exact fun v B3 H3 TN z r=>q v B3 H3 ((Ev.same E.zb s1).trans (ev2.trans TN)) z r
 .have e:i=ds.length:=by omega
  subst e;rw[List.drop_length] at hl;cases hl;exact .inl ⟨stop,q c0 B' H' ((Ev.same E.zb s1).trans ev) E'⟩
def Ie(c:aw->R Bool)(body:FS):Nat->FS
 | 0,_=> .no
 | n+1,δ=>(c δ).bind fun b=>if b then(body δ).bind fun o=>match o with | .nx du=>Ie c body n du | .rt r=> .ok (.rt r) else .ok (.nx δ)
def Sa(n:Nat)(c:aw->R Bool)(body:FS):FS:=fun δ=>Ie c body n δ
def wg(δ:aw)(i:Nat):Sl:=match δ[i]? with | some (.val d)=> .val d | _=> .un
def uH(own:List Str)(kp:List Nat)(δ:aw):aw:=List.replicate own.length .un++kp.map (wg δ)
def rC(t:FT)(c:aw->R Bool)(f:FD)(δ:aw):List D->R (List D)
 | []=> .ok []
 | d ::ds=>(t d δ).bind fun δ1=>(c δ1).bind fun b=>if b then(f δ1).bind fun y=>(rC t c f δ ds).bind fun ys=> .ok (y ::ys) else rC t c f δ ds
def dj(it:aw->R (List D))(t:FT)(c:aw->R Bool)(f:FD)(own:List Str)(kp:List Nat):aw->R (List D):=fun δ=>(it δ).bind fun ds=>R.bX (decide (ds.length<=sizeLine)) (rC t c f (uH own kp δ) ds)
theorem Mw{K:W.Frag}{Z B B':List Addr}{H H':Hp}{δ:aw}{own:List Str}{kp:List Nat}(E:eP K Z B H σ δ)(p:dA B H B' H')(hB:∀a∈B',∃o,H' a=some o):eP K [] B' H' (dO own kp σ) (uH own kp δ) where
 len:=by unfold dO uH;simp
 bs:=hB
 zb:=fun a ha=>by cases ha
 val:=fun i d e=>by
  unfold uH at e;unfold dO;by_cases hi:i < own.length
  .rw [List.getElem?_append_left (by simpa using hi),List.getElem?_replicate] at e
   split at e <;> cases e
  .rw [List.getElem?_append_right (by simpa using hi),List.length_replicate,List.getElem?_map] at e ⊢
   cases q:kp[i - own.length]? with
   | none=>rw [q] at e;cases e
   | some j=>
     rw[q] at e;have e:wg δ j= .val d:=Option.some.inj e;unfold wg at e;split at e
     .rename_i d' ed;cases e;obtain⟨v,h1,h2⟩:=E.val j d ed;exact⟨v,by simp [h1],h2.bu p⟩
     .cases e
 bld:=fun i ds e=>by
  unfold uH at e;by_cases hi:i < own.length
  .rw [List.getElem?_append_left (by simpa using hi),List.getElem?_replicate] at e
   split at e <;> cases e
  .rw [List.getElem?_append_right (by simpa using hi),List.length_replicate,List.getElem?_map] at e
   cases q:kp[i - own.length]? with
   | none=>rw [q] at e;cases e
   | some j=>
     rw[q] at e;have e:wg δ j= .bld ds:=Option.some.inj e;unfold wg at e;split at e <;> cases e
 dis:=fun i j a ds es e=>by
  unfold uH at e;by_cases hi:i < own.length
  .rw [List.getElem?_append_left (by simpa using hi),List.getElem?_replicate] at e
   split at e <;> cases e
  .rw [List.getElem?_append_right (by simpa using hi),List.length_replicate,List.getElem?_map] at e
   cases q:kp[i - own.length]? with
   | none=>rw [q] at e;cases e
   | some j=>
     rw[q] at e;have e:wg δ j= .bld ds:=Option.some.inj e;unfold wg at e;split at e <;> cases e
theorem Dz{K:W.Frag}{it:aw->R (List D)}{c:aw->R Bool}{own:List Str}{kp:List Nat}{Q:VK}(h:tN K (dj it t c f own kp) σ H Q) :
 DF (iD K it) (gD K t) (NF K c) (tD K f) own kp σ H Q:=by
 obtain⟨Z,B,δ,ds,E,hf,q⟩:=h;obtain⟨es,h1,h2⟩:=R.ak hf;obtain⟨hl,h3⟩:=R.bp h2;have hl:=of_decide_eq_true hl;refine⟨Z,B,δ,es,E,h1,fun J H1 s1 ir Dd hD=>?_⟩
 have E1:=E.same s1;have pD:dA B H1 (Dd ::B) (upd H1 Dd (.lst [])):=rh hD;refine⟨fun i m ys H'=>m=es.length - i/\i<=es.length/\ys.length<=i/\H' Dd=some (.lst ys)/\bg H1 H'/\∃done rest,ds=done++rest/\aG K (Dd ::B) H' done ys/\rC t c f (uH own kp δ) (es.drop i)= .ok rest,
  ⟨es.length,rfl,Nat.zero_le _,Nat.le_refl _,aV,aP hD,[],ds,rfl,aG.nil,by simpa using h3⟩,?_⟩
 rintro i m ys H' ⟨rfl,hi,hy,hDl,ss,done,rest,rfl,rd,hc⟩;have dB:Dd ∉ B:=fun hb=>by obtain⟨o,ho⟩:=E1.bs Dd hb;rw [hD] at ho;cases ho
 have p':dA B H1 (Dd ::B) H':=fun b o e nb=>⟨ss b o e,fun hb=>by
  rcases List.mem_cons.mp hb with z | z
  .exact cz e hD z
  .exact nb z⟩
 have Jc:∀a∈Dd ::B,∃o,H' a=some o:=fun a ha=>by
  rcases List.mem_cons.mp ha with z | z
  .subst z;exact⟨_,hDl⟩
  .obtain⟨o,ho⟩:=E1.bs a z;exact⟨o,ss a o ho⟩
 obtain⟨go,stop⟩:=ir (Dd ::B) H' p';by_cases hlt:i < es.length
 .have hd:es[i]? =some es[i]:=List.getElem?_eq_getElem hlt;have hdrop:es.drop i=es[i] ::es.drop (i+1):=List.drop_eq_getElem_cons hlt;rw[hdrop] at hc;obtain⟨δ1,h4,h5⟩:=R.ak hc;obtain⟨b,h6,h7⟩:=R.ak h5;obtain⟨g1,g2⟩:=go i _ hd;refine .inr ⟨g1,fun x H2 y=>?_⟩
  obtain⟨sy,ry⟩:=g2 x H2 y Jc;have Ec:eP K [] (Dd ::B) H2 (dO own kp σ) (uH own kp δ):=Mw E1 (p'.trans (dA.same sy)) fun a ha=>let⟨o,ho⟩:=Jc a ha;⟨o,sy a o ho⟩
  refine⟨[],Dd ::B,uH own kp δ,es[i],δ1,Ec,ry,h4,fun Bo H3 s3 E3 _=>⟨[],Dd ::B,δ1,b,E3,h6,fun H4 s4=>?_⟩⟩
  have sAll:bg H' H4:=sy.trans (s3.trans s4);cases b with
  | true=>
    rw[if_pos rfl] at h7;refine FU ?_;obtain⟨yv,h8,h9⟩:=R.ak h7;obtain⟨rs,RU,TH⟩:=R.ak h9;cases TH;refine⟨[],Dd ::B,δ1,yv,E3.same s4,h8,fun v H5 s5 r5=>?_⟩
    have s':bg H' H5:=sAll.trans s5;have Us:H5 Dd=some (.lst ys):=s' Dd _ hDl;have pu:dA (Dd ::B) H5 (Dd ::B) (upd H5 Dd (.lst (ys++[v]))):=fun b o e nb=>⟨by rw[br (fun(z:b=Dd)=>nb (by rw[z];exact List.mem_cons_self))];exact e,nb⟩
    refine⟨Us,by omega,es.length - (i+1),by omega,rfl,hlt,by rw[List.length_append,List.length_singleton];omega,aV,fun b o e=>?_,done++[yv],rs,by simp,((rd.same s').append (aG.cons r5 aG.nil)).bu pu,RU⟩
    rw[br (cz e hD)];exact s' b o (ss b o e)
  | false=>
    rw[if_neg (by decide)] at h7
    refine Fi ?_;exact⟨es.length - (i+1),by omega,rfl,hlt,by omega,sAll Dd _ hDl,ss.trans sAll,done,rest,rfl,rd.same sAll,h7⟩
 .have e:i=es.length:=by omega
  subst e;rw[List.drop_length] at hc;cases hc;rw[List.append_nil] at q;exact .inl ⟨stop,q Dd ys H' (s1.trans ss) (s1.free hD) hDl rd⟩
theorem JL{scope:Scope}{own:List Str}{kp:List Nat}{kn:List Str}{tg iter elt:Expr}{ifs:List Expr}{it:aw->R (List D)}{t:FT}{c:aw->R Bool}{f:FD}{pos:Pos}(hc:X.calm=true)(C:bO X scope own kp kn)(hi:O2 X tg iter it)
 (hg:∀fp s H,Nx (bN X scope (own++kn) fp s H) tg t) (F4:∀fp s H,r_ (bN X scope (own++kn) fp s H) ifs (NF X.K c)) (he:∀fp s H,PD (bN X scope (own++kn) fp s H) elt f)
 (hs:∀x,foldedSetIterable iter X.env x=pure x:=by intro _;rfl):PN X (.ListComp elt [⟨tg,iter,ifs,0⟩] scope pos) (dj it t c f own kp):=
 (Dr hc C hi hg F4 he hs).imp fun σ H Q h=>Dz h
def sM:aw->R Bool:=fun _=> .ok true
theorem Ic:r_ X [] (NF X.K sM):=fun pins s σ H Q I ⟨Z,B,δ,b,E,hf,q⟩=>Ai pins s σ H Q I (by cases hf;exact q H (bg.refl H))
theorem JR{c:aw->R Bool}(h:PB X e c):r_ X [e] (NF X.K c):=zW h
end
def gK(N:List Str)(ds:List D):aw:=ds.map .val++List.replicate (N.length - ds.length) .un
def xp(N:List Str)(F:FS):List D->R D:=fun ds=>(F (gK N ds)).bind fun o=>match o with | .rt d=> .ok d | .nx _=> .ok .cK
theorem JU{K:W.Frag}{B:List Addr}{H:Hp}{N:List Str}{ds:List D}{vs:List V}(hB:∀a∈B,∃o,H a=some o)(r:aG K B H ds vs):eP K B B H (start N vs) (gK N ds) where
 len:=by unfold start gK;simp [r.length]
 bs:=hB
 zb:=fun a ha=>ha
 val:=fun i d e=>by
  unfold gK at e;unfold start;by_cases hi:i < ds.length
  .rw [List.getElem?_append_left (by simpa using hi),List.getElem?_map] at e
   cases q:ds[i]? with
   | none=>rw [q] at e;cases e
   | some d'=>
     rw[q] at e;cases e;obtain⟨x,h1,h2⟩:=r.get q;exact⟨x,by rw[List.getElem?_append_left (by rw[List.length_map,<-r.length];exact hi),List.getElem?_map,h1];rfl,h2⟩
  .rw [List.getElem?_append_right (by simpa using hi),List.getElem?_replicate] at e
   split at e <;> cases e
 bld:=fun i es e=>by
  unfold gK at e;by_cases hi:i < ds.length
  .rw [List.getElem?_append_left (by simpa using hi),List.getElem?_map] at e
   cases q:ds[i]? with
   | none=>rw [q] at e;cases e
   | some d'=>rw [q] at e;cases e
  .rw [List.getElem?_append_right (by simpa using hi),List.getElem?_replicate] at e
   split at e <;> cases e
 dis:=fun i j a es fs e=>by
  unfold gK at e;by_cases hi:i < ds.length
  .rw [List.getElem?_append_left (by simpa using hi),List.getElem?_map] at e
   cases q:ds[i]? with
   | none=>rw [q] at e;cases e
   | some d'=>rw [q] at e;cases e
  .rw [List.getElem?_append_right (by simpa using hi),List.getElem?_replicate] at e
   split at e <;> cases e
theorem Lg{P:Program}{w:World}{K:W.Frag}{mg:Str->Option Value}{base:Heap}{x qual:Str}{st:Stmt}{f:Addr}{fd:FuncData}{N ps:List Str}{k:Nat}{F:FS}(Fn:EA K x qual st f fd)(S:aW N ps (aC st))
 (mS:∀(dJ:Value) (A:Around) (outer:List Env) (s:Shared) (H:Hp) (E:XK),eX k (A.deeper (envOfC qual (aC st) s.heap.objs.size f dJ))->
   uN (vz xn P w K mg base N qual (aC st) f dJ A outer s H E).Li (aM st) F):jI P w K mg base xn (k+1) f fd ps (Ih K ps.length (xp N F)):=by
 refine Fn.ok S (fun vs H Q E h=>h.1) (fun dJ A outer s H vs Q E hr h=>⟨_,mS dJ A outer s H E hr,?_⟩)
 obtain⟨_,B,ds,d,hB,r,hg,q⟩:=h;obtain⟨o,h1,h2⟩:=R.ak hg;refine⟨B,B,gK N ds,o,JU hB r,h1,?_⟩;have sm:∀{B':List Addr} {H':Hp},Ev B B H B' H'->bg H H':=fun {B' H'} ev b u e=>by
  by_cases hb:b∈B
  .exact(ev.zs b u e hb).1
  .exact(ev.bu b u e hb).1
 cases o with
 | nx eg=>
   cases h2;exact fun c0 B' H' ev _=>q _ H' (sm ev) (by unfold Rep;rfl)
 | rt d'=>
   cases h2;exact fun v B' H' ev z rr=>q v H' (sm ev) (rr.bu fun b o e nb=>⟨e,fun hb=>nb (z b hb)⟩)
end L2
end
section
namespace L2
open PySem PySem.Spec PyProof.Rows
theorem Rep.int{K:W.Frag}{B:List Addr}{i:Int}{v:V}:Rep K B H (.int i) v↔v= .int i:=by unfold Rep;exact Iff.rfl
theorem Rep.bl{K:W.Frag}{B:List Addr}{i:Bool}{v:V}:Rep K B H (.bl i) v↔v= .bl i:=by unfold Rep;exact Iff.rfl
theorem Rep.str{K:W.Frag}{B:List Addr}{v:V}:Rep K B H (.str i) v↔v= .str i:=by unfold Rep;exact Iff.rfl
theorem Rep.cK{K:W.Frag}{B:List Addr}{v:V}:Rep K B H .cK v↔v= .cK:=by unfold Rep;exact Iff.rfl
theorem Rep.lst{K:W.Frag}{B:List Addr}{ds:List D}{v:V}:Rep K B H (.lst ds) v↔∃a xs,v= .ref a/\wj K B H a xs/\aG K B H ds xs:=by rw[Rep]
theorem Rep.tup{K:W.Frag}{B:List Addr}{ds:List D}{v:V}:Rep K B H (.tup ds) v↔∃a xs,v= .ref a/\yJ K B H a xs/\aG K B H ds xs:=by rw[Rep]
section
variable {X:Cx}
theorem lG.of{f:Value->Value->Sem Value}{r:R2}{g:D->D->R D}(h:nk X f r)
 (w:∀(B:List Addr) (H:Hp) (da db d:D) (x y:V) (Q:VK),(∀a∈B,∃o,H a=some o)->Rep X.K B H da x->Rep X.K B H db y->g da db= .ok d->(∀z H',bg H H'->Rep X.K B H' d z->Q z H')->r x y H Q):lG X f g:=by
 intro pins s σ H B da db d x y v u I hb rx ry ra rb hg;exact h pins s σ H x y v u _ I rx ry (w B H da db d x y _ hb ra rb hg fun z H' s1 r1=>⟨s1,r1⟩)
theorem gm.of{f:Value}{r:List V->Hp->VK->Prop}{g:List D->R D}(h:p9 X f r)
 (w:∀(B:List Addr) (H:Hp) (ds:List D) (d:D) (xs:List V) (Q:VK),(∀a∈B,∃o,H a=some o)->aG X.K B H ds xs->g ds= .ok d->(∀z H',bg H H'->Rep X.K B H' d z->Q z H')->r xs H Q):gm X f g:=by
 intro pins s σ H B ds d xs us I hb rx rs hg;exact h pins s σ H xs us _ I rx (w B H ds d xs _ hb rs hg fun z H' s1 r1=>⟨s1,r1⟩)
def Ak(C:Int->Int->Bool)(g:Int->Int->Int):D->D->R D
 | .int i, .int j=>R.bX (C i j) (.ok (.int (g i j)))
 | _,_=> .no
theorem AO{f:Value->Value->Sem Value}{C:Int->Int->Bool}{Cp:Int->Int->Prop}{g:Int->Int->Int}(h:nk X f (rI Cp fun i j=> .int (g i j)))(hc:∀i j,C i j=true->Cp i j):lG X f (Ak C g):=
 lG.of h fun B H da db d x y Q _ ra rb hg q=>by
  unfold Ak at hg;split at hg
  .obtain⟨h1,h2⟩:=R.bp hg;cases h2;exact⟨_,_,Rep.int.mp ra,Rep.int.mp rb,hc _ _ h1,q _ H (bg.refl H) (Rep.int.mpr rfl)⟩
  .cases hg
def EY(g:Int->Int->Int):D->D->R D
 | .int i, .int j=> .ok (.int (g i j))
 | _,_=> .no
theorem y_{f:Value->Value->Sem Value}{g:Int->Int->Int}(h:nk X f (Ga fun i j=> .int (g i j))):lG X f (EY g):=
 lG.of h fun B H da db d x y Q _ ra rb hg q=>by
  unfold EY at hg;split at hg
  .cases hg;exact⟨_,_,Rep.int.mp ra,Rep.int.mp rb,q _ H (bg.refl H) (Rep.int.mpr rfl)⟩
  .cases hg
def EO(g:Int->Int->Bool):D->D->R D
 | .int i, .int j=> .ok (.bl (g i j))
 | _,_=> .no
theorem GR{f:Value->Value->Sem Value}{g:Int->Int->Bool}(h:nk X f (Ga fun i j=> .bl (g i j))):lG X f (EO g):=
 lG.of h fun B H da db d x y Q _ ra rb hg q=>by
  unfold EO at hg;split at hg
  .cases hg;exact⟨_,_,Rep.int.mp ra,Rep.int.mp rb,q _ H (bg.refl H) (Rep.bl.mpr rfl)⟩
  .cases hg
abbrev xt:D->D->R D:=EY fun i j=>i - j
theorem rJ:lG X (binaryOp .Sub) xt:=y_ Nw
abbrev Af:D->D->R D:=Ak (fun _ j=>decide (0 < j/\j < 1073741824)) fun i j=>i / j
theorem IT:lG X (binaryOp .FloorDiv) Af:=AO Kx fun i j h=>(of_decide_eq_true h:0 < j/\j < 1073741824)
abbrev xD:D->D->R D:=Ak (fun _ j=>decide (0 < j)) fun i j=>i % j
theorem vJ:lG X (binaryOp .Mod) xD:=AO NM fun i j h=>of_decide_eq_true h
abbrev Qz:D->D->R D:=Ak (fun i j=>decide (0<=j/\j<=1000000/\i.natAbs < 2 ^ 64)) fun i j=>i ^ j.toNat
theorem QR:lG X (binaryOp .Pow) Qz:=AO OE fun i j h=>(of_decide_eq_true h:0<=j/\j<=1000000/\i.natAbs < 2 ^ 64)
abbrev Qy:D->D->R D:=Ak (fun _ j=>decide (0<=j)) fun i j=>i / 2 ^ j.toNat
theorem Qj:lG X (binaryOp .RShift) Qy:=AO MX fun i j h=>of_decide_eq_true h
abbrev u0:D->D->R D:=EY fun i j=>Builtin.bitAnd i j
theorem oR:lG X (binaryOp .BitAnd) u0:=y_ Oc
abbrev xx:D->D->R D:=EY fun i j=>Builtin.bitOr i j
theorem pK:lG X (binaryOp .BitOr) xx:=y_ Qt
abbrev yM:D->D->R D:=EY fun i j=>Builtin.bitXor i j
theorem rP:lG X (binaryOp .BitXor) yM:=y_ Mx
abbrev YJ:D->D->R D:=EO fun i j=>decide (i < j)
abbrev SG:D->D->R D:=EO fun i j=>decide (i<=j)
theorem SQ:lG X (compareOp .LtE) SG:=GR PR
abbrev Pn:D->D->R D:=EO fun i j=>decide (j < i)
theorem N5:lG X (compareOp .Gt) Pn:=GR QG
abbrev Vu:D->D->R D:=EO fun i j=>decide (j<=i)
theorem R4:lG X (compareOp .GtE) Vu:=GR PQ
theorem wj.vj{K:W.Frag}{B:List Addr}{H:Hp}{a:Addr}{xs:List V}(h:H a=some (.lst xs))(n:a ∉ B):wj K B H a xs:= .inl ⟨n, .inl h⟩
theorem Inv.LM{pins:List (Addr × Obj)}{s:Shared}{a:Addr}{xs:List V}{B:List Addr}(I:Inv X pins σ H s)(h:wj X.K B H a xs):∃(its:List Value) (n:Nat),Vals xs its/\s.heap.get? a=some {cls:= .type "list",data:= .seq its.toArray n}/\xs.length<=sizeLine:=by
 rcases h with⟨_,h⟩ | ⟨its,n,hk,hz,r⟩
 .obtain⟨z,its,n,r,e⟩:=h.ok I.hok;exact⟨its,n,r,e,z⟩
 .exact⟨its,n,r,I.sk a _ hk,hz⟩
theorem Dl:nk X (binaryOp .Add) (fun x y H Q=>∃B l b xs zs,x= .ref l/\y= .ref b/\wj X.K B H l xs/\wj X.K B H b zs/\xs.length+zs.length<=sizeLine/\∀p,H p=none->Q (.ref p) (upd H p (.lst (xs++zs)))):=by
 intro pins s σ H x y v u Q I rx ry h;obtain⟨B,l,b,xs,zs,rfl,rfl,hH,hB,hz,q⟩:=h;cases rx;cases ry;obtain⟨its,n,r,e,_⟩:=I.LM hH;obtain⟨rZ,n2,r2,e2,_⟩:=I.LM hB;have l1:=r.length;have l2:=r2.length;refine PySem.P.add_list e e2 ?_ (by rw[List.size_toArray,List.size_toArray];omega)
 have ea:its.toArray++rZ.toArray=(its++rZ).toArray:=by simp
 rw[ea];exact⟨.ref _,_,I.JH (t':=s.toks) (r.append r2) (by rw[List.length_append];omega),rfl,q _ I.fresh⟩
def iX:D->D->R D
 | .int i, .int j=> .ok (.int (i+j))
 | .str a, .str b=>R.bX (decide (a.length+b.length<=sizeLine)) (.ok (.str (a++b)))
 | .lst a, .lst b=>R.bX (decide (a.length+b.length<=sizeLine)) (.ok (.lst (a++b)))
 | _,_=> .no
theorem jw:lG X (binaryOp .Add) iX:=by
 intro pins s σ H B da db d x y v u I hb rx ry ra rb hg;unfold iX at hg;split at hg
 .cases hg;exact NP pins s σ H x y v u _ I rx ry ⟨_,_,Rep.int.mp ra,Rep.int.mp rb,bg.refl H,Rep.int.mpr rfl⟩
 .obtain⟨h1,h2⟩:=R.bp hg;cases h2;exact BE pins s σ H x y v u _ I rx ry ⟨_,_,Rep.str.mp ra,Rep.str.mp rb,of_decide_eq_true h1,bg.refl H,Rep.str.mpr rfl⟩
 .obtain⟨h1,h2⟩:=R.bp hg;cases h2;obtain⟨a1,Uk,rfl,l1,r1⟩:=Rep.lst.mp ra;obtain⟨a2,T9,rfl,l2,r2⟩:=Rep.lst.mp rb;refine Dl pins s σ H _ _ v u _ I rx ry ⟨B,a1,a2,Uk,T9,rfl,rfl,l1,l2,by rw[<-r1.length,<-r2.length];exact of_decide_eq_true h1,fun p hp=>⟨aP hp,Rep.lst.mpr ⟨p,_,rfl, .vj aV fun ha=>?_,(r1.append r2).same (aP hp)⟩⟩⟩
  obtain⟨o,ho⟩:=hb p ha;rw[hp] at ho;cases ho
 .cases hg
theorem Km:nk X (binaryOp .Mult) (fun x y H Q=>∃z n,x= .str z/\y= .int n/\MulOk z n/\Q (.str (Txt.mul z n)) H):=by
 intro pins s σ H x y v u Q I rx ry h;obtain⟨z,n,rfl,rfl,hm,q⟩:=h;obtain⟨t,rfl⟩:=rx;obtain⟨t',rfl⟩:=ry;exact SB.mul hm fun t2 k=>⟨.str _,H,I.tok _,⟨_,rfl⟩,q⟩
end
end L2
end
section
namespace L2
open PySem PySem.Spec PyProof.Rows
section
variable {X:Cx}
theorem mulOk_of{x:Str}{n:Int}(h1: -(2 ^ 63)<=n)(h2:n < 2 ^ 63)(h3:x.length*n.toNat<=sizeLine):MulOk x n:=by
 refine⟨by simp only[Bool.or_eq_false_iff,decide_eq_false_iff_not];omega,fun hn _=>?_,fun hn _=>?_⟩
 .have hz:sizeLine=16777216:=sizeLine_eq;have e:(n.toNat:Int)=n:=by omega
  have h4:(x.length:Int)*n<=16777216:=by
   have:((x.length*n.toNat:Nat):Int)<=((16777216:Nat):Int):=Int.ofNat_le.mpr (by omega)
   rw[Int.natCast_mul,e] at this;exact this
  have:(x.length:Int)<=(2 ^ 63 - 1) / n:=(Int.le_ediv_iff_mul_le (by omega)).mpr (by omega)
  omega
 .unfold Builtin.Str.tooLong;exact decide_eq_false (by omega)
def qr:D->D->R D
 | .int i, .int j=>R.bX (decide ((-(2 ^ 64) < i/\i < 2 ^ 64)\/(-(2 ^ 64) < j/\j < 2 ^ 64))) (.ok (.int (i*j)))
 | .str x, .int n=>R.bX (decide (-(2 ^ 63)<=n/\n < 2 ^ 63/\x.length*n.toNat<=sizeLine)) (.ok (.str (Txt.mul x n)))
 | _,_=> .no
theorem yL:lG X (binaryOp .Mult) qr:=by
 intro pins s σ H B da db d x y v u I hb rx ry ra rb hg;unfold qr at hg;split at hg
 .obtain⟨h1,h2⟩:=R.bp hg;cases h2;have h1:=of_decide_eq_true h1;exact Oy pins s σ H x y v u _ I rx ry ⟨_,_,Rep.int.mp ra,Rep.int.mp rb,h1,bg.refl H,Rep.int.mpr rfl⟩
 .obtain⟨h1,h2⟩:=R.bp hg;cases h2;have h1:=of_decide_eq_true h1;exact Km pins s σ H x y v u _ I rx ry ⟨_,_,Rep.str.mp ra,Rep.int.mp rb,mulOk_of h1.1 h1.2.1 h1.2.2,bg.refl H,Rep.str.mpr rfl⟩
 .cases hg
mutual
def toPy:D->PyData
 | .cK=> .none
 | .bl b=> .bool b
 | .int i=> .int i
 | .str x=> .str x
 | .lst ds=> .list (nQ ds)
 | .tup ds=> .tuple (nQ ds)
 | .dct _ _=> .dict []
def nQ:List D->List PyData
 | []=>[]
 | d ::ds=>toPy d ::nQ ds
end
mutual
def fJ:D->Bool
 | .dct _ _=>false
 | .lst ds=>lz ds
 | .tup ds=>lz ds
 | _=>true
def lz:List D->Bool
 | []=>true
 | d ::ds=>fJ d && lz ds
end
mutual
theorem Rep.reads{pins:List (Addr × Obj)}{s:Shared}{B:List Addr}(I:Inv X pins σ H s):∀{d:D} {v:V} {u:Value},fJ d=true->Rep X.K B H d v->RelV v u->∃as,Reads s.heap u (toPy d) as
 | .cK,v,u,_,r,q=>by rw[Rep.cK.mp r] at q;cases q;unfold toPy;exact⟨_, .none⟩
 | .bl b,v,u,_,r,q=>by rw[Rep.bl.mp r] at q;cases q;unfold toPy;exact⟨_, .bool b⟩
 | .int i,v,u,_,r,q=>by rw[Rep.int.mp r] at q;obtain⟨t,rfl⟩:=q;unfold toPy;exact⟨_, .int i t⟩
 | .str x,v,u,_,r,q=>by rw[Rep.str.mp r] at q;obtain⟨t,rfl⟩:=q;unfold toPy;exact⟨_, .str x t⟩
 | .lst ds,v,u,hp,r,q=>by
   obtain⟨a,xs,rfl,l,rs⟩:=Rep.lst.mp r;cases q;obtain⟨its,rv,⟨o,n,e,hc,hd,he⟩,_⟩:=I.list l.sq;obtain⟨as,ra⟩:=aG.reads I (by unfold fJ at hp;exact hp) rs rv
   unfold toPy;exact⟨_, .list e hc he (by simpa using ra)⟩
 | .tup ds,v,u,hp,r,q=>by
   obtain⟨a,xs,rfl,l,rs⟩:=Rep.tup.mp r;cases q;obtain⟨its,rv,⟨o,e,hc,n,hd⟩,_⟩:=I.tuple l.sq;obtain⟨as,ra⟩:=aG.reads I (by unfold fJ at hp;exact hp) rs rv
   unfold toPy;exact⟨_, .tuple e hc hd (by simpa using ra)⟩
 | .dct _ _,v,u,hp,r,q=>by unfold fJ at hp;cases hp
theorem aG.reads{pins:List (Addr × Obj)}{s:Shared}{B:List Addr}(I:Inv X pins σ H s):∀{ds:List D} {vs:List V} {us:List Value},lz ds=true->aG X.K B H ds vs->Vals vs us->∃as,ReadsAll s.heap us (nQ ds) as
 | [],vs,us,_,r,q=>by unfold aG at r;subst r;cases q;unfold nQ;exact⟨_, .nil⟩
 | d ::ds,vs,us,hp,r,q=>by
   obtain⟨x,xs,rfl,r1,r2⟩:=r.cx;cases q with
   | cons q1 q2=>
     unfold lz at hp;obtain⟨h1,h2⟩:=Bool.and_eq_true_iff.mp hp;obtain⟨as,a1⟩:=Rep.reads I h1 r1 q1;obtain⟨bs,a2⟩:=aG.reads I h2 r2 q2;unfold nQ;exact⟨_, .cons a1 a2⟩
end
def Gb:D->D->R Bool
 | .int i, .int j=> .ok (decide (i=j))
 | .str x, .str y=> .ok (decide (x=y))
 | .bl a, .bl b=> .ok (decide (a=b))
 | d,e=>R.bX (fJ d && fJ e && SeqAt.shaped (toPy d) && SeqAt.shaped (toPy e)) (.ok (PyData.eqv (toPy d) (toPy e)))
def jm(d e:D):R D:=(Gb d e).bind fun b=> .ok (.bl b)
def Pb(d e:D):R D:=(Gb d e).bind fun b=> .ok (.bl (!b))
theorem gJ(hu:X.A.units+64 < cLine):lG X (compareOp .Eq) jm:=by
 intro pins s σ H B da db d x y v u I hb rx ry ra rb hg;obtain⟨b,h1,h2⟩:=R.ak hg;cases h2;unfold Gb at h1;split at h1
 .cases h1;rename_i i j;have:=Iw pins s σ H x y v u (fun z H'=>bg H H'/\Rep X.K B H' (.bl (decide (i=j))) z) I rx ry
  rw[Rep.int.mp ra,Rep.int.mp rb] at this;refine this ⟨rfl,bg.refl H,Rep.bl.mpr ?_⟩;simp [V.int.injEq]
 .cases h1;rename_i i j;have:=Iw pins s σ H x y v u (fun z H'=>bg H H'/\Rep X.K B H' (.bl (decide (i=j))) z) I rx ry
  rw[Rep.str.mp ra,Rep.str.mp rb] at this;refine this ⟨rfl,bg.refl H,Rep.bl.mpr ?_⟩;simp [V.str.injEq]
 .cases h1;rename_i i j;have:=Iw pins s σ H x y v u (fun z H'=>bg H H'/\Rep X.K B H' (.bl (decide (i=j))) z) I rx ry
  rw[Rep.bl.mp ra,Rep.bl.mp rb] at this;refine this ⟨rfl,bg.refl H,Rep.bl.mpr ?_⟩;simp [V.bl.injEq]
 .obtain⟨h3,h4⟩:=R.bp h1;cases h4;simp only[Bool.and_eq_true] at h3;obtain⟨⟨⟨p1,p2⟩,s1⟩,s2⟩:=h3;obtain⟨as,r1⟩:=ra.reads I p1 rx;obtain⟨bs,r2⟩:=rb.reads I p2 ry;exact eq_dataH r1 r2 s1 s2 hu ⟨.bl _,H,I,rfl,bg.refl H,Rep.bl.mpr rfl⟩
theorem Ox(hu:X.A.units+64 < cLine):lG X (compareOp .NotEq) Pb:=by
 intro pins s σ H B da db d x y v u I hb rx ry ra rb hg;obtain⟨b,h1,h2⟩:=R.ak hg;cases h2;unfold Gb at h1;split at h1
 .cases h1;rename_i i j;have:=G3 pins s σ H x y v u (fun z H'=>bg H H'/\Rep X.K B H' (.bl (!decide (i=j))) z) I rx ry
  rw[Rep.int.mp ra,Rep.int.mp rb] at this;refine this ⟨rfl,bg.refl H,Rep.bl.mpr ?_⟩;simp [V.int.injEq]
 .cases h1;rename_i i j;have:=G3 pins s σ H x y v u (fun z H'=>bg H H'/\Rep X.K B H' (.bl (!decide (i=j))) z) I rx ry
  rw[Rep.str.mp ra,Rep.str.mp rb] at this;refine this ⟨rfl,bg.refl H,Rep.bl.mpr ?_⟩;simp [V.str.injEq]
 .cases h1;rename_i i j;have:=G3 pins s σ H x y v u (fun z H'=>bg H H'/\Rep X.K B H' (.bl (!decide (i=j))) z) I rx ry
  rw[Rep.bl.mp ra,Rep.bl.mp rb] at this;refine this ⟨rfl,bg.refl H,Rep.bl.mpr ?_⟩;simp [V.bl.injEq]
 .obtain⟨h3,h4⟩:=R.bp h1;cases h4;simp only[Bool.and_eq_true] at h3;obtain⟨⟨⟨p1,p2⟩,s1⟩,s2⟩:=h3;obtain⟨as,r1⟩:=ra.reads I p1 rx;obtain⟨bs,r2⟩:=rb.reads I p2 ry;exact ne_dataH r1 r2 s1 s2 hu ⟨.bl _,H,I,rfl,bg.refl H,Rep.bl.mpr rfl⟩
def strs?:List D->Option (List Str)
 | []=>some []
 | .str x ::ds=>(strs? ds).map (x ::·)
 | _ ::_=>none
theorem mE{K:W.Frag}{B:List Addr}:∀{ds:List D} {xs:List V} {ss:List Str},aG K B H ds xs->strs? ds=some ss->xs=ss.map V.str
 | [],xs,ss,r,h=>by unfold aG at r;subst r;cases h;rfl
 | d ::ds,xs,ss,r,h=>by
   obtain⟨x,r',rfl,r1,r2⟩:=r.cx;cases d with
   | str z=>
     unfold strs? at h;cases e:strs? ds with
     | none=>rw [e] at h;cases h
     | some tt=>
       rw[e] at h;cases h;rw[Rep.str.mp r1,mE r2 e];rfl
   | _=>cases h
def ints?:List D->Option (List Int)
 | []=>some []
 | .int x ::ds=>(ints? ds).map (x ::·)
 | _ ::_=>none
theorem j5{K:W.Frag}{B:List Addr}:∀{ds:List D} {xs:List V} {ss:List Int},aG K B H ds xs->ints? ds=some ss->xs=ss.map V.int
 | [],xs,ss,r,h=>by unfold aG at r;subst r;cases h;rfl
 | d ::ds,xs,ss,r,h=>by
   obtain⟨x,r',rfl,r1,r2⟩:=r.cx;cases d with
   | int z=>
     unfold ints? at h;cases e:ints? ds with
     | none=>rw [e] at h;cases h
     | some tt=>
       rw[e] at h;cases h;rw[Rep.int.mp r1,j5 r2 e];rfl
   | _=>cases h
def inD(d e:D):R Bool:=match d,e with
 | .str x, .lst ds=>(match strs? ds with | some ss=> .ok (ss.contains x) | none=> .no)
 | .str x, .tup ds=>(match strs? ds with | some ss=> .ok (ss.contains x) | none=> .no)
 | .str x, .str y=> .ok (!(Builtin.Str.occurrences y x 0 y.length 1).isEmpty)
 | .int x, .lst ds=>(match ints? ds with | some ss=> .ok (ss.contains x) | none=> .no)
 | .int x, .tup ds=>(match ints? ds with | some ss=> .ok (ss.contains x) | none=> .no)
 | _,_=> .no
def Ep(d e:D):R D:=(inD d e).bind fun b=> .ok (.bl b)
def tG(d e:D):R D:=(inD d e).bind fun b=> .ok (.bl (!b))
theorem wa(x:Str):∀ss:List Str,LS (.str x) (ss.map V.str)=ss.contains x
 | []=>rfl
 | y ::ss=>by
   unfold LS;rw[List.map_cons,List.any_cons];have ih:=wa x ss;unfold LS at ih;rw[ih];show(y==x || ss.contains x)=_
   rw[List.contains_cons];congr 1;exact Bool.eq_iff_iff.mpr ⟨fun h=>by simpa using(beq_iff_eq.mp h).symm,fun h=>by simpa using(beq_iff_eq.mp h).symm⟩
theorem vU(x:Int):∀ss:List Int,LS (.int x) (ss.map V.int)=ss.contains x
 | []=>rfl
 | y ::ss=>by
   unfold LS;rw[List.map_cons,List.any_cons];have ih:=vU x ss;unfold LS at ih;rw[ih];show(y==x || ss.contains x)=_
   rw[List.contains_cons];congr 1;exact Bool.eq_iff_iff.mpr ⟨fun h=>by simpa using(beq_iff_eq.mp h).symm,fun h=>by simpa using(beq_iff_eq.mp h).symm⟩
theorem yt(ss:List Int):(ss.map V.int).all nR=true:=by
 rw[List.all_map];simp [List.all_eq_true,nR]
theorem yz(ss:List Str):(ss.map V.str).all nR=true:=by
 rw[List.all_map];simp [List.all_eq_true,nR]
theorem IA{neg:Bool}{op:CmpOp}{g:D->D->R D}(h1:nk X (compareOp op) (SI X.K neg))(h2:nk X (compareOp op) (fun x y H Q=>∃i j,x= .str i/\y= .str j/\Q (.bl (if neg then !(!(Builtin.Str.occurrences j i 0 j.length 1).isEmpty) else(!(Builtin.Str.occurrences j i 0 j.length 1).isEmpty))) H))
 (hg:∀d e r,g d e= .ok r->∃b,inD d e= .ok b/\r= .bl (if neg then !b else b)):lG X (compareOp op) g:=by
 intro pins s σ H B da db d x y v u I hb rx ry ra rb hg';obtain⟨b,hi,rfl⟩:=hg da db d hg';unfold inD at hi;split at hi
 .rename_i z ds;split at hi
  .rename_i ss e;cases hi;obtain⟨a,xs,rfl,l,rs⟩:=Rep.lst.mp rb;refine h1 pins s σ H x _ v u _ I rx ry ⟨a,xs,rfl, .inl l.sq,by rw[Rep.str.mp ra];rfl,by rw[mE rs e];exact yz _,bg.refl H,Rep.bl.mpr ?_⟩
   rw[mE rs e,Rep.str.mp ra,wa]
  .cases hi
 .rename_i z ds;split at hi
  .rename_i ss e;cases hi;obtain⟨a,xs,rfl,l,rs⟩:=Rep.tup.mp rb;refine h1 pins s σ H x _ v u _ I rx ry ⟨a,xs,rfl, .inr l.sq,by rw[Rep.str.mp ra];rfl,by rw[mE rs e];exact yz _,bg.refl H,Rep.bl.mpr ?_⟩
   rw[mE rs e,Rep.str.mp ra,wa]
  .cases hi
 .cases hi;exact h2 pins s σ H x y v u _ I rx ry ⟨_,_,Rep.str.mp ra,Rep.str.mp rb,bg.refl H,Rep.bl.mpr rfl⟩
 .rename_i z ds;split at hi
  .rename_i ss e;cases hi;obtain⟨a,xs,rfl,l,rs⟩:=Rep.lst.mp rb;refine h1 pins s σ H x _ v u _ I rx ry ⟨a,xs,rfl, .inl l.sq,by rw[Rep.int.mp ra];rfl,by rw[j5 rs e];exact yt _,bg.refl H,Rep.bl.mpr ?_⟩
   rw[j5 rs e,Rep.int.mp ra,vU]
  .cases hi
 .rename_i z ds;split at hi
  .rename_i ss e;cases hi;obtain⟨a,xs,rfl,l,rs⟩:=Rep.tup.mp rb;refine h1 pins s σ H x _ v u _ I rx ry ⟨a,xs,rfl, .inr l.sq,by rw[Rep.int.mp ra];rfl,by rw[j5 rs e];exact yt _,bg.refl H,Rep.bl.mpr ?_⟩
   rw[j5 rs e,Rep.int.mp ra,vU]
  .cases hi
 .cases hi
theorem ID:lG X (compareOp .In) Ep:=IA (neg:=false) E_ Fe fun d e r h=>by
 obtain⟨b,h1,h2⟩:=R.ak h;cases h2;exact⟨b,h1,rfl⟩
theorem Dk:lG X (compareOp .NotIn) tG:=IA (neg:=true) zy y4 fun d e r h=>by
 obtain⟨b,h1,h2⟩:=R.ak h;cases h2;exact⟨b,h1,rfl⟩
def cb(d e:D):R D:=match d,e with
 | .lst ds, .int i=>(match sR ds i with | some x=> .ok x | none=> .no)
 | .tup ds, .int i=>(match sR ds i with | some x=> .ok x | none=> .no)
 | .str x, .int i=>R.bX (decide (x.length<=sizeLine)) (match sR x.cps.toList i with | some c=> .ok (.str ⟨#[c]⟩) | none=> .no)
 | _,_=> .no
theorem qQ{K:W.Frag}{B:List Addr}{ds:List D}{xs:List V}{i:Int}{d:D}(r:aG K B H ds xs)(h:sR ds i=some d):∃x,sR xs i=some x/\Rep K B H d x:=by
 unfold sR at h ⊢;rw[<-r.length];cases e:Bw ds.length i with
 | none=>rw [e] at h;cases h
 | some j=>
   rw[e] at h;exact r.get h
theorem QF(ha:PD X a fa)(hb:PD X b fb)(hs:va b):PD X (.Subscript a b pos) (e2 cb fa fb):=by
 refine(L6 (r:=Su X.K) GP ha hb hs).imp fun σ H Q ⟨Z,B,δ,d,E,hf,q⟩=>?_
 obtain⟨d1,h1,h2⟩:=R.ak hf;obtain⟨d2,h3,h4⟩:=R.ak h2;refine⟨Z,B,δ,d1,E,h1,fun v1 H1 s1 r1=>⟨Z,B,δ,d2,E.same s1,h3,fun v2 H2 s2 r2=>?_⟩⟩
 have r6:=r1.same s2;unfold cb at h4;split at h4
 .split at h4
  .rename_i e;cases h4;obtain⟨p,xs,rfl,l,rs⟩:=Rep.lst.mp r6;obtain⟨y,e1,e2⟩:=qQ rs e;exact .inl ⟨p,xs,_,y,rfl,Rep.int.mp r2,l.sq,e1,q y H2 (s1.trans s2) e2⟩
  .cases h4
 .split at h4
  .rename_i e;cases h4;obtain⟨p,xs,rfl,l,rs⟩:=Rep.tup.mp r6;obtain⟨y,e1,e2⟩:=qQ rs e;exact .inr (.inl ⟨p,xs,_,y,rfl,Rep.int.mp r2,l.sq,e1,q y H2 (s1.trans s2) e2⟩)
  .cases h4
 .obtain⟨hl,h5⟩:=R.bp h4;split at h5
  .rename_i e;cases h5;exact .inr (.inr ⟨_,_,_,Rep.str.mp r6,Rep.int.mp r2,of_decide_eq_true hl,e,q _ H2 (s1.trans s2) (Rep.str.mpr rfl)⟩)
  .cases h5
 .cases h4
abbrev FO:=aw->R (Option Int)
def Wt(K:W.Frag)(f:FO):TO:=fun σ H Q=>∃Z B δ o,eP K Z B H σ δ/\f δ= .ok o/\∀H',bg H H'->Q o H'
theorem PO.imp{X:Cx}{e:Option Expr}{t t':TO}(h:PO X e t)(w:∀σ H Q,t' σ H Q->t σ H Q):PO X e t':=fun pins s σ H Q I hq=>h pins s σ H Q I (w σ H Q hq)
abbrev PP(X:Cx)(e:Option Expr)(f:FO):Prop:=PO X e (Wt X.K f)
def wY:FO:=fun _=> .ok none
def qT(f:FD):FO:=fun δ=>(f δ).bind fun d=>match d with | .int i=> .ok (some i) | _=> .no
theorem Lj:PP X none wY:=J7.imp fun σ H Q ⟨Z,B,δ,o,E,hf,q⟩=>by cases hf;exact q H (bg.refl H)
theorem Kr(h:PD X e f):PP X (some e) (qT f):=(JY h).imp fun σ H Q ⟨Z,B,δ,o,E,hf,q⟩=>by
 obtain⟨d,h1,h2⟩:=R.ak hf;cases d with
 | int i=>cases h2;exact⟨Z,B,δ, .int i,E,h1,fun v H1 s1 r1=>⟨i,Rep.int.mp r1,q H1 s1⟩⟩
 | _=>cases h2
theorem Oq:LI X (fun x lo hi H Q=>∃z,x= .str z/\z.length<=sizeLine/\Q (.str (Txt.slice z lo hi)) H):=by
 intro pins s σ H x v vl vu lo hi sl Q I rx hs pl pu h;obtain⟨z,rfl,hz,q⟩:=h;obtain⟨t,rfl⟩:=rx;refine⟨"str",_,F.slot_str_getitem.lookup,typeIs_str _ _ _,?_⟩;have fin:∀t' k,EP X pins σ Q (.str (Txt.slice z lo hi) t') {s with toks:=k}:=fun t' k=>⟨.str _,H,I.tok _,⟨_,rfl⟩,q⟩
 obtain⟨o,ho,hc,hd⟩:=hs;cases pl with
 | none=>
   cases pu with
   | none=>exact wpAny_getItem_str_slice (l:=none) (u:=none) (st:=none) ⟨o,ho,hc,hd⟩ rfl (post_val_or_str ⟨Nat.le_trans (Txt.slice_le z _ _) hz,fin⟩)
   | int j u=>exact wpAny_getItem_str_slice (l:=none) (u:=some (j,u)) (st:=none) ⟨o,ho,hc,hd⟩ rfl (post_val_or_str ⟨Nat.le_trans (Txt.slice_le z _ _) hz,fin⟩)
 | int i t1=>
   cases pu with
   | none=>exact wpAny_getItem_str_slice (l:=some (i,t1)) (u:=none) (st:=none) ⟨o,ho,hc,hd⟩ rfl (post_val_or_str ⟨Nat.le_trans (Txt.slice_le z _ _) hz,fin⟩)
   | int j u=>exact wpAny_getItem_str_slice (l:=some (i,t1)) (u:=some (j,u)) (st:=none) ⟨o,ho,hc,hd⟩ rfl (post_val_or_str ⟨Nat.le_trans (Txt.slice_le z _ _) hz,fin⟩)
def cutD{α:Type}(xs:List α)(lo hi:Option Int):List α:=(xs.drop (HT.iA xs.length 0 lo)).take (HT.iA xs.length xs.length hi - HT.iA xs.length 0 lo)
def Pm(d:D)(lo hi:Option Int):R D:=match d with
 | .str x=>R.bX (decide (x.length<=sizeLine)) (.ok (.str (Txt.slice x lo hi)))
 | .lst ds=> .ok (.lst (cutD ds lo hi))
 | _=> .no
theorem zT{K:W.Frag}{B:List Addr}{ds:List D}{xs:List V}(r:aG K B H ds xs)(lo hi:Option Int):aG K B H (cutD ds lo hi) (z0 xs lo hi):=by
 unfold cutD z0;rw[<-r.length];exact(r.drop _).take _
def My(f:FD)(fl fh:FO):FD:=fun δ=>(f δ).bind fun d=>(fl δ).bind fun lo=>(fh δ).bind fun hi=>Pm d lo hi
theorem Qi{lo hi:Option Expr}{fl fh:FO}(he:PD X e f)(hl:PP X lo fl)(hh:PP X hi fh):PD X (.Subscript e (.Slice lo hi none p2) pos) (My f fl fh):=by
 refine(Al (Oq.or J9) he hl hh).imp fun σ H Q ⟨Z,B,δ,d,E,hf,q⟩=>?_
 obtain⟨d1,h1,h2⟩:=R.ak hf;obtain⟨l,h3,h4⟩:=R.ak h2;obtain⟨h,h5,h6⟩:=R.ak h4;refine⟨Z,B,δ,d1,E,h1,fun v1 H1 s1 r1=>⟨Z,B,δ,l,E.same s1,h3,fun H2 s2=>⟨Z,B,δ,h,(E.same s1).same s2,h5,fun H3 s3=>?_⟩⟩⟩
 have sA:bg H H3:=s1.trans (s2.trans s3);have r6:=r1.same (s2.trans s3);unfold Pm at h6;split at h6
 .obtain⟨hz,h7⟩:=R.bp h6;cases h7;exact .inl ⟨_,Rep.str.mp r6,of_decide_eq_true hz,q _ H3 sA (Rep.str.mpr rfl)⟩
 .cases h6;obtain⟨a,xs,rfl,ls,rs⟩:=Rep.lst.mp r6;refine .inr ⟨a,xs,rfl,ls.sq,fun p hp=>q _ _ (sA.trans (aP hp)) (Rep.lst.mpr ⟨p,_,rfl, .vj aV fun ha=>?_,(zT rs l h).same (aP hp)⟩)⟩
  obtain⟨o,ho⟩:=(E.same sA).bs p ha;rw[hp] at ho;cases ho
 .cases h6
end
end L2
end
section
namespace L2
open PySem PySem.Spec PyProof.Rows
section
variable {X:Cx}
theorem aG.one{K:W.Frag}{B:List Addr}{d:D}{xs:List V}(h:aG K B H [d] xs):∃x,xs=[x]/\Rep K B H d x:=by
 obtain⟨x,r,rfl,h1,h2⟩:=h.cx;unfold aG at h2;subst h2;exact⟨x,rfl,h1⟩
theorem aG.two{K:W.Frag}{B:List Addr}{d e:D}{xs:List V}(h:aG K B H [d,e] xs):∃x y,xs=[x,y]/\Rep K B H d x/\Rep K B H e y:=by
 obtain⟨x,r,rfl,h1,h2⟩:=h.cx;obtain⟨y,rfl,h3⟩:=h2.one;exact⟨x,y,rfl,h1,h3⟩
def iW:List D->R D
 | [.str x]=>R.bX (decide (x.length<=sizeLine)) (.ok (.int x.length))
 | [.lst ds]=> .ok (.int ds.length)
 | [.tup ds]=> .ok (.int ds.length)
 | _=> .no
theorem fY:gm X (.builtin "len") iW:=gm.of GG fun B H ds d xs Q _ rs hg q=>by
 unfold iW at hg;split at hg
 .obtain⟨h1,h2⟩:=R.bp hg;cases h2;obtain⟨x,rfl,r⟩:=rs.one;exact⟨x,_,rfl,by rw[Rep.str.mp r];exact⟨of_decide_eq_true h1,rfl⟩,q _ H (bg.refl H) (Rep.int.mpr rfl)⟩
 .cases hg;obtain⟨x,rfl,r⟩:=rs.one;obtain⟨a,ys,rfl,l,r⟩:=Rep.lst.mp r;exact⟨_,_,rfl, .inl ⟨ys,l.sq,rfl⟩,q _ H (bg.refl H) (Rep.int.mpr (by rw[r.length]))⟩
 .cases hg;obtain⟨x,rfl,r⟩:=rs.one;obtain⟨a,ys,rfl,l,r⟩:=Rep.tup.mp r;exact⟨_,_,rfl, .inr ⟨ys,l.sq,rfl⟩,q _ H (bg.refl H) (Rep.int.mpr (by rw[r.length]))⟩
 .cases hg
def cInt:List D->R D
 | [.int i]=> .ok (.int i)
 | [.bl b]=> .ok (.int (if b then 1 else 0))
 | _=> .no
def cStr:List D->R D
 | [.int i]=>R.bX (decide (i.natAbs.log2 < 1920)) (.ok (.str (toString i)))
 | _=> .no
def MC:List D->R D
 | [.int i, .int j]=> .ok (.int (if j < i then j else i))
 | _=> .no
theorem P9(hc:X.calm=true):gm X (.builtin "min") MC:=gm.of (E6 hc) fun B H ds d xs Q _ rs hg q=>by
 unfold MC at hg;split at hg
 .cases hg;obtain⟨x,y,rfl,r1,r2⟩:=rs.two;exact⟨_,_,by rw[Rep.int.mp r1,Rep.int.mp r2],q _ H (bg.refl H) (Rep.int.mpr rfl)⟩
 .cases hg
def So:List D->R D
 | [.int i, .int j]=> .ok (.int (if j > i then j else i))
 | _=> .no
def vZ:List D->R D
 | [.lst ds]=> .ok (.tup ds)
 | [.tup ds]=> .ok (.tup ds)
 | _=> .no
theorem yZ:gm X (.type "tuple") vZ:=gm.of xG fun B H ds d xs Q hb rs hg q=>by
 unfold vZ at hg;split at hg
 .cases hg;obtain⟨x,rfl,r⟩:=rs.one;obtain⟨a,ys,rfl,l,r⟩:=Rep.lst.mp r;refine⟨a,ys,rfl, .inl ⟨l.sq,fun p hp=>q _ _ (aP hp) (Rep.tup.mpr ⟨p,ys,rfl, .inl ⟨fun ha=>?_, .inl aV⟩,r.same (aP hp)⟩)⟩⟩
  obtain⟨o,ho⟩:=hb p ha;rw[hp] at ho;cases ho
 .cases hg;obtain⟨x,rfl,r⟩:=rs.one;have r0:=r;obtain⟨a,ys,rfl,l,r⟩:=Rep.tup.mp r;exact⟨a,ys,rfl, .inr ⟨l.sq,q _ H (bg.refl H) r0⟩⟩
 .cases hg
def yi:List D->R D
 | [.lst ds]=> .ok (.lst ds)
 | [.tup ds]=> .ok (.lst ds)
 | _=> .no
theorem zq:gm X (.type "list") yi:=gm.of rA fun B H ds d xs Q hb rs hg q=>by
 unfold yi at hg;split at hg
 .cases hg;obtain⟨x,rfl,r⟩:=rs.one;obtain⟨a,ys,rfl,l,r⟩:=Rep.lst.mp r;refine⟨a,ys,rfl, .inl l.sq,fun p hp=>q _ _ (aP hp) (Rep.lst.mpr ⟨p,ys,rfl, .vj aV fun ha=>?_,r.same (aP hp)⟩)⟩
  obtain⟨o,ho⟩:=hb p ha;rw[hp] at ho;cases ho
 .cases hg;obtain⟨x,rfl,r⟩:=rs.one;obtain⟨a,ys,rfl,l,r⟩:=Rep.tup.mp r;refine⟨a,ys,rfl, .inr l.sq,fun p hp=>q _ _ (aP hp) (Rep.lst.mpr ⟨p,ys,rfl, .vj aV fun ha=>?_,r.same (aP hp)⟩)⟩
  obtain⟨o,ho⟩:=hb p ha;rw[hp] at ho;cases ho
 .cases hg
def cAbs:List D->R D
 | [.int i]=> .ok (.int (if i < 0 then -i else i))
 | _=> .no
def WG:List D->R D
 | [.lst ds]=>(match ints? ds with | some ns=> .ok (.int ns.sum) | none=> .no)
 | _=> .no
theorem p8:∀{ns:List Int} {us:List Value},Vals (ns.map V.int) us->∃l:List (Int × Tok),us=l.map (fun p=>Value.int p.1 p.2)/\l.map (·.1)=ns
 | [],_, .nil=>⟨[],rfl,rfl⟩
 | n ::ns,_, .cons r t=>by
   obtain⟨l,rfl,e⟩:=p8 t;obtain⟨tk,rfl⟩:=r;exact⟨(n,tk) ::l,rfl,by rw[List.map_cons,e]⟩
def tyName:D->String
 | .cK=>"NoneType" | .bl _=>"bool" | .int _=>"int" | .str _=>"str" | .lst _=>"list" | .tup _=>"tuple" | .dct _ _=>"dict"
def WA(T:String)(f:FD):FD:=fun δ=>(f δ).bind fun d=>R.bX (tyName d==T && d.atom) (.ok (.bl true))
def YK(X:Cx)(id:String)(g:D->List D->R D):Prop:=
 ∀(pins:List (Addr × Obj)) (s:Shared) (σ:St) (H:Hp) (B:List Addr) (da d:D) (ds:List D) (x:V) (xs:List V) (v:Value) (us:List Value),Inv X pins σ H s->(∀a∈B,∃o,H a=some o)->RelV x v->Vals xs us->Rep X.K B H da x->aG X.K B H ds xs->g da ds= .ok d->
  wpAny (model X.prog X.w) X.A (call (.builtin id) (v ::us)) (EP X pins σ fun z H'=>bg H H'/\Rep X.K B H' d z) X.xe s
def Yq(T:String)(g:D->List D->R D)(f:FD)(fs:aw->R (List D)):FD:=fun δ=>(f δ).bind fun d=>R.bX (tyName d==T && (d.atom || T=="list")) ((fs δ).bind fun ds=>g d ds)
def U9(d:D)(ds:List D):R D:=match d,ds with
 | .str sep,[.lst es]=>(match strs? es with | some ss=>R.bX (JoinOk sep ss) (.ok (.str (Str.join sep ss))) | none=> .no)
 | _,_=> .no
abbrev PJ(X:Cx)(es:List Expr)(f:aw->R (List Str)):Prop:=
 ∀(pins:List (Addr × Obj)) (s:Shared) (σ:St) (H:Hp) (Z B:List Addr) (δ:aw) (acc:Str) (ss:List Str) (Q:VK),Inv X pins σ H s->eP X.K Z B H σ δ->f δ= .ok ss->(ss.foldl (·++·) acc).length<=sizeLine->(∀H',bg H H'->Q (.str (ss.foldl (·++·) acc)) H')->
  wpAny (model X.prog X.w) X.A (joinParts acc (evalEach es X.env)) (EP X pins σ Q) X.xe s
def Wi:aw->R (List Str):=fun _=> .ok []
def UQ(f:FD)(g:aw->R (List Str)):aw->R (List Str):=fun δ=>(f δ).bind fun d=>match d with | .str x=>(g δ).bind fun ss=> .ok (x ::ss) | _=> .no
def RG(g:aw->R (List Str)):FD:=fun δ=>(g δ).bind fun ss=>R.bX (decide ((ss.foldl (·++·) Str.empty).length<=sizeLine)) (.ok (.str (ss.foldl (·++·) Str.empty)))
def Sj:D->R D
 | .str x=>R.bX (decide (x.length<=sizeLine)) (.ok (.str x))
 | .int i=>R.bX (decide (i.natAbs.log2 < 1920)) (.ok (.str (toString i)))
 | _=> .no
def Wh(f:FD):FD:=fun δ=>(f δ).bind Sj
def Qb:List (D × D)->Str->R (Option D)
 | [],_=> .ok none
 | (.str y,d) ::r,x=>(Qb r x).bind fun o=> .ok (match o with | some e=>some e | none=>if y=x then some d else none)
 | _ ::_,_=> .no
def P1(x:Str):List D:=x.cps.toList.map fun c=> .str ⟨#[c]⟩
def YH(x:Str):It:=⟨fun i _=>i < x.cps.size,fun i H v H'=>H'=H/\∃c,x.cps[i]? =some c/\v= .str ⟨#[c]⟩,fun i _=>x.cps.size<=i⟩
def U8(f:FD):aw->R (List D):=fun δ=>(f δ).bind fun d=>match d with | .str x=> .ok (P1 x) | _=> .no
def Wx(K:W.Frag)(a:Addr):It:=
 ⟨fun i H=>∃xs x,pV K H a xs/\xs[i]? =some x,fun i H v H'=>∃p x,H p=none/\v= .ref p/\(∀xs,pV K H a xs->xs[i]? =some x)/\H'=upd H p (.tup [.int i,x]),fun i H=>∃xs,pV K H a xs/\xs.length<=i⟩
theorem FR{K:W.Frag}{k:Nat}(a e it:Addr)(Pk:e≠it):Turn P w K (.Tuple elts k pos) (Wx K a) [e,it] e (fun i h=>(∃old,IsEnum h e it ((i:Nat):Int) old)/\h.IsListIter it a i) where
 mem:=by simp
 obj:=fun i h st b hb=>by
  obtain⟨⟨old,he⟩,o,ho,c,d⟩:=st;rcases List.mem_cons.mp hb with rfl | hb
  .exact⟨_,he,fun v z=>by cases z⟩
  .have e:b=it:=by simpa using hb
   subst e;exact⟨o,ho,fun v z=>by rw[d] at z;cases z⟩
 keep:=fun i h h' st k=>by
  obtain⟨⟨old,he⟩,hi⟩:=st;exact⟨⟨old,k e (by simp) _ he⟩,hi.at fun o x=>k it (by simp) o x⟩
 item:=by
  intro X hP hw hK hc i pins s σ H E I hf st hg;subst hP hw hK;obtain⟨xs,x,hq,hx⟩:=hg;obtain⟨its,rv,p,hz⟩:=I.list hq;obtain⟨u,hu,ru⟩:=rv.get hx;obtain⟨⟨old,he⟩,hit⟩:=st;obtain⟨f0,f1,f2,f3,f4,f5⟩:=hf e (by simp)
  obtain⟨g0,g1,g2,g3,g4,g5⟩:=hf it (by simp)
  refine wpAny_pyNext_enum_item he hit p.isList (x:=u) (by simpa using hu) Pk fun jT JA C6 Jg qa yN=>⟨_,rfl,?_⟩
  refine wpAny_letOwnedTupleGo_enum JA fun gR Jn di=>?_
  replace di:Heap.SameBut e jT gR:=di
  have hel:e < s.heap.objs.size:=Heap.lt_size he;have Bt:gR.get? s.heap.objs.size=some {cls:= .type "tuple",data:= .seq #[.int i s.toks,u]}:=(di.2 _ (Nat.ne_of_gt hel)).trans Jg;have kk:∀b o,b≠e->b≠it->s.heap.get? b=some o->gR.get? b=some o:=fun b o h1 h2 q=>(di.2 b h1).trans (yN b o h1 h2 q)
  have hn:H s.heap.objs.size=none:=I.fresh;have sm:bg H (upd H s.heap.objs.size (.tup [.int i,x])):=aP hn;have nit:∀b o,H b=some o->b≠e/\b≠it:=fun b o q=>⟨fun z=>(by rw[z,f0] at q;cases q),fun z=>(by rw[z,g0] at q;cases q)⟩
  have hok:pN X.prog X.w (upd H s.heap.objs.size (.tup [.int i,x])) gR:=fun b ob q=>by
   by_cases hb:b=s.heap.objs.size
   .subst hb;rw[aV] at q;cases q;exact⟨by show 2<=sizeLine;decide,[.int i s.toks,u], .cons ⟨_,rfl⟩ (.cons ru .nil),⟨_,Bt,rfl,_,rfl⟩⟩
   .rw [br hb] at q;refine(I.hok b ob q).zx (fun c v hc z=>?_) (fun c z=>sm c _ z) fun c ys z=>sm c _ z
    rcases hc with rfl | hc
    .exact kk c v (nit c _ q).1 (nit c _ q).2 z
    .exact kk c v (nit c _ hc).1 (nit c _ hc).2 z
  have nch:∀b,b ∉ [e,it]->b≠e/\b≠it:=fun b hb=>⟨fun z=>hb (by simp [z]),fun z=>hb (by simp [z])⟩
  have I2:Inv X pins σ (upd H s.heap.objs.size (.tup [.int i,x])) {s with heap:=gR,toks:=s.toks+1}:=by
   refine I.step (g':=s.gens) (d':=s.drawn) (ch:=[e,it]) (fun b hb=>?_) (fun b o _ _ hb q _=>kk b o (nch b hb).1 (nch b hb).2 q) (fun b o _ _ hb q _=>⟨o.slots,kk b o (nch b hb).1 (nch b hb).2 q⟩)
    (fun b o hb q n=>by rw[br (Nat.ne_of_lt (Heap.lt_size q))];exact n) (fun b o hb q=>⟨o,kk b o (nch b hb).1 (nch b hb).2 q⟩) (fun b ys z=>sm b _ z) (fun b o u z=>sm b _ z) (fun b ps z=>⟨#[],by rw[sm b _ z];simp⟩) (fun m hm=>?_) hok I.bare
   .rcases List.mem_cons.mp hb with rfl | hb
    .exact⟨f3,f1,f4,f5⟩
    .have z:b=it:=by simpa using hb
     subst z;exact⟨g3,g1,g4,g5⟩
   .obtain⟨o,es,ep,ho,r⟩:=hm;exact⟨o,es,ep,kk _ o (Ne.symm f1) (Ne.symm g1) ho,r⟩
  refine⟨.ref s.heap.objs.size,_,I2,rfl,⟨s.heap.objs.size,x,hn,rfl,fun ys hy=>(by rw[I.q9 hy hq];exact hx),rfl⟩,⟨⟨_,by simpa using Jn⟩,C6.at fun o q=>(di.2 it (Ne.symm Pk)).trans q⟩,fun b hb=>?_⟩
  rcases List.mem_cons.mp hb with rfl | hb
  .rw [br (Nat.ne_of_lt hel)];exact f0
  .have z:b=it:=by simpa using hb
   subst z;obtain⟨o,ho,_⟩:=hit;rw[br (Nat.ne_of_lt (Heap.lt_size ho))];exact g0
 done:=by
  intro X hP hw hK hc i pins s σ H E I hf st hg;subst hP hw hK;obtain⟨xs,hq,hx⟩:=hg;obtain⟨its,rv,p,hz⟩:=I.list hq;obtain⟨⟨old,he⟩,hit⟩:=st;obtain⟨g0,g1,g2,g3,g4,g5⟩:=hf it (by simp)
  have hl:=rv.length;exact wpAny_pyNext_enum_end (I.ok.hd hc) he hit p.isList (by simp;omega) fun h' eb=>⟨rfl,I.turned (t':=s.toks) (fun b o hb q=>eb b o hb q) g0 g1 g3 g4 g5⟩
 self:=fun A i s Q E st h=>let⟨⟨_,he⟩,_⟩:=st;wpAny_pyIter_enum he h
def cH(ds:List D):List D:=ds.zipIdx.map fun p=> .tup [.int p.2,p.1]
def eO(f:FD):aw->R (List D):=fun δ=>(f δ).bind fun d=>match d with | .lst ds=> .ok (cH ds) | _=> .no
theorem z6{elts:List Expr}{k:Nat}{tP:Pos}{p pos:Pos}(h:PD X a f)(hg:Gl X "enumerate")(hm:X.mg "enumerate"=none)(hs:starEach [a] X.env=[(false,eval a X.env)]:=by rfl):O2 X (.Tuple elts k tP) (.Call (.Name "enumerate" p) [a] [] pos) (eO f):=by
 intro pins s σ H RR I ⟨Z,B,δ,ds,E,hf,q⟩;obtain⟨d,h1,h2⟩:=R.ak hf;have hA:=dF h gI hs pos pins s σ H (fun vs H1=>bg H H1/\∃v,vs=[v]/\Rep X.K B H1 d v) I ⟨Z,B,δ,d,E,h1,fun v H1 s1 r1=>⟨s1,v,rfl,r1⟩⟩
 refine Call_ (nA I hg hm boot_enumerate (PyProof.Rows.callWith_type1 (dR hA fun us s1 ⟨vs,H1,I1,r1,ss,v,ev,rr⟩=>?_) hs rfl))
 subst ev;obtain⟨u,rfl,ru⟩:=vals1 r1;cases d with
 | lst es=>
   cases h2;obtain⟨b,xs,rfl,l,rs⟩:=Rep.lst.mp rr;cases ru;obtain⟨its,n,rv,e1,hz⟩:=I1.LM l;refine call_enumerate_list (items:=its.toArray) ⟨_,e1,rfl,n,rfl⟩ fun h' he hit hsz kk=>wpAny_pyIter_enum he ?_
   have I2:Inv X pins σ H1 {s1 with heap:=h'}:=I1.kept (t':=s1.toks) kk
   refine⟨s1.heap.objs.size+1,[s1.heap.objs.size+1,s1.heap.objs.size],_,_,H1,rfl,I2,FR b (s1.heap.objs.size+1) s1.heap.objs.size (Nat.succ_ne_self _),⟨⟨_,he⟩,hit⟩,fun c hc=>?_,q _ H1 ss fun B' H' pr=>?_⟩
   .have hle:s1.heap.objs.size<=c:=by
     rcases List.mem_cons.mp hc with z | hc
     .rw [z];exact Nat.le_succ _
     .have z:c=s1.heap.objs.size:=by simpa using hc
      rw[z];exact Nat.le_refl _
    exact I1.wJ hle (I1.hok.fresh hle)
   .have l':wj X.K B' H' b xs:=l.bu pr;have rs':=rs.bu pr;refine⟨fun i d hd=>?_,⟨xs,l'.sq,by rw[<-rs.length];unfold cH;simp⟩⟩
    unfold cH at hd;rw[List.getElem?_map,List.getElem?_zipIdx] at hd;cases e:es[i]? with
    | none=>rw [e] at hd;cases hd
    | some d0=>
      rw[e] at hd;have hd:D.tup [.int ((0+i:Nat):Int),d0]=d:=Option.some.inj hd;rw[Nat.zero_add] at hd;obtain⟨x,hx,rx⟩:=rs'.get e;refine⟨⟨xs,x,l'.sq,hx⟩,fun v n_ y Jc=>?_⟩
      obtain⟨p,y,hp,rfl,hy,rfl⟩:=y;refine⟨aP hp,?_⟩;subst hd;have zM:=hy xs l'.sq;rw[hx] at zM;cases zM;refine Rep.tup.mpr ⟨p,_,rfl, .inl ⟨fun ha=>?_, .inl aV⟩,aG.cons (Rep.int.mpr rfl) (aG.cons (rx.same (aP hp)) aG.nil)⟩
      obtain⟨o,ho⟩:=Jc p ha;rw[hp] at ho;cases ho
 | _=>cases h2
end
end L2
end
section
namespace L2
open PySem PySem.Spec PyProof.Rows
def Def(K:W.Frag)(mg:Str->Option Value)(x:Str)(st:Stmt):Prop:=∃f fd,EA K x x st f fd/\mg x=some (.ref f)
def Callee(P:Program)(w:World)(K:W.Frag)(mg:Str->Option Value)(base:Heap)(k:Nat)(x:Str)(n:Nat)(g:List D->R D):Prop:=
 ∃f fd ps,jI P w K mg base xn k f fd ps (Ih K n g)/\mg x=some (.ref f)/\PySem.W.keepIn K (.ref f)=true/\Binds K fd ps []
theorem cU:∀(δ:aw) (ds:List D),bb δ= .ok ds->ds.length=0:=fun δ ds h=>by cases h;rfl
theorem bz{g:aw->R (List D)}{n:Nat}(h:∀(δ:aw) (ds:List D),g δ= .ok ds->ds.length=n):∀(δ:aw) (ds:List D),az f g δ= .ok ds->ds.length=n+1:=fun δ ds e=>by
 obtain⟨d,h1,h2⟩:=R.ak e;obtain⟨es,h3,h4⟩:=R.ak h2;cases h4;rw[List.length_cons,h δ es h3]
theorem HU{P:Program}{w:World}{K:W.Frag}{mg:Str->Option Value}{base:Heap}{x qual:Str}{st:Stmt}{f:Addr}{fd:FuncData}{N ps:List Str}{k:Nat}{F:FS}{b:List Stmt}{sc:Scope}(hb:aM st=b)(hs:aC st=sc)(Fn:EA K x qual st f fd)(S:aW N ps sc)
 (mS:∀(dJ:Value) (A:Around) (outer:List Env) (s:Shared) (H:Hp) (E:XK),eX k (A.deeper (envOfC qual sc s.heap.objs.size f dJ))->
   uN (vz xn P w K mg base N qual sc f dJ A outer s H E).Li b F):jI P w K mg base xn (k+1) f fd ps (Ih K ps.length (xp N F)):=by
 subst hb hs;exact Lg Fn S mS
section
variable {X:Cx}
theorem HZ{g:List D->R D}{k j n:Nat}{x:Str}{p pos:Pos}{e:Expr}{es:List Expr}{fs:aw->R (List D)}(C:Callee X.prog X.w X.K X.mg X.base k x n g)(hr:eX j X.A)(Ji:k<=j)(hg:Gl X x)(ha:Js X (e ::es) fs)
 (hn:∀δ ds,fs δ= .ok ds->ds.length=n) (qP:(x==("__debug__":Str))=false:=by decide) (he:starEach (e ::es) X.env=(false,eval e X.env) ::starEach es X.env:=by rfl) (lT:(backTo pos (starEach es X.env)).any (·.1)=false:=by rfl) :
 PD X (.Call (.Name x p) (e ::es) [] pos) (bw g fs):=by
 obtain⟨f,fd,ps,F,hm,hk,hb⟩:=C;exact J4 F (hr.mono Ji) hg hm hk hb ha hn qP he lT
def Pr(sc:Scope)(N:List Str)(scope:Scope)(kp:List Nat)(kn:List Str):Bool:=
 decide (scope.kind= .function) && scope.names.all (fun y=>decide (y.2≠ .cell)) && scope.names.all (fun y=>decide (y.2= .local->scope.names.lookup y.1=some .local))
  && scope.names.all (fun y=>decide (y.2= .free->(sc.names.lookup y.1=some .cell\/sc.names.lookup y.1=some .free))) && decide (kn.length=kp.length)
  && (List.range kp.length).all (fun j=>decide ((kp[j]?).bind (N[·]?)=kn[j]?)) && kn.all (fun x=>decide (scope.names.lookup x=some .free))
theorem bO.of{own:List Str}{kp:List Nat}{kn:List Str}{N:List Str}(h1:X.env.scope=sc)(h2:X.N=N)(h:Pr sc N scope kp kn=true):bO X scope own kp kn:=by
 unfold Pr at h;simp only[Bool.and_eq_true,decide_eq_true_eq,List.all_eq_true] at h;obtain⟨⟨⟨⟨⟨⟨a1,a2⟩,a3⟩,a4⟩,a5⟩,a6⟩,a7⟩:=h;refine⟨a1,a2,a3,fun y hy hf=>?_,a5,fun j i x hj hx=>?_,a7⟩
 .have:=a4 y hy hf;unfold Env.kindOf;rw[h1];exact this
 .have hlt:j < kp.length:=(List.getElem?_eq_some_iff.mp hj).1;have:=a6 j (List.mem_range.mpr hlt);rw[hj] at this;rw[h2];exact this.trans hx
def M0(kvs:List (Key × V))(f g:FD):FD:=fun δ=>(f δ).bind fun k=>(g δ).bind fun d=>match k with
 | .str x=>(match lM (lN [] kvs) (Sum.inr x) with | some (.int i)=> .ok (.int i) | none=> .ok d | _=> .no)
 | _=> .no
theorem NS{keys:List (Option Expr)}{values:List Expr}{Bp:List (TE × TE)}{zC apos cB:Pos}{e f:Expr}{fe ff:FD}{kvs:List (Key × V)}(hu:X.A.units+1 < cLine)(h:Pa X zC keys values Bp)(xV:keys.all (·.isSome)=true)(hl:keys.length=values.length)(h0:keys≠[])
 (hc:∀σ H Q,Q (kvs.map fun kv=>(kV kv.1,kv.2)) H->wI Bp σ H Q) (hlen:kvs.length<=15) (he:PD X e fe) (hf:PD X f ff) (m:M2 X (.Dict keys values zC) "get" apos e f cB)
 (hd:PE X (.Dict keys values zC) (Hw Bp)):PD X (.Call (.Attribute (.Dict keys values zC) "get" apos) [e,f] [] cB) (M0 kvs fe ff):=by
 refine(Gu hu hd he hf m).imp fun σ H Q ⟨Z,B,δ,d,E,hfd,q⟩=>?_
 obtain⟨k,h1,h2⟩:=R.ak hfd;obtain⟨dd,h3,h4⟩:=R.ak h2;intro p hp;refine hc σ _ _ ⟨aV,kvs,rfl,hlen,p,rfl, .inl ⟨_, .inl aV⟩,?_⟩;rw[Lp];have s0:bg H (upd H p (.dK (lN [] kvs))):=aP hp;refine⟨Z,B,δ,k,E.same s0,h1,fun v1 H1 s1 r1=>⟨Z,B,δ,dd,(E.same s0).same s1,h3,fun v2 H2 s2 r2=>?_⟩⟩
 have hH2:H2 p=some (.dK (lN [] kvs)):=s2 p _ (s1 p _ aV);have sA:bg H H2:=s0.trans (s1.trans s2);split at h4
 .rename_i x;refine⟨lM (lN [] kvs) (Sum.inr x),?_,?_⟩
  .rw [Rep.str.mp r1];exact uC.k (k:=Sum.inr x) hH2
  .split at h4
   .rename_i i e1;cases h4;rw[e1];exact q _ H2 sA (Rep.int.mpr rfl)
   .rename_i e1;cases h4;rw[e1];exact q _ H2 sA r2
   .cases h4
 .cases h4
theorem BN:SJ X "list.extend" (fun x vs H Q=>∃l b xs zs,x= .ref l/\vs=[.ref b]/\H l=some (.lst xs)/\(∃B,wj X.K B H b zs)/\xs.length+zs.length<=sizeLine/\Q .cK (upd H l (.lst (xs++zs)))):=by
 intro pins s σ H x vs v us Q I rx rv h;obtain⟨l,b,xs,zs,rfl,rfl,hH,⟨_,hB⟩,hz,q⟩:=h;cases rx;obtain⟨u,rfl,ru⟩:=rv.one;cases ru;obtain⟨z,its,n,r,hl,e⟩:=I.Gh hH;obtain⟨rZ,n2,r2,e2,z2⟩:=I.LM hB;have F7:=r2.length;have hsz:its.toArray.size+rZ.toArray.size<=sizeLine:=by rw[List.size_toArray,List.size_toArray];omega
 have hlong:¬(!its.toArray.isEmpty && Builtin.List.listTooLong (its.toArray.size+rZ.toArray.size))=true:=by
  rw[wc hsz,Bool.and_false];exact Bool.false_ne_true
 refine call_meets F.slot_list_extend ⟨_,e,rfl⟩ F.entry_list_extend (F.args_list_extend_2 _ _)
  (AutoSeq1.list_extend_list_list_0 l its.toArray n b rZ.toArray n2 hlong (by rw[List.size_toArray];omega) (by omega)) ⟨e,e2,?_⟩
 refine⟨.cK,_,I.M7 (its':=its++rZ) hH e (by simp) (r.append r2) ?_,rfl,q⟩
 rw[List.length_append];omega
def Vk(i:Nat)(f:FD):FS:=fun δ=>(f δ).bind fun d=>match d with
 | .lst es=>(wq δ i).bind fun ds=>R.bX (decide (ds.length+es.length<=sizeLine)) (.ok (.nx (δ.set i (.bld (ds++es)))))
 | _=> .no
end
end L2
end
section
namespace L2
open PySem PySem.Spec PyProof.Rows
structure QD (X:Cx) (e:Expr) (f:FD):Prop where
 h:PD X e f
structure QN (X:Cx) (e:Expr) (f:aw->R (List D)):Prop where
 h:PN X e f
structure QB (X:Cx) (e:Expr) (f:aw->R Bool):Prop where
 h:PB X e f
structure Rv (X:Cx) (e:Expr) (f:aw->R Bool):Prop where
 h:Nv X e f
structure LU (X:Cx) (e:List Expr) (f:aw->R (List D)):Prop where
 h:Js X e f
structure Ju (X:Cx) (e:Stmt) (f:FS):Prop where
 h:GV X e f
structure xH (X:Cx) (e:List Stmt) (f:FS):Prop where
 h:uN X e f
structure MV (X:Cx) (e:Expr) (f:FT):Prop where
 h:Nx X e f
structure JX (X:Cx) (e:List Expr) (f:Iz):Prop where
 h:GC X e f
structure Bu (X:Cx) (tg e:Expr) (f:aw->R (List D)):Prop where
 h:O2 X tg e f
structure QP (X:Cx) (e:Option Expr) (f:FO):Prop where
 h:PP X e f
structure QJ (X:Cx) (e:List Expr) (f:aw->R (List Str)):Prop where
 h:PJ X e f
structure JM (X:Cx) (e:List Expr) (c:aw->R Bool):Prop where
 h:r_ X e (NF X.K c)
section
variable {X:Cx}
theorem bR{f:aw->R (List D)}(h:QN X e f):QD X e (eNew f):=⟨Oe h.1⟩
theorem aa(i:Nat){pos:Pos}(hN:X.N[i]? =some x:=by rfl)(hv:Hz X.env.scope x:=by first | exact Or.inl rfl | exact Or.inr (Or.inl rfl) | exact Or.inr (Or.inr rfl))(hd:(x==("__debug__":Str))=false:=by decide)(tI:(x==("__classdict__":Str))=false:=by decide):QD X (.Name x pos) (ab i):=⟨Oz i hN hv hd tI⟩
theorem aj{i j pos}:QD X (.Constant (.int i) j pos) (eC (.int i)):=⟨MY⟩
theorem vT{b j pos}:QD X (.Constant (.bool b) j pos) (eC (.bl b)):=⟨QM⟩
theorem rB{j pos}:QD X (.Constant .none j pos) (eC .cK):=⟨MR⟩
theorem bS{x j pos}:QD X (.Constant (.str x) j pos) (eC (.str x)):=⟨MF⟩
theorem aq:LU X [] bb:=⟨JI⟩
theorem af{g:aw->R (List D)}(h:QD X e f)(t:LU X es g)(hs:starEach (e ::es) X.env=(false,eval e X.env) ::starEach es X.env:=by rfl):LU X (e ::es) (az f g):=⟨Hl h.1 t.1 hs⟩
theorem cG{g:aw->R (List D)}{x1 pos}(h:LU X es g):QD X (.Tuple es x1 pos) (il g):=⟨Nq h.1⟩
theorem bK{g:aw->R (List D)}{pos}(h:LU X es g):QN X (.List es pos) (eB g):=⟨Ow h.1⟩
theorem aD{op:Operator}{g:D->D->R D}(ho:lG X (binaryOp op) g)(ha:QD X a fa)(hb:QD X b fb):QD X (.BinOp a op b pos) (e2 g fa fb):=⟨Pq ho ha.1 hb.1⟩
theorem zt{op:CmpOp}{g:D->D->R D}(ho:lG X (compareOp op) g)(ha:QD X a fa)(hb:QD X b fb)(hm:behindInMarks op b=false):QD X (.Compare a [op] [b] pos) (e2 g fa fb):=⟨NV ho ha.1 hb.1 hm⟩
theorem bt{op:CmpOp}{g:D->D->R D}(ho:lG X (compareOp op) g)(ha:QD X a fa)(hb:QD X b fb)(hm:behindInMarks op b=false):QB X (.Compare a [op] [b] pos) (b2 g fa fb):=⟨M6 ho ha.1 hb.1 hm⟩
theorem nu{a:Expr}(ha:QD X a f)(he:∀whole,isTrue a X.env whole=(do let v <-whole;standAt a.pos;holding [v] (truthy v)):=by intro _;rfl):QB X a (rF f):=⟨NK ha.1 he⟩
theorem DI{f:aw->R Bool}(h:Rv X e f):QB X e f:=⟨Nv.pb h.1⟩
theorem A0{f:aw->R Bool}(h:QB X a f):Rv X (.BoolOp .Or [a] pos) f:=⟨Kc h.1⟩
theorem D1{rest:List Expr}{f g:aw->R Bool}(ha:QB X a f)(hb:Rv X (.BoolOp .Or (b ::rest) pos) g):Rv X (.BoolOp .Or (a ::b ::rest) pos) (O8 f g):=⟨N0 ha.1 hb.1⟩
theorem q8{f:aw->R Bool}(ha:QB X a f):QB X (.UnaryOp .Not a pos) (xw f):=⟨Om ha.1⟩
theorem BK{fc:aw->R Bool}(hc:QB X c fc)(ha:QD X a f)(hb:QD X b g):QD X (.IfExp c a b pos) (MZ fc f g):=⟨Qx hc.1 ha.1 hb.1⟩
theorem bx{g:List D->R D}{id:String}{p pos:Pos}{fs:aw->R (List D)}(hc:gm X (.builtin id) g)(hg:Gl X x)(hm:X.mg x=none)(hv:bootBuiltins x=some (.builtin id))(ha:LU X (e ::es) fs)(hn:x≠"__name__":=by decide)(qP:(x==("__debug__":Str))=false:=by decide)(he:starEach (e ::es) X.env=(false,eval e X.env) ::starEach es X.env:=by rfl)(lT:(backTo pos (starEach es X.env)).any (·.1)=false:=by rfl):QD X (.Call (.Name x p) (e ::es) [] pos) (bw g fs):=⟨Hb hc hg hm hv ha.1 hn qP he lT⟩
theorem iJ{g:List D->R D}{T:String}{p pos:Pos}{fs:aw->R (List D)}(hc:gm X (.type T) g)(hg:Gl X x)(hm:X.mg x=none)(hv:bootBuiltins x=some (.type T))(ha:LU X (e ::es) fs)(hn:x≠"__name__":=by decide)(qP:(x==("__debug__":Str))=false:=by decide)(he:starEach (e ::es) X.env=(false,eval e X.env) ::starEach es X.env:=by rfl)(lT:(backTo pos (starEach es X.env)).any (·.1)=false:=by rfl):QD X (.Call (.Name x p) (e ::es) [] pos) (bw g fs):=⟨E5 hc hg hm hv ha.1 hn qP he lT⟩
theorem kB:xH X [] zp:=⟨J_⟩
theorem b3{st:Stmt}{rest:List Stmt}{F G:FS}(h1:Ju X st F)(h2:xH X rest G):xH X (st ::rest) (iV F G):=⟨Hx h1.1 h2.1⟩
theorem bA{st:Stmt}{F:FS}(h1:Ju X st F):xH X [st] F:=⟨JF h1.1⟩
theorem ie{i:Nat}{pos pos':Pos}(hN:X.N.Nodup)(hi:X.N[i]? =some x)(hx:Loc X.env.scope x)(he:QD X e f)(hs:swapsWith e (some (.Name x pos')) pos.line X.env=pure false:=by rfl)(hf:X.fn x=true\/X.env.scope.names.lookup x=some .local:=by first | exact .inl rfl | exact .inr rfl | assumption):Ju X (.Assign [.Name x pos'] e pos) (rp i f):=⟨Kp hN hi hx he.1 hs hf⟩
theorem A7{i:Nat}{f:aw->R (List D)}{pos pos':Pos}(hN:X.N.Nodup)(hi:X.N[i]? =some x)(hx:Loc X.env.scope x)(he:QN X e f)(hs:swapsWith e (some (.Name x pos')) pos.line X.env=pure false:=by rfl)(hf:X.fn x=true\/X.env.scope.names.lookup x=some .local:=by first | exact .inl rfl | exact .inr rfl | assumption):Ju X (.Assign [.Name x pos'] e pos) (B8 i f):=⟨Lo hN hi hx he.1 hs hf⟩
theorem H_{i:Nat}{x:Str}{e:Expr}{f:FD}{fP apos cB pos:Pos}(hN:X.N[i]? =some x)(hv:Hz X.env.scope x)(he:QD X e f)(hd:(x==("__debug__":Str))=false:=by decide)(tI:(x==("__classdict__":Str))=false:=by decide)(hs:starEach [e] X.env=(false,eval e X.env) ::starEach [] X.env:=by rfl)(mQ:(apos.endLine==cB.line)=true:=by rfl)(tV:((backTo cB (starEach [e] X.env)).all (fun x=>!x.1) && (backToKw cB (keywordEach [] X.env)).all (fun x=>x.1.isSome)
 && decide (([e]:List Expr).length+([]:List Keyword).length+(if([]:List Keyword).isEmpty then 0 else 1) < 30))=true:=by rfl) (Br:swapsWith (.Call (.Attribute (.Name x fP) "append" apos) [e] [] cB) none pos.line X.env=pure false:=by rfl) (mR:attributeBase (.Name x fP) "append" X.env (eval (.Name x fP) X.env)=eval (.Name x fP) X.env:=by rfl):Ju X (.Expr (.Call (.Attribute (.Name x fP) "append" apos) [e] [] cB) pos) (Hi i f):=⟨J3 hN hv he.1 hd tI hs mQ tV Br mR⟩
theorem GK{i:Nat}{x:Str}{e:Expr}{f:aw->R (List D)}{fP apos cB pos:Pos}(hN:X.N[i]? =some x)(hv:Hz X.env.scope x)(he:QN X e f)(hd:(x==("__debug__":Str))=false:=by decide)(tI:(x==("__classdict__":Str))=false:=by decide)(hs:starEach [e] X.env=(false,eval e X.env) ::starEach [] X.env:=by rfl)(mQ:(apos.endLine==cB.line)=true:=by rfl)(tV:((backTo cB (starEach [e] X.env)).all (fun x=>!x.1) && (backToKw cB (keywordEach [] X.env)).all (fun x=>x.1.isSome)
 && decide (([e]:List Expr).length+([]:List Keyword).length+(if([]:List Keyword).isEmpty then 0 else 1) < 30))=true:=by rfl) (Br:swapsWith (.Call (.Attribute (.Name x fP) "extend" apos) [e] [] cB) none pos.line X.env=pure false:=by rfl) (mR:attributeBase (.Name x fP) "extend" X.env (eval (.Name x fP) X.env)=eval (.Name x fP) X.env:=by rfl):Ju X (.Expr (.Call (.Attribute (.Name x fP) "extend" apos) [e] [] cB) pos) (GJ i f):=⟨Ka hN hv he.1 hd tI hs mQ tV Br mR⟩
theorem Ap(i:Nat){F:FS}(h:xH X Mi F):xH X Mi (CY i F):=⟨Kk i h.1⟩
theorem cu(he:QD X e f):Ju X (.Return (some e) pos) (jy f):=⟨JQ he.1⟩
theorem lu{fc:aw->R Bool}{F G:FS}(hc:QB X c fc)(ha:xH X a F)(hb:xH X b G):Ju X (.If c a b pos) (Dx fc F G):=⟨MA hc.1 ha.1 hb.1⟩
theorem aT{i:Nat}{pos:Pos}(hN:X.N.Nodup)(hi:X.N[i]? =some x)(hx:Loc X.env.scope x)(hf:X.fn x=true\/X.env.scope.names.lookup x=some .local:=by first | exact .inl rfl | exact .inr rfl | assumption):MV X (.Name x pos) (aS i):=⟨Hn hN hi hx hf⟩
theorem eN:JX X [] gp:=⟨Hg⟩
theorem bC{u:Iz}(h1:MV X e t)(h2:JX X es u)(hs:(assignEach (e ::es) X.env).map (·.2)=assign e X.env ::(assignEach es X.env).map (·.2):=by rfl):JX X (e ::es) (bJ t u):=⟨Fy h1.1 h2.1 hs⟩
theorem gd{k:Nat}{t:Iz}{n:Nat}{pos:Pos}(hc:X.calm=true)(h:JX X es t)(hn:(assignEach es X.env).length=n:=by rfl)(Jj:(assignEach es X.env).findIdx? (·.1)=none:=by rfl):MV X (.Tuple es k pos) (gb n t):=⟨J5 hc h.1 hn Jj⟩
theorem Ik{pos:Pos}(he:QD X e f)(hg:MV X tg t)(hs:swapsWithSole [tg] e pos.line X.env=pure false:=by rfl)(hw:swappedStores [tg] e X.env=pure none:=by rfl)(h1:(assignEach [tg] X.env).map (·.2)=[assign tg X.env]:=by rfl):Ju X (.Assign [tg] e pos) (NR f t):=⟨Lq he.1 hg.1 hs hw h1⟩
theorem bF(h:QD X e f):Bu X tg e (cI f):=⟨Kl h.1⟩
theorem fI{tg a:Expr}{p pos:Pos}(h:QD X a f)(hg:Gl X "range")(hm:X.mg "range"=none)(hs:starEach [a] X.env=[(false,eval a X.env)]:=by rfl):Bu X tg (.Call (.Name "range" p) [a] [] pos) (kD f):=⟨B4 h.1 hg hm hs⟩
theorem mG{it:aw->R (List D)}{F:FS}{pos:Pos}(hp:PassesOwn (model X.prog X.w) X.A X.env X.xe)(hc:X.calm=true)(hi:Bu X tg iter it)(hg:MV X tg t)(hb:xH X body F)(hs:∀x,foldedSetIterable iter X.env x=pure x:=by intro _;rfl):Ju X (.For tg iter body [] pos) (xr it t F):=⟨Ll hp hc hi.1 hg.1 hb.1 hs⟩
theorem cR{own:List Str}{kp:List Nat}{kn:List Str}{it:aw->R (List D)}{c:aw->R Bool}{pos:Pos}(hc:X.calm=true)(C:bO X scope own kp kn)(hi:Bu X tg iter it)(hg:∀fp s H,MV (bN X scope (own++kn) fp s H) tg t)(F4:∀fp s H,JM (bN X scope (own++kn) fp s H) ifs c)(he:∀fp s H,QD (bN X scope (own++kn) fp s H) elt f)(hs:∀x,foldedSetIterable iter X.env x=pure x:=by intro _;rfl):QN X (.ListComp elt [⟨tg,iter,ifs,0⟩] scope pos) (dj it t c f own kp):=⟨JL hc C hi.1 (fun fp s H=>(hg fp s H).1) (fun fp s H=>(F4 fp s H).1) (fun fp s H=>(he fp s H).1) hs⟩
theorem gP:JM X [] sM:=⟨Ic⟩
theorem gh{c:aw->R Bool}(h:QB X e c):JM X [e] c:=⟨JR h.1⟩
theorem aF(ha:QD X a fa)(hb:QD X b fb)(hs:va b):QD X (.Subscript a b pos) (e2 cb fa fb):=⟨QF ha.1 hb.1 hs⟩
theorem rQ:QP X none wY:=⟨Lj⟩
theorem rV(h:QD X e f):QP X (some e) (qT f):=⟨Kr h.1⟩
theorem C4{lo hi:Option Expr}{fl fh:FO}(he:QD X e f)(hl:QP X lo fl)(hh:QP X hi fh):QD X (.Subscript e (.Slice lo hi none p2) pos) (My f fl fh):=⟨Qi he.1 hl.1 hh.1⟩
theorem iL{elts:List Expr}{k:Nat}{tP:Pos}{p pos:Pos}(h:QD X a f)(hg:Gl X "enumerate")(hm:X.mg "enumerate"=none)(hs:starEach [a] X.env=[(false,eval a X.env)]:=by rfl):Bu X (.Tuple elts k tP) (.Call (.Name "enumerate" p) [a] [] pos) (eO f):=⟨z6 h.1 hg hm hs⟩
theorem cN{P:Program}{w:World}{K:W.Frag}{mg:Str->Option Value}{base:Heap}{x qual:Str}{st:Stmt}{f:Addr}{fd:FuncData}{N ps:List Str}{k:Nat}{F:FS}{b:List Stmt}{sc:Scope}(hb:aM st=b)(hs:aC st=sc)(Fn:EA K x qual st f fd)(S:aW N ps sc)(mS:∀(dJ:Value) (A:Around) (outer:List Env) (s:Shared) (H:Hp) (E:XK),eX k (A.deeper (envOfC qual sc s.heap.objs.size f dJ))->
 xH (vz xn P w K mg base N qual sc f dJ A outer s H E).Li b F):jI P w K mg base xn (k+1) f fd ps (Ih K ps.length (xp N F)):=HU hb hs Fn S (fun dJ A outer s H E hr=>(mS dJ A outer s H E hr).1)
theorem cA{g:List D->R D}{k j n:Nat}{p pos:Pos}{fs:aw->R (List D)}(C:Callee X.prog X.w X.K X.mg X.base k x n g)(hr:eX j X.A)(Ji:k<=j)(hg:Gl X x)(ha:LU X (e ::es) fs)(hn:∀δ ds,fs δ= .ok ds->ds.length=n)(qP:(x==("__debug__":Str))=false:=by decide)(he:starEach (e ::es) X.env=(false,eval e X.env) ::starEach es X.env:=by rfl)(lT:(backTo pos (starEach es X.env)).any (·.1)=false:=by rfl):QD X (.Call (.Name x p) (e ::es) [] pos) (bw g fs):=⟨HZ C hr Ji hg ha.1 hn qP he lT⟩
theorem JV{keys:List (Option Expr)}{values:List Expr}{Bp:List (TE × TE)}{kvs:List (Key × V)}(hu:X.A.units+1 < cLine)(h:Pa X zC keys values Bp)(xV:keys.all (·.isSome)=true)(hl:keys.length=values.length)(h0:keys≠[])(hc:∀σ H Q,Q (kvs.map fun kv=>(kV kv.1,kv.2)) H->wI Bp σ H Q)(hlen:kvs.length<=15)(he:QD X e fe)(hf:QD X f ff)(m:M2 X (.Dict keys values zC) "get" apos e f cB)(hd:PE X (.Dict keys values zC) (Hw Bp)):QD X (.Call (.Attribute (.Dict keys values zC) "get" apos) [e,f] [] cB) (M0 kvs fe ff):=⟨NS hu h xV hl h0 hc hlen he.1 hf.1 m hd⟩
end
end L2
end
section
namespace L2
open PySem PySem.Spec PyProof.Rows
theorem E4{P:Program}{w:World}{K:W.Frag}{mg mb:Str->Option Value}{CX:Gm}{k:Nat}{fa a:Addr}{fd:FuncData}{x:Str}{sp:Sp}{s₁:Shared}{vs:List Value}{ns:List Int}
 (KX:K.In s₁.heap) (VN:s₁.heap.Ns mainGlobals mg) (hb:s₁.heap.Ns builtinsNs mb) (Xr:∀x:Str,x≠"__name__"->mb x=bootBuiltins x) (Uh:s₁.heap.NoLimit) (hg:s₁.gens=#[])
 (ha:s₁.heap.get? a=some {cls:= .type "list",data:= .seq vs.toArray}) (hi:IntsAre vs ns) (hl:ns.length<=sizeLine) (hr:eX k callerA)
 (F:∀base:Heap,K.In base->base.Ns mainGlobals mg->jI P w K mg base CX k fa fd [x] sp) (Q1:∀(s:Shared) (u:Value),BindsTo s fd ⟨[u],[]⟩ [(x,u)])
 (Pf:∀H:Hp,Qd H->wj K [] H a (ns.map V.int)->sp [.ref a] H (fun v _=>v= .bl true) fun _ _ _=>False)
 (Yn:∀H e s',CX [] H s₁ (fun _ _ _=>False) e s'->False) :
 codeAny (model P w) callerA (.call (.ref fa) ⟨[.ref a],[]⟩) (fun r s'=>r= .ok (.ret (.bool true))/\OldK s₁.heap s'.heap/\s'.os=s₁.os/\AllBare s'.gens) s₁:=by
 have rv:=yh hi;have lenV:=hi.length;have core:∀H:Hp,Qd H->wj K [] H a (ns.map V.int)->pN P w H s₁.heap->(∀b,H b≠none->b=a)->(H a≠none->K.lookup a=none)->
  codeAny (model P w) callerA (.call (.ref fa) ⟨[.ref a],[]⟩) (fun r s'=>r= .ok (.ret (.bool true))/\OldK s₁.heap s'.heap/\s'.os=s₁.os/\AllBare s'.gens) s₁:=by
  intro H hO hS hok hA hK;have EB:∀{b:Addr} {o:Obj},s₁.heap.get? b=some o->H b=none->(zo s₁.heap H).get? b=some o:=fun e n=>IU e n
  have noA:∀{b:Addr} {o:Obj} {es:Array DictEntry} {ep:Nat},s₁.heap.get? b=some o->o.data= .dict es ep->H b=none:=fun {b o es ep} e d=>by
   cases q:H b with
   | none=>rfl
   | some u=>
     have e':b=a:=hA b (by rw[q];simp)
     subst e';rw[ha] at e;cases e;have d':Data.seq vs.toArray _=Data.dict es ep:=d;cases d'
  have nsK:∀{b:Addr} {m:Str->Option Value},s₁.heap.Ns b m->(zo s₁.heap H).Ns b m:=fun {b m} ⟨o,es,ep,e,d,r⟩=>⟨o,es,ep,EB e (noA e d),d,r⟩
  have hKb:K.In (zo s₁.heap H):=fun b o e=>EB (KX b o e) (by
   cases q:H b with
   | none=>rfl
   | some u=>
     have e':b=a:=hA b (by rw[q];simp)
     subst e';rw[hK (by rw[q];simp)] at e;cases e)
  have hM:Mod K mg (zo s₁.heap H):=⟨hKb,nsK VN,⟨mb,nsK hb,Xr⟩,let⟨mc,h1,h2⟩:=Uh;⟨mc,nsK h1,h2⟩⟩
  have e0:BY P w K mg (zo s₁.heap H) callerA [] s₁ H:=⟨rfl,hM,fun b o e=>K_ e,Nat.le_of_eq (Fd _ _),trivial,fun b hb=>absurd (show b∈([]:List Addr) from hb) (by simp),hok, .of_eq hg⟩
  refine codeAny_mono ((F _ hKb (nsK VN)).run callerA [] s₁ H ⟨[.ref a],[]⟩ [.ref a] [.ref a] _ _ hr e0 (Q1 s₁ (.ref a)) (.cons rfl .nil) (Pf H hO hS)) fun r s' h=>?_
  cases r with
  | error e=>exact(Yn H e s' h).elim
  | ok fl=>
    cases fl with
    | next=>exact False.elim h
    | brk=>exact False.elim h
    | cont=>exact False.elim h
    | ret u=>
      obtain⟨v,H',os,bare,un,UB,r',q⟩:=h;have q':v= .bl true:=q;subst q';obtain rfl:u=Value.bool true:=r';refine⟨rfl,OldK.of_keep fun b o e=>?_,os,bare⟩
      cases q:H b with
      | none=>exact un.keep b o e q (by intro z;exact absurd (show b∈([]:List Addr) from z) (by simp)) (by simp)
      | some u=>
        rcases hO b with z | ⟨ob,xs,z⟩
        .rw [q] at z;cases z
        .have z2:=un.frzs b ob _ z;obtain⟨e1,_⟩:=hok b _ z;obtain⟨e2,_⟩:=UB b _ z2;rw[e] at e1;cases e1;exact e2
 cases hk:K.lookup a with
 | some o=>
   have e:=KX a o hk;rw[ha] at e;cases e;refine core (fun _=>none) (fun _=> .inl rfl) (.inr ⟨vs,_,hk,by rw[List.length_map];exact hl,rv⟩) (fun b u z=>by have z':(none:Option HO)=some u:=z;cases z') (fun b z=>absurd rfl z) fun z=>absurd rfl z
 | none=>
   refine core (fun b=>if b=a then some (.lp {cls:= .type "list",data:= .seq vs.toArray} (.lst (ns.map V.int))) else none) (fun b=>?_) (.inl ⟨by simp, .inr ⟨{cls:= .type "list",data:= .seq vs.toArray},if_pos rfl⟩⟩) (fun b u z=>?_) (fun b z=>?_) fun _=>hk
   .by_cases hb:b=a
    .exact .inr ⟨_,_,if_pos hb⟩
    .exact .inl (if_neg hb)
   .by_cases hb:b=a
    .have z':=(if_pos hb).symm.trans z;cases z';subst hb;exact⟨ha,by rw[List.length_map];exact hl,vs,_,rv,ha⟩
    .have z':=(if_neg hb).symm.trans z;cases z'
   .by_cases hb:b=a
    .exact hb
    .exact absurd (if_neg hb) z
theorem ints_rep{K:W.Frag}{B:List Addr}:∀ns:List Int,aG K B H (ns.map D.int) (ns.map V.int)
 | []=>aG.nil
 | n ::ns=>aG.cons (Rep.int.mpr rfl) (ints_rep ns)
theorem PF{l:PySem.W.OpenLaw}{n k:Nat}{q:Program}{loose:List Str}{XP:(Str->Option Value)->Heap->Prop}{YP:World->Heap->Prop}{d:DefRec}{K:Params->W.Frag}{x:Str}{g:List D->R D}
 (hn:l.most=some n) (RP:n<=sizeLine) (Ud:d.params.defaults=[]) (hr:eX k callerA) (hY:∀(w:World) (h:Heap),YP w h->(K w.params).In h)
 (F:∀(w:World) (mg:Str->Option Value) (fa:Addr) (h:Heap),(K w.params).In h->h.Ns mainGlobals mg->mg d.name=some (.ref fa)->
   ∃fd:FuncData,(∀(s:Shared) (u:Value),BindsTo s fd ⟨[u],[]⟩ [(x,u)])/\∀base:Heap,(K w.params).In base->base.Ns mainGlobals mg->jI l.prog w (K w.params) mg base xn k fa fd [x] (Ih (K w.params) 1 g))
 (hg:∀ns:List Int,ns.length<=n->g [.lst (ns.map D.int)]= .ok (.bl true)):PySem.W.WalkO q loose XP YP l.row.toRowW d [] (fun f vs=>PySem.call f vs):=by
 refine Att.AZ hn Ud fun w s₀ s₁ mg mb fa o pm cd doc a vs ns G Y ho hd tI QX OL hints hlen UI=>?_
 have KX:=hY w _ Y;obtain⟨fd,hb,hF⟩:=F w mg fa _ KX G.T.g QX;refine E4 KX G.T.g G.T.b G.T.builtins G.T.nolimit UI OL hints (Nat.le_trans hlen RP) hr hF hb (fun H hO hS=>?_) fun H e s' h=>h
 refine⟨rfl,[],[.lst (ns.map D.int)], .bl true,fun b hb=>(by cases hb),aG.cons (Rep.lst.mpr ⟨_,_,rfl,hS,ints_rep ns⟩) aG.nil,hg ns hlen,fun z H' _ r=>Rep.bl.mp r⟩
theorem bZ{K:W.Frag}{h:Heap}{mg:Str->Option Value}{x:Str}{st:Stmt}{f:Addr}{oc:Value}{od an:Option Addr}{Jz:Array (Option Value)}{kV doc pm dJ ct:Value}(X:K.In h)(G:h.Ns mainGlobals mg)(a:PySem.W.nsIn K mainGlobals x=some (some (.ref f)))
 (l:K.lookup f=some ⟨oc,od, .func (PySem.W.fnOf x x (ji st) (aM st) (aC st) .none kV doc pm an dJ ct),Jz⟩) (c:PySem.W.codeIn K dJ x=true) (k:PySem.W.keepIn K (.ref f)=true):Def K mg x st:=
 ⟨f,_,tj l c k,PySem.W.mg_of X G a⟩
end L2
end
section
namespace L2
open PySem PySem.Spec PyProof.Rows
theorem v_{t:FT}{body:FS}:∀(ds:List D) (n:Nat) (P:Nat->aw->Prop) {δ:aw},P n δ->
 (∀i d δ,ds[i]? =some d->P (n+i) δ->∃eg,((t d δ).bind body)= .ok (.nx eg)/\P (n+i+1) eg)->∃eg,uc t body ds δ= .ok (.nx eg)/\P (n+ds.length) eg
 | [],n,P,δ,h0,_=>⟨δ,rfl,h0⟩
 | d ::ds,n,P,δ,h0,hs=>by
   obtain⟨δ1,e1,p1⟩:=hs 0 d δ rfl h0;obtain⟨du,e2,p2⟩:=v_ ds (n+1) P p1 (fun i d' eg hi hp=>by
    have:=hs (i+1) d' eg (by simpa using hi) (by rw[show n+(i+1)=n+1+i by omega];exact hp)
    rw[show n+(i+1)+1=n+1+i+1 by omega] at this
    exact this)
   refine⟨du,?_,by rw[List.length_cons,show n+(ds.length+1)=n+1+ds.length by omega];exact p2⟩
   obtain⟨YT,h1,h2⟩:=R.ak e1;show(t d δ).bind (fun δ1=>(body δ1).bind fun o=>match o with | .nx du=>uc t body ds du | .rt r=> .ok (.rt r))=_
   rw[h1,R.bj,h2,R.bj];exact e2
theorem j3{t:FT}{body:FS}{ds:List D}(P:Nat->aw->Prop){δ:aw}(h0:P 0 δ)
 (hs:∀i d δ,ds[i]? =some d->P i δ->∃eg,((t d δ).bind body)= .ok (.nx eg)/\P (i+1) eg):∃eg,uc t body ds δ= .ok (.nx eg)/\P ds.length eg:=by
 have:=v_ (t:=t) (body:=body) ds 0 P h0 (fun i d δ hi hp=>by simpa using hs i d δ hi (by simpa using hp))
 simpa using this
theorem BI{α:Type} [DecidableEq α]:∀(L F:List α),L.Nodup->(∀x∈L,x∈F)->L.length<=F.length
 | [],_,_,_=>Nat.zero_le _
 | x ::L,F,hn,hs=>by
   obtain⟨h1,h2⟩:=List.nodup_cons.mp hn;have hx:x∈F:=hs x List.mem_cons_self;have ih:=BI L (F.erase x) h2 (fun y hy=>(List.mem_erase_of_ne (fun(e:y=x)=>h1 (by rw[<-e];exact hy))).mpr (hs y (List.mem_cons_of_mem _ hy)))
   rw[List.length_erase_of_mem hx] at ih;have:0 < F.length:=List.length_pos_of_mem hx;rw[List.length_cons];omega
theorem qy{α:Type}{xs:List α}{i:Int}(h0:0<=i)(h:i.toNat < xs.length):sR xs i=some xs[i.toNat]:=by
 unfold sR Bw;rw[if_pos h0,if_pos (by omega)]
 simp [h]
theorem ints_map:∀ss:List Int,ints? (ss.map D.int)=some ss
 | []=>rfl
 | s ::ss=>by show(ints? (ss.map D.int)).map (s ::·)=_;rw [ints_map ss];rfl
theorem cm{F G:FS}{δ δ1:aw}{r:R Out}(h:F δ= .ok (.nx δ1))(h2:G δ1=r):iV F G δ=r:=by unfold iV;rw [h,R.bj];exact h2
theorem cX{f:aw->R (List D)}{δ:aw}{ds:List D}(h:f δ= .ok ds):eNew f δ= .ok (.lst ds):=by unfold eNew;rw [h];rfl
theorem vp{c:aw->R Bool}{F G:FS}{δ:aw}{r:R Out}(h:c δ= .ok true)(h2:F δ=r):Dx c F G δ=r:=by unfold Dx;rw [h,R.bj,if_pos rfl];exact h2
theorem j9{c:aw->R Bool}{F G:FS}{δ:aw}{r:R Out}(h:c δ= .ok false)(h2:G δ=r):Dx c F G δ=r:=by unfold Dx;rw [h,R.bj,if_neg (by decide)];exact h2
theorem pH{it:aw->R (List D)}{F:FS}{δ:aw}{ds:List D}{r:R Out}(h:it δ= .ok ds)(h2:uc t F ds δ=r):xr it t F δ=r:=by unfold xr;rw [h,R.bj];exact h2
theorem cL{f:FD}{δ:aw}{d:D}(h:f δ= .ok d):jy f δ= .ok (.rt d):=by unfold jy;rw [h];rfl
theorem dv{N:List Str}{F:FS}{ds:List D}{d:D}(h:F (gK N ds)= .ok (.rt d)):xp N F ds= .ok d:=by unfold xp;rw [h];rfl
theorem cJ{α:Type}{p:Prop} [Decidable p](r:R α)(h:p):R.bX (decide p) r=r:=by rw[decide_eq_true h];rfl
theorem j1{i:Nat}{f:FD}{δ:aw}{d:D}(h:f δ= .ok d)(hi:i < δ.length):rp i f δ= .ok (.nx (δ.set i (.val d))):=by unfold rp;rw [h,R.bj,cJ _ hi]
theorem D2{i:Nat}{f:aw->R (List D)}{δ:aw}{ds:List D}(h:f δ= .ok ds)(hi:i < δ.length):B8 i f δ= .ok (.nx (δ.set i (.bld ds))):=by unfold B8;rw [h,R.bj,cJ _ hi]
theorem Ky{i:Nat}{f:FD}{δ:aw}{d:D}{ds:List D}(h:f δ= .ok d)(hb:δ[i]? =some (.bld ds))(hl:ds.length < sizeLine):Hi i f δ= .ok (.nx (δ.set i (.bld (ds++[d])))):=by unfold Hi wq;rw [h,R.bj,hb];show R.bX _ _=_;rw [cJ _ hl]
theorem cT{it:aw->R (List D)}{c:aw->R Bool}{own:List Str}{kp:List Nat}{δ:aw}{ds ys:List D}(h1:it δ= .ok ds)(h2:ds.length<=sizeLine)(h3:rC t c f (uH own kp δ) ds= .ok ys):dj it t c f own kp δ= .ok ys:=by unfold dj;rw [h1,R.bj,cJ _ h2,h3]
theorem wy{ds:List D}{i:Int}{d:D}(h:sR ds i=some d):cb (.lst ds) (.int i)= .ok d:=by unfold cb;simp only[h]
theorem wM{ds:List D}{i:Int}{d:D}(h:sR ds i=some d):cb (.tup ds) (.int i)= .ok d:=by unfold cb;simp only[h]
end L2
end
section
namespace L2
open PySem PySem.Spec PyProof.Rows
theorem au{g:D->D->R D}{fa fb:FD}{δ:aw}{a b:D}{r:R D}(ha:fa δ= .ok a)(hb:fb δ= .ok b)(h:g a b=r):e2 g fa fb δ=r:=by unfold e2;rw [ha,R.bj,hb,R.bj];exact h
theorem eD{g:D->D->R D}{fa fb:FD}{δ:aw}{a b:D}{k:Bool}(ha:fa δ= .ok a)(hb:fb δ= .ok b)(h:g a b= .ok (.bl k)):b2 g fa fb δ= .ok k:=by unfold b2;rw [au ha hb h];rfl
theorem bc{f:FD}{g:aw->R (List D)}{δ:aw}{d:D}{ds:List D}(h:f δ= .ok d)(h2:g δ= .ok ds):az f g δ= .ok (d ::ds):=by unfold az;rw [h,R.bj,h2];rfl
theorem bf{g:List D->R D}{fs:aw->R (List D)}{δ:aw}{ds:List D}{r:R D}(h:fs δ= .ok ds)(h2:g ds=r):bw g fs δ=r:=by unfold bw;rw [h,R.bj];exact h2
theorem dI{g:aw->R (List D)}{δ:aw}{ds:List D}(h:g δ= .ok ds)(hl:ds.length<=sizeLine):il g δ= .ok (.tup ds):=by unfold il;rw [h,R.bj,cJ _ hl]
theorem lj{g:aw->R (List D)}{δ:aw}{ds:List D}(h:g δ= .ok ds)(hl:ds.length<=sizeLine):eB g δ= .ok ds:=by unfold eB;rw [h,R.bj,cJ _ hl]
theorem Cm{f:FD}{fl fh:FO}{δ:aw}{d:D}{lo hi:Option Int}{r:R D}(h:f δ= .ok d)(h1:fl δ= .ok lo)(h2:fh δ= .ok hi)(h3:Pm d lo hi=r):My f fl fh δ=r:=by unfold My;rw [h,R.bj,h1,R.bj,h2,R.bj];exact h3
theorem Hc{f:FD}{δ:aw}{i:Int}(h:f δ= .ok (.int i)):qT f δ= .ok (some i):=by unfold qT;rw [h];rfl
theorem Cr{a b:Int}(h:0 < b):xD (.int a) (.int b)= .ok (.int (a % b)):=by unfold xD Ak;exact cJ _ h
theorem J1{a b:Int}(h:0 < b)(h2:b < 1073741824):Af (.int a) (.int b)= .ok (.int (a / b)):=by unfold Af Ak;exact cJ _ ⟨h,h2⟩
theorem mY{f:FD}{δ:aw}{n:Nat}(h:f δ= .ok (.int n))(hn:n < 1000000):kD f δ= .ok (eY 0 n):=by
 unfold kD;rw [h,R.bj];show R.bX (decide (-(2 ^ 62)<=(n:Int)/\(n:Int) < 2 ^ 62)) _=_;rw[cJ _ ⟨by omega,by omega⟩,Int.toNat_natCast]
theorem fj{f:FD}{δ:aw}{ds:List D}(h:f δ= .ok (.lst ds)):cI f δ= .ok ds:=by unfold cI;rw [h];rfl
theorem oK{f:FD}{δ:aw}{ds:List D}(h:f δ= .ok (.tup ds)):cI f δ= .ok ds:=by unfold cI;rw [h];rfl
theorem zw{f:FD}{δ:aw}{ds:List D}(h:f δ= .ok (.lst ds)):eO f δ= .ok (cH ds):=by unfold eO;rw [h];rfl
theorem sW(ds:List D):iW [.lst ds]= .ok (.int ds.length):=rfl
end L2
end
section
namespace L3
open PySem PySem.Spec PyProof.Rows L2
inductive V3 where
 | d (x:D) | loc (k:Nat) | lst (vs:List V3) | tup (vs:List V3)
inductive SO where
 | lst (ds:List D) | dct (kvs:List (Key × D)) | ins (c:Nat) (fs:List (Str × V3)) | lp
abbrev aH:=List SO
inductive R3 (α:Type) where
 | ok (a:α) (S:aH) | ex (c:Nat) (S:aH) | no
def R3.bind{α β:Type}:R3 α->(α->aH->R3 β)->R3 β
 | .ok a S,f=>f a S
 | .ex c S,_=> .ex c S
 | .no,_=> .no
theorem R3.ak{α β:Type}{r:R3 α}{f:α->aH->R3 β}{b:β}{S':aH}(h:r.bind f= .ok b S'):∃a S,r= .ok a S/\f a S= .ok b S':=by
 cases r with
 | ok a S=>exact⟨a,S,rfl,h⟩
 | ex c S=>cases h
 | no=>cases h
@[simp] theorem R3.bj{α β:Type}(a:α)(S:aH)(f:α->aH->R3 β):(R3.ok a S).bind f=f a S:=rfl
def R3.bX{α:Type}(c:Bool)(r:R3 α):R3 α:=if c then r else .no
theorem R3.bp{α:Type}{c:Bool}{r:R3 α}{a:α}{S:aH}(h:R3.bX c r= .ok a S):c=true/\r= .ok a S:=by
 cases c with
 | true=>exact⟨rfl,h⟩
 | false=>cases h
def R3.of{α:Type}(r:R α)(S:aH):R3 α:=match r with | .ok a=> .ok a S | _=> .no
theorem R3.of_ok{α:Type}{r:R α}{S S':aH}{a:α}(h:R3.of r S= .ok a S'):r= .ok a/\S'=S:=by
 cases r with
 | ok b=>cases h;exact⟨rfl,rfl⟩
 | ex c=>cases h
 | no=>cases h
structure P3 where
 r:List Addr
 z:List Addr
 f:List Addr
def P3.b(ρ:P3):List Addr:=ρ.r.filter (fun a=>!ρ.f.contains a)++ρ.z
theorem P3.ei{ρ:P3}{a:Addr}:a∈ρ.b↔(a∈ρ.r/\a ∉ ρ.f)\/a∈ρ.z:=by
 unfold P3.b;rw[List.mem_append,List.mem_filter];simp
def P3.push(ρ:P3)(a:Addr):P3:=⟨ρ.r++[a],ρ.z,ρ.f⟩
def P3.cut(ρ:P3)(n:Nat):P3:=⟨ρ.r.take n,ρ.z,ρ.f⟩
mutual
def bh(K:W.Frag)(ρ:P3)(H:Hp):V3->V->Prop
 | .d x,v=>Rep K ρ.b H x v
 | .loc k,v=>∃a,ρ.r[k]? =some a/\v= .ref a
 | .lst vs,v=>∃a xs,v= .ref a/\wj K ρ.b H a xs/\aL K ρ H vs xs
 | .tup vs,v=>∃a xs,v= .ref a/\yJ K ρ.b H a xs/\aL K ρ H vs xs
def aL(K:W.Frag)(ρ:P3)(H:Hp):List V3->List V->Prop
 | [],xs=>xs=[]
 | d ::ds,xs=>∃x r,xs=x ::r/\bh K ρ H d x/\aL K ρ H ds r
end
structure Pre (ρ:P3) (H:Hp) (cV:P3) (H':Hp):Prop where
 bu:dA ρ.b H cV.b H'
 zz:cV.z=ρ.z
 zs:∀(b:Addr) (o:HO),b∈ρ.z->H b=some o->H' b=some o
 ext:∀(k:Nat) (a:Addr),ρ.r[k]? =some a->cV.r[k]? =some a
theorem Pre.refl(ρ:P3)(H:Hp):Pre ρ H ρ H:=⟨dA.refl ρ.b H,rfl,fun _ _ _ h=>h,fun _ _ h=>h⟩
theorem Pre.trans(a:Pre ρ H cV H')(b:Pre cV H' Jf n_):Pre ρ H Jf n_:=⟨a.bu.trans b.bu,b.zz.trans a.zz,fun c o hc h=>b.zs c o (by rw[a.zz];exact hc) (a.zs c o hc h),fun k x h=>b.ext k x (a.ext k x h)⟩
theorem Pre.same(s:bg H H'):Pre ρ H ρ H':=⟨dA.same s,rfl,fun b o _ h=>s b o h,fun _ _ h=>h⟩
theorem yJ.bu{K:W.Frag}{B B':List Addr}(p:dA B H B' H'){a:Addr}{xs:List V}(l:yJ K B H a xs):yJ K B' H' a xs:=
 l.elim (fun z=> .inl ⟨(p.rd z.2 z.1).2,(p.rd z.2 z.1).1⟩) .inr
mutual
theorem bh.pre{K:W.Frag}(p:Pre ρ H cV H'):∀{d:V3} {v:V},bh K ρ H d v->bh K cV H' d v
 | .d x,v,h=>by unfold bh at h ⊢;exact h.bu p.bu
 | .loc k,v,h=>by unfold bh at h ⊢;obtain⟨a,h1,h2⟩:=h;exact⟨a,p.ext k a h1,h2⟩
 | .lst vs,v,h=>by unfold bh at h ⊢;obtain⟨a,xs,e,l,r⟩:=h;exact⟨a,xs,e,l.bu p.bu,aL.pre p r⟩
 | .tup vs,v,h=>by unfold bh at h ⊢;obtain⟨a,xs,e,l,r⟩:=h;exact⟨a,xs,e,yJ.bu p.bu l,aL.pre p r⟩
theorem aL.pre{K:W.Frag}(p:Pre ρ H cV H'):∀{ds:List V3} {xs:List V},aL K ρ H ds xs->aL K cV H' ds xs
 | [],_,h=>by unfold aL at h ⊢;exact h
 | d ::ds,xs,h=>by
   unfold aL at h ⊢;obtain⟨x,r,e,h1,h2⟩:=h;exact⟨x,r,e,bh.pre p h1,aL.pre p h2⟩
end
structure PW (ρ:P3) (H:Hp) (cV:P3) (H':Hp):Prop where
 bu:dA ρ.b H cV.b H'
 ext:∀(k:Nat) (a:Addr),ρ.r[k]? =some a->cV.r[k]? =some a
theorem Pre.pw(p:Pre ρ H cV H'):PW ρ H cV H':=⟨p.bu,p.ext⟩
theorem PW.trans(a:PW ρ H cV H')(b:PW cV H' Jf n_):PW ρ H Jf n_:=⟨a.bu.trans b.bu,fun k x h=>b.ext k x (a.ext k x h)⟩
mutual
theorem bh.pw{K:W.Frag}(p:PW ρ H cV H'):∀{d:V3} {v:V},bh K ρ H d v->bh K cV H' d v
 | .d x,v,h=>by unfold bh at h ⊢;exact h.bu p.bu
 | .loc k,v,h=>by unfold bh at h ⊢;obtain⟨a,h1,h2⟩:=h;exact⟨a,p.ext k a h1,h2⟩
 | .lst vs,v,h=>by unfold bh at h ⊢;obtain⟨a,xs,e,l,r⟩:=h;exact⟨a,xs,e,l.bu p.bu,aL.pw p r⟩
 | .tup vs,v,h=>by unfold bh at h ⊢;obtain⟨a,xs,e,l,r⟩:=h;exact⟨a,xs,e,yJ.bu p.bu l,aL.pw p r⟩
theorem aL.pw{K:W.Frag}(p:PW ρ H cV H'):∀{ds:List V3} {xs:List V},aL K ρ H ds xs->aL K cV H' ds xs
 | [],_,h=>by unfold aL at h ⊢;exact h
 | d ::ds,xs,h=>by
   unfold aL at h ⊢;obtain⟨x,r,e,h1,h2⟩:=h;exact⟨x,r,e,bh.pw p h1,aL.pw p h2⟩
end
theorem aL.nil{K:W.Frag}:aL K ρ H [] []:=by unfold aL;rfl
theorem aL.cons{K:W.Frag}{d:V3}{ds:List V3}{x:V}{xs:List V}(h:bh K ρ H d x)(t:aL K ρ H ds xs):aL K ρ H (d ::ds) (x ::xs):=by
 unfold aL;exact⟨x,xs,rfl,h,t⟩
theorem aL.cx{K:W.Frag}{d:V3}{ds:List V3}{xs:List V}(h:aL K ρ H (d ::ds) xs):∃x r,xs=x ::r/\bh K ρ H d x/\aL K ρ H ds r:=by
 unfold aL at h;exact h
theorem aL.length{K:W.Frag}:∀{ds:List V3} {xs:List V},aL K ρ H ds xs->ds.length=xs.length
 | [],_,h=>by unfold aL at h;rw [h];rfl
 | d ::ds,xs,h=>by
   obtain⟨x,r,rfl,_,h2⟩:=h.cx;simp [h2.length]
theorem aL.of{K:W.Frag}{ρ:P3}:∀{ds:List D} {xs:List V},aG K ρ.b H ds xs->aL K ρ H (ds.map .d) xs
 | [],_,h=>by unfold aG at h;subst h;exact aL.nil
 | d ::ds,xs,h=>by
   obtain⟨x,r,rfl,h1,h2⟩:=h.cx;exact aL.cons (by unfold bh;exact h1) (aL.of h2)
theorem aL.to{K:W.Frag}{ρ:P3}:∀{ds:List D} {xs:List V},aL K ρ H (ds.map .d) xs->aG K ρ.b H ds xs
 | [],_,h=>by unfold aL at h;subst h;exact aG.nil
 | d ::ds,xs,h=>by
   obtain⟨x,r,rfl,h1,h2⟩:=aL.cx h;unfold bh at h1;exact aG.cons h1 (aL.to h2)
def Gi(K:W.Frag)(cl:Nat->Addr)(ρ:P3)(H:Hp):SO->Option HO->Prop
 | .lst ds,h=>∃xs,h=some (.lst xs)/\aG K ρ.b H ds xs
 | .dct kvs,h=>∃ys,h=some (.dK ys)/\ys.map (·.1)=kvs.map (·.1)/\aG K ρ.b H (kvs.map (·.2)) (ys.map (·.2))
 | .ins c fs,h=>∃dx ys,h=some (.ins (cl c) dx ys)/\ys.map (·.1)=fs.map (·.1)/\aL K ρ H (fs.map (·.2)) (ys.map (·.2))
 | .lp,h=>∃u,h=some u
theorem Gi.pre{K:W.Frag}(p:Pre ρ H cV H'){o:SO}{h:Option HO}(r:Gi K cl ρ H o h):Gi K cl cV H' o h:=by
 cases o with
 | lst ds=>obtain⟨xs,e,q⟩:=r;exact⟨xs,e,q.bu p.bu⟩
 | dct kvs=>obtain⟨ys,e,e2,q⟩:=r;exact⟨ys,e,e2,q.bu p.bu⟩
 | ins c fs=>obtain⟨dx,ys,e,e2,q⟩:=r;exact⟨dx,ys,e,e2,q.pre p⟩
 | lp=>exact r
theorem Gi.pw{K:W.Frag}(p:PW ρ H cV H'){o:SO}{h:Option HO}(r:Gi K cl ρ H o h):Gi K cl cV H' o h:=by
 cases o with
 | lst ds=>obtain⟨xs,e,q⟩:=r;exact⟨xs,e,q.bu p.bu⟩
 | dct kvs=>obtain⟨ys,e,e2,q⟩:=r;exact⟨ys,e,e2,q.bu p.bu⟩
 | ins c fs=>obtain⟨dx,ys,e,e2,q⟩:=r;exact⟨dx,ys,e,e2,q.pw p⟩
 | lp=>exact r
theorem Gi.some{K:W.Frag}{o:SO}{h:Option HO}(r:Gi K cl ρ H o h):∃u,h=some u:=by
 cases o with
 | lst ds=>obtain⟨xs,e,q⟩:=r;exact⟨_,e⟩
 | dct kvs=>obtain⟨ys,e,e2,q⟩:=r;exact⟨_,e⟩
 | ins c fs=>obtain⟨dx,ys,e,e2,q⟩:=r;exact⟨_,e⟩
 | lp=>exact r
structure SW (K:W.Frag) (cl:Nat->Addr) (ρ:P3) (H:Hp) (S:aH):Prop where
 len:ρ.r.length=S.length
 nd:∀(i j:Nat) (a:Addr),ρ.r[i]? =some a->ρ.r[j]? =some a->i=j
 ob:∀(k:Nat) (a:Addr) (o:SO),ρ.r[k]? =some a->S[k]? =some o->Gi K cl ρ H o (H a)
 zb:∀b∈ρ.z,(∃xs,H b=some (.lst xs))/\b ∉ ρ.r
 fz:∀(k:Nat) (a:Addr),ρ.r[k]? =some a->S[k]?≠some .lp->a ∉ ρ.f
 ff:∀a∈ρ.f,∃o,H a=some o
 fi:∀(k:Nat) (a:Addr),ρ.r[k]? =some a->S[k]? =some .lp->a∈ρ.f
theorem SW.rs{K:W.Frag}{ρ:P3}{H:Hp}{S:aH}(w:SW K cl ρ H S):∀a∈ρ.r,∃o,H a=some o:=fun a z=>by
 obtain⟨k,hk⟩:=List.getElem?_of_mem z;have hl:=(List.getElem?_eq_some_iff.mp hk).1;exact(w.ob k a _ hk (List.getElem?_eq_getElem (by rw[<-w.len];exact hl))).some
theorem SW.bs{K:W.Frag}{ρ:P3}{H:Hp}{S:aH}(w:SW K cl ρ H S):∀a∈ρ.b,∃o,H a=some o:=fun a ha=>by
 rcases P3.ei.mp ha with z | z
 .exact w.rs a z.1
 .obtain⟨xs,h⟩:=(w.zb a z).1;exact⟨_,h⟩
theorem SW.same{K:W.Frag}{S:aH}(w:SW K cl ρ H S)(s:bg H H'):SW K cl ρ H' S:=
 ⟨w.len,w.nd,fun k a o h1 h2=>by
   have r:=w.ob k a o h1 h2;obtain⟨u,hu⟩:=r.some;rw[s a u hu,<-hu];exact r.pre (Pre.same s),fun b hb=>let⟨⟨o,ho⟩,n⟩:=w.zb b hb;⟨⟨o,s b _ ho⟩,n⟩,w.fz,fun a ha=>let⟨o,ho⟩:=w.ff a ha;⟨o,s a o ho⟩,w.fi⟩
theorem P3.mem_push{ρ:P3}{a b:Addr}(h:b∈(ρ.push a).b):b∈ρ.b\/b=a:=by
 rcases P3.ei.mp h with⟨z,n⟩ | z
 .rcases List.mem_append.mp z with y | y
  .exact .inl (P3.ei.mpr (.inl ⟨y,n⟩))
  .exact .inr (List.mem_singleton.mp y)
 .exact .inl (P3.ei.mpr (.inr z))
theorem SW.new{K:W.Frag}{ρ:P3}{H H':Hp}{S:aH}(w:SW K cl ρ H S){a:Addr}{o:SO}(s:bg H H')(n:H a=none)(r:Gi K cl (ρ.push a) H' o (H' a))(xS:o≠SO.lp:=by intro h;cases h) :
 SW K cl (ρ.push a) H' (S++[o])/\Pre ρ H (ρ.push a) H':=by
 have na:a ∉ ρ.b:=fun ha=>by obtain⟨o,ho⟩:=w.bs a ha;rw [n] at ho;cases ho
 have nr:a ∉ ρ.r:=fun ha=>by obtain⟨o,ho⟩:=w.rs a ha;rw [n] at ho;cases ho
 have nf:a ∉ ρ.f:=fun ha=>by obtain⟨o,ho⟩:=w.ff a ha;rw [n] at ho;cases ho
 have p:Pre ρ H (ρ.push a) H':=⟨fun b u e nb=>⟨s b u e,fun hb=>by
  rcases P3.mem_push hb with z | z
  .exact nb z
  .subst z;rw [n] at e;cases e⟩,rfl,fun b o _ h=>s b o h,fun k x hx=>by
   show(ρ.r++[a])[k]? =_;rw[List.getElem?_append_left (List.getElem?_eq_some_iff.mp hx).1];exact hx⟩
 have last:∀(i:Nat) (b:Addr),(ρ.push a).r[i]? =some b->(i < ρ.r.length/\ρ.r[i]? =some b)\/(i=ρ.r.length/\b=a):=fun i b h=>by
  have h:(ρ.r++[a])[i]? =some b:=h;by_cases q:i < ρ.r.length
  .rw [List.getElem?_append_left q] at h;exact .inl ⟨q,h⟩
  .rw [List.getElem?_append_right (by omega)] at h
   have h0:i - ρ.r.length=0:=by
    have:=(List.getElem?_eq_some_iff.mp h).1;simp at this;omega
   rw[h0] at h;cases h;exact .inr ⟨by omega,rfl⟩
 refine⟨⟨by show(ρ.r++[a]).length=_;rw [List.length_append,List.length_append,w.len];rfl,fun i j b hi hj=>?_,fun k b u hk hu=>?_,fun b hb=>?_,fun k b hk hu=>?_,fun b hb=>?_,fun k b hk hu=>?_⟩,p⟩
 .rcases last i b hi with⟨q1,q2⟩ | ⟨q1,rfl⟩
  .rcases last j b hj with⟨z1,z2⟩ | ⟨z1,rfl⟩
   .exact w.nd i j b q2 z2
   .exact absurd (List.mem_of_getElem? q2) nr
  .rcases last j b hj with⟨z1,z2⟩ | ⟨z1,z3⟩
   .exact absurd (List.mem_of_getElem? z2) nr
   .omega
 .rcases last k b hk with⟨q1,q2⟩ | ⟨q1,rfl⟩
  .rw [List.getElem?_append_left (by rw[<-w.len];exact q1)] at hu
   have r0:=w.ob k b u q2 hu;obtain⟨x,hx⟩:=r0.some;rw[s b x hx,<-hx];exact r0.pre p
  .rw [List.getElem?_append_right (by rw[<-w.len];omega),q1,w.len,Nat.sub_self] at hu
   cases hu;exact r
 .obtain⟨⟨o,ho⟩,nb⟩:=w.zb b hb;refine⟨⟨o,s b _ ho⟩,fun h=>?_⟩
  rcases List.mem_append.mp h with y | y
  .exact nb y
  .rw [List.mem_singleton] at y;subst y;rw [n] at ho;cases ho
 .rcases last k b hk with⟨q1,q2⟩ | ⟨q1,rfl⟩
  .rw [List.getElem?_append_left (by rw[<-w.len];exact q1)] at hu
   exact w.fz k b q2 hu
  .exact nf
 .obtain⟨o,ho⟩:=w.ff b hb;exact⟨o,s b o ho⟩
 .rcases last k b hk with⟨q1,q2⟩ | ⟨q1,rfl⟩
  .rw [List.getElem?_append_left (by rw[<-w.len];exact q1)] at hu
   exact w.fi k b q2 hu
  .rw [List.getElem?_append_right (by rw[<-w.len];omega),q1,w.len,Nat.sub_self] at hu
   cases hu;exact absurd rfl xS
theorem SW.put{K:W.Frag}{ρ:P3}{S:aH}(w:SW K cl ρ H S){k:Nat}{a:Addr}{o:SO}{u:HO}(hk:ρ.r[k]? =some a)(hf:a ∉ ρ.f)(r:Gi K cl ρ H o (some u))(xS:o≠SO.lp:=by intro h;cases h) :
 SW K cl ρ (upd H a u) (S.set k o)/\Pre ρ H ρ (upd H a u):=by
 have ha:a∈ρ.r:=List.mem_of_getElem? hk;have hb:a∈ρ.b:=P3.ei.mpr (.inl ⟨ha,hf⟩);have nz:∀b∈ρ.z,b≠a:=fun b hb z=>(w.zb b hb).2 (by rw[z];exact ha)
 have p:Pre ρ H ρ (upd H a u):=⟨fun b x e nb=>⟨by rw[br (fun(z:b=a)=>nb (by rw[z];exact hb))];exact e,nb⟩,rfl,fun b o hb h=>by rw[br (nz b hb)];exact h,fun _ _ h=>h⟩
 have hl:k < S.length:=by rw[<-w.len];exact(List.getElem?_eq_some_iff.mp hk).1
 refine⟨⟨by rw[List.length_set];exact w.len,w.nd,fun j b x hj hx=>?_,fun b hb=>?_,fun j b hj hx=>?_,fun b hb=>?_,fun j b hj hx=>?_⟩,p⟩
 .by_cases q:k=j
  .subst q;rw[hk] at hj;cases hj;rw[List.getElem?_set_self hl] at hx;cases hx;rw[aV];exact r.pre p
  .rw [List.getElem?_set_ne q] at hx;have ne:b≠a:=fun z=>by subst z;exact q (w.nd k j b hk hj)
   rw[br ne];exact(w.ob j b x hj hx).pre p
 .obtain⟨⟨o,ho⟩,nb⟩:=w.zb b hb;exact⟨⟨o,by rw[br (nz b hb)];exact ho⟩,nb⟩
 .by_cases q:k=j
  .subst q;rw[hk] at hj;cases hj;exact hf
  .rw [List.getElem?_set_ne q] at hx;exact w.fz j b hj hx
 .obtain⟨o,ho⟩:=w.ff b hb;exact⟨o,by rw[br (fun z=>hf (by rw[<-z];exact hb))];exact ho⟩
 .by_cases q:k=j
  .subst q;rw[List.getElem?_set_self hl] at hx;cases hx;exact absurd rfl xS
  .rw [List.getElem?_set_ne q] at hx;exact w.fi j b hj hx
theorem SW.lp{K:W.Frag}{ρ:P3}{S:aH}(w:SW K cl ρ H S){k:Nat}{a:Addr}{ds:List D}(hk:ρ.r[k]? =some a)(hS:S[k]? =some (.lst ds)) :
 SW K cl ⟨ρ.r,ρ.z,a ::ρ.f⟩ H (S.set k .lp)/\Pre ρ H ⟨ρ.r,ρ.z,a ::ρ.f⟩ H/\Rep K (⟨ρ.r,ρ.z,a ::ρ.f⟩:P3).b H (.lst ds) (.ref a):=by
 have hl:k < S.length:=by rw[<-w.len];exact(List.getElem?_eq_some_iff.mp hk).1
 have sub:∀b,b∈(⟨ρ.r,ρ.z,a ::ρ.f⟩:P3).b->b∈ρ.b:=fun b hb=>by
  rcases P3.ei.mp hb with⟨z,n⟩ | z
  .exact P3.ei.mpr (.inl ⟨z,fun h=>n (List.mem_cons_of_mem _ h)⟩)
  .exact P3.ei.mpr (.inr z)
 have p:Pre ρ H ⟨ρ.r,ρ.z,a ::ρ.f⟩ H:=⟨fun b o e nb=>⟨e,fun hb=>nb (sub b hb)⟩,rfl,fun _ _ _ h=>h,fun _ _ h=>h⟩
 obtain⟨xs,e1,r1⟩:=w.ob k a _ hk hS;refine⟨⟨by rw[List.length_set];exact w.len,w.nd,fun j b x hj hx=>?_,w.zb,fun j b hj hx=>?_,fun b hb=>?_,fun j b hj hx=>?_⟩,p,?_⟩
 .by_cases q:k=j
  .subst q;rw[List.getElem?_set_self hl] at hx;cases hx;rw[hk] at hj;cases hj;exact⟨_,e1⟩
  .rw [List.getElem?_set_ne q] at hx;exact(w.ob j b x hj hx).pre p
 .by_cases q:k=j
  .subst q;rw[List.getElem?_set_self hl] at hx;exact absurd rfl hx
  .rw [List.getElem?_set_ne q] at hx;intro h;rcases List.mem_cons.mp h with z | z
   .subst z;exact q (w.nd k j b hk hj)
   .exact w.fz j b hj hx z
 .rcases List.mem_cons.mp hb with z | z
  .subst z;exact⟨_,e1⟩
  .exact w.ff b z
 .by_cases q:k=j
  .subst q;rw[hk] at hj;cases hj;exact List.mem_cons_self
  .rw [List.getElem?_set_ne q] at hx;exact List.mem_cons_of_mem _ (w.fi j b hj hx)
 .refine Rep.lst.mpr ⟨a,xs,rfl, .inl ⟨fun hb=>?_, .inl e1⟩,r1.bu p.bu⟩
  rcases P3.ei.mp hb with⟨_,n⟩ | z
  .exact n List.mem_cons_self
  .exact(w.zb a z).2 (List.mem_of_getElem? hk)
mutual
def rH:D->Bool
 | .lst _=>false
 | .dct _ _=>false
 | .tup ds=>lh ds
 | _=>true
def lh:List D->Bool
 | []=>true
 | d ::ds=>rH d && lh ds
end
mutual
theorem Rep.yu{K:W.Frag}{B:List Addr}(hB:∀b∈B,∀xs,¬Rd H b (.tup xs)):∀{d:D} {v:V},rH d=true->Rep K [] H d v->Rep K B H d v
 | .cK,v,_,r=>Rep.cK.mpr (Rep.cK.mp r)
 | .bl _,v,_,r=>Rep.bl.mpr (Rep.bl.mp r)
 | .int _,v,_,r=>Rep.int.mpr (Rep.int.mp r)
 | .str _,v,_,r=>Rep.str.mpr (Rep.str.mp r)
 | .lst _,v,h,_=>by unfold rH at h;cases h
 | .dct _ _,v,h,_=>by unfold rH at h;cases h
 | .tup ds,v,h,r=>by
   unfold rH at h;obtain⟨a,xs,rfl,l,rs⟩:=Rep.tup.mp r;exact Rep.tup.mpr ⟨a,xs,rfl,l.elim (fun z=> .inl ⟨fun hb=>hB a hb xs z.2,z.2⟩) .inr,aG.yu hB h rs⟩
theorem aG.yu{K:W.Frag}{B:List Addr}(hB:∀b∈B,∀xs,¬Rd H b (.tup xs)):∀{ds:List D} {vs:List V},lh ds=true->aG K [] H ds vs->aG K B H ds vs
 | [],_,_,r=>by unfold aG at r;subst r;exact aG.nil
 | d ::ds,vs,h,r=>by
   unfold lh at h;obtain⟨h1,h2⟩:=Bool.and_eq_true_iff.mp h;obtain⟨x,xs,rfl,r1,r2⟩:=r.cx;exact aG.cons (Rep.yu hB h1 r1) (aG.yu hB h2 r2)
end
theorem SW.nt{K:W.Frag}{ρ:P3}{S:aH}(w:SW K cl ρ H S):∀b∈ρ.b,∀xs,¬Rd H b (.tup xs):=fun b hb xs h=>by
 have key:∀o,H b=some o->(∀xs,o≠ .tup xs)->(∀ob xs,o≠ .lp ob (.tup xs))->False:=fun o e h1 h2=>by
  rcases h with z | ⟨ob,z⟩
  .rw [e] at z;cases z;exact h1 _ rfl
  .rw [e] at z;cases z;exact h2 _ _ rfl
 rcases P3.ei.mp hb with⟨z,n⟩ | z
 .obtain⟨k,hk⟩:=List.getElem?_of_mem z;have hl:=(List.getElem?_eq_some_iff.mp hk).1;have hS:S[k]? =some (S[k]'(by rw[<-w.len];exact hl)):=List.getElem?_eq_getElem (by rw[<-w.len];exact hl)
  have r:=w.ob k b _ hk hS;generalize S[k]'(by rw[<-w.len];exact hl)=o at r hS
  cases o with
  | lst ds=>obtain⟨ys,e,_⟩:=r;exact key _ e (fun _ q=>by cases q) (fun _ _ q=>by cases q)
  | dct kvs=>obtain⟨ys,e,_⟩:=r;exact key _ e (fun _ q=>by cases q) (fun _ _ q=>by cases q)
  | ins c fs=>obtain⟨dx,ys,e,_⟩:=r;exact key _ e (fun _ q=>by cases q) (fun _ _ q=>by cases q)
  | lp=>exact n (w.fi k b hk hS)
 .obtain⟨⟨ys,e⟩,_⟩:=w.zb b z;exact key _ e (fun _ q=>by cases q) (fun _ _ q=>by cases q)
abbrev DE:=List (Option V3)
structure fN (K:W.Frag) (cl:Nat->Addr) (ρ:P3) (H:Hp) (S:aH) (σ:L2.St) (δ:DE):Prop where
 len:δ.length=σ.length
 sw:SW K cl ρ H S
 val:∀(i:Nat) (d:V3),δ[i]? =some (some d)->∃v,σ[i]? =some (some v)/\bh K ρ H d v
theorem fN.to{K:W.Frag}{S S':aH}{σ:L2.St}{δ:DE}(E:fN K cl ρ H S σ δ)(p:Pre ρ H cV H')(w:SW K cl cV H' S'):fN K cl cV H' S' σ δ:=
 ⟨E.len,w,fun i d e=>let⟨v,h1,h2⟩:=E.val i d e;⟨v,h1,h2.pre p⟩⟩
theorem fN.set{K:W.Frag}{S:aH}{σ:L2.St}{δ:DE}(E:fN K cl ρ H S σ δ){i:Nat}{d:V3}{v:V}(hi:i < σ.length)(r:bh K ρ H d v):fN K cl ρ H S (σ.set i (some v)) (δ.set i (some d)):=
 ⟨by rw[List.length_set,List.length_set];exact E.len,E.sw,fun j d' e=>by
   by_cases h:i=j
   .subst h;rw[List.getElem?_set_self (by rw[E.len];exact hi)] at e
    cases e;exact⟨v,List.getElem?_set_self hi,r⟩
   .rw [List.getElem?_set_ne h] at e ⊢;exact E.val j d' e⟩
def down(δ:DE):aw:=δ.map fun x=>match x with | some (.d d)=> .val d | _=> .un
theorem fN.down{K:W.Frag}{ρ:P3}{S:aH}{σ:L2.St}{δ:DE}(E:fN K cl ρ H S σ δ):eP K [] ρ.b H σ (down δ) where
 len:=by unfold L3.down;rw [List.length_map];exact E.len
 bs:=E.sw.bs
 zb:=fun a ha=>by cases ha
 val:=fun i d e=>by
  unfold L3.down at e;rw[List.getElem?_map] at e;cases q:δ[i]? with
  | none=>rw [q] at e;cases e
  | some x=>
    rw[q] at e
    match x,e,q with
    | some (.d y),e,q=>
      cases e;obtain⟨v,h1,h2⟩:=E.val i _ q;unfold bh at h2;exact⟨v,h1,h2⟩
    | some (.loc k),e,q=>cases e
    | some (.lst k),e,q=>cases e
    | some (.tup k),e,q=>cases e
    | none,e,q=>cases e
 bld:=fun i ds e=>by
  unfold L3.down at e;rw[List.getElem?_map] at e;cases q:δ[i]? with
  | none=>rw [q] at e;cases e
  | some x=>
    rw[q] at e
    match x,e with
    | some (.d y),e=>cases e
    | some (.loc k),e=>cases e
    | some (.lst k),e=>cases e
    | some (.tup k),e=>cases e
    | none,e=>cases e
 dis:=fun i j a ds es e=>by
  unfold L3.down at e;rw[List.getElem?_map] at e;cases q:δ[i]? with
  | none=>rw [q] at e;cases e
  | some x=>
    rw[q] at e
    match x,e with
    | some (.d y),e=>cases e
    | some (.loc k),e=>cases e
    | some (.lst k),e=>cases e
    | some (.tup k),e=>cases e
    | none,e=>cases e
mutual
def res(S:aH):V3->Option D
 | .d x=>some x
 | .loc k=>(match S[k]? with | some (.lst ds)=>some (.lst ds) | _=>none)
 | .lst vs=>(z_ S vs).map D.lst
 | .tup vs=>(z_ S vs).map D.tup
def z_(S:aH):List V3->Option (List D)
 | []=>some []
 | v ::vs=>(res S v).bind fun d=>(z_ S vs).map (d ::·)
end
def cO(S:aH)(δ:DE):aw:=δ.map fun x=>match x with | some v=>(match res S v with | some d=> .val d | none=> .un) | none=> .un
theorem pG{α β:Type}{o:Option α}{f:α->β}{b:β}(h:o.map f=some b):∃a,o=some a/\f a=b:=by
 cases o with
 | none=>cases h
 | some a=>cases h;exact⟨a,rfl,rfl⟩
theorem CC{α β:Type}{o:Option α}{f:α->Option β}{b:β}(h:o.bind f=some b):∃a,o=some a/\f a=some b:=by
 cases o with
 | none=>cases h
 | some a=>exact⟨a,rfl,h⟩
mutual
def gf(n:Nat):V3->Bool
 | .d _=>true
 | .loc k=>decide (n<=k)
 | .lst vs=>rT n vs
 | .tup vs=>rT n vs
def rT(n:Nat):List V3->Bool
 | []=>true
 | v ::vs=>gf n v && rT n vs
end
mutual
theorem bh.resB{K:W.Frag}{ρ:P3}{S:aH}{B':List Addr}{n:Nat}(w:SW K cl ρ H S)(p:dA ρ.b H B' H)(hn:∀(k:Nat) (a:Addr),n<=k->ρ.r[k]? =some a->a ∉ B'):∀{v:V3} {d:D} {x:V},gf n v=true->res S v=some d->bh K ρ H v x->Rep K B' H d x
 | .d y,d,x,_,h,r=>by unfold L3.res at h;cases h;unfold bh at r;exact r.bu p
 | .loc k,d,x,g,h,r=>by
   unfold L3.res at h;unfold bh at r;unfold gf at g;obtain⟨a,h1,rfl⟩:=r;split at h
   .rename_i ds e;cases h;obtain⟨xs,e2,q⟩:=w.ob k a _ h1 e;unfold Rep;exact⟨a,xs,rfl, .inl ⟨hn k a (of_decide_eq_true g) h1, .inl e2⟩,q.bu p⟩
   .cases h
 | .lst vs,d,x,g,h,r=>by
   unfold L3.res at h;unfold gf at g;obtain⟨ds,e,rfl⟩:=pG h;unfold bh at r;obtain⟨a,xs,rfl,l,r⟩:=r;unfold Rep;exact⟨a,xs,rfl,l.bu p,aL.resB w p hn g e r⟩
 | .tup vs,d,x,g,h,r=>by
   unfold L3.res at h;unfold gf at g;obtain⟨ds,e,rfl⟩:=pG h;unfold bh at r;obtain⟨a,xs,rfl,l,r⟩:=r;unfold Rep;exact⟨a,xs,rfl,yJ.bu p l,aL.resB w p hn g e r⟩
theorem aL.resB{K:W.Frag}{ρ:P3}{S:aH}{B':List Addr}{n:Nat}(w:SW K cl ρ H S)(p:dA ρ.b H B' H)(hn:∀(k:Nat) (a:Addr),n<=k->ρ.r[k]? =some a->a ∉ B'):∀{vs:List V3} {ds:List D} {xs:List V},rT n vs=true->z_ S vs=some ds->aL K ρ H vs xs->aG K B' H ds xs
 | [],ds,xs,_,h,r=>by unfold z_ at h;cases h;unfold aL at r;subst r;exact aG.nil
 | v ::vs,ds,xs,g,h,r=>by
   unfold z_ at h;unfold rT at g;obtain⟨g1,g2⟩:=Bool.and_eq_true_iff.mp g;obtain⟨d,e1,h2⟩:=CC h;obtain⟨es,e2,rfl⟩:=pG h2;obtain⟨y,ys,rfl,r1,r2⟩:=r.cx;exact aG.cons (bh.resB w p hn g1 e1 r1) (aL.resB w p hn g2 e2 r2)
end
mutual
theorem ya:∀v:V3,gf 0 v=true
 | .d _=>by unfold gf;rfl
 | .loc k=>by unfold gf;exact decide_eq_true (Nat.zero_le _)
 | .lst vs=>by unfold gf;exact qA vs
 | .tup vs=>by unfold gf;exact qA vs
theorem qA:∀vs:List V3,rT 0 vs=true
 | []=>by unfold rT;rfl
 | v ::vs=>by unfold rT;rw [ya v,qA vs];rfl
end
theorem bh.res{K:W.Frag}{S:aH}(w:SW K cl ρ H S){v:V3}{d:D}{x:V}(h:res S v=some d)(r:bh K ρ H v x):Rep K [] H d x:=
 r.resB w (fun b o e _=>⟨e,by simp⟩) (n:=0) (fun _ _ _ _=>by simp) (ya v) h
theorem tF{S:aH}{δ:DE}{i:Nat}{y:Sl}(e:(cO S δ)[i]? =some y):(∃v d,δ[i]? =some (some v)/\res S v=some d/\y= .val d)\/y= .un:=by
 unfold cO at e;rw[List.getElem?_map] at e;cases q:δ[i]? with
 | none=>rw [q] at e;cases e
 | some x=>
   rw[q] at e;cases x with
   | none=>cases e;exact .inr rfl
   | some v=>
     cases z:res S v with
     | none=>
       have e:some (match res S v with | some d=>Sl.val d | none=> .un)=some y:=e
       rw[z] at e;cases e;exact .inr rfl
     | some d=>
       have e:some (match res S v with | some d=>Sl.val d | none=> .un)=some y:=e
       rw[z] at e;cases e;exact .inl ⟨v,d,rfl,z,rfl⟩
theorem fN.cO{K:W.Frag}{S:aH}{σ:L2.St}{δ:DE}(E:fN K cl ρ H S σ δ):eP K [] [] H σ (cO S δ) where
 len:=by unfold L3.cO;rw [List.length_map];exact E.len
 bs:=fun a ha=>by cases ha
 zb:=fun a ha=>by cases ha
 val:=fun i d e=>by
  rcases tF e with⟨v,d',h1,h2,h3⟩ | h
  .cases h3;obtain⟨x,q1,q2⟩:=E.val i v h1;exact⟨x,q1,q2.res E.sw h2⟩
  .cases h
 bld:=fun i ds e=>by
  rcases tF e with⟨v,d',h1,h2,h3⟩ | h
  .cases h3
  .cases h
 dis:=fun i j a ds es e=>by
  rcases tF e with⟨v,d',h1,h2,h3⟩ | h
  .cases h3
  .cases h
abbrev FX:=DE->aH->R3 V3
abbrev FB:=DE->aH->R3 Bool
abbrev FA:=DE->aH->R3 (List V3)
def tX(K:W.Frag)(cl:Nat->Addr)(f:FX):TE:=fun σ H Q=>∃ρ S δ v S',fN K cl ρ H S σ δ/\f δ S= .ok v S'/\∀u cV H',Pre ρ H cV H'->SW K cl cV H' S'->bh K cV H' v u->Q u H'
def Mv(K:W.Frag)(cl:Nat->Addr)(f:FB):TT:=fun σ H Q=>∃ρ S δ b S',fN K cl ρ H S σ δ/\f δ S= .ok b S'/\∀cV H',Pre ρ H cV H'->SW K cl cV H' S'->Q b H'
def UX(K:W.Frag)(cl:Nat->Addr)(f:FA):TA:=fun σ H Q=>∃ρ S δ vs S',fN K cl ρ H S σ δ/\f δ S= .ok vs S'/\∀us cV H',Pre ρ H cV H'->SW K cl cV H' S'->aL K cV H' vs us->Q us H'
structure PX (X:Cx) (cl:Nat->Addr) (e:Expr) (f:FX):Prop where
 go:PE X e (tX X.K cl f)
structure D4 (X:Cx) (cl:Nat->Addr) (e:Expr) (f:FB):Prop where
 go:PT X e (Mv X.K cl f)
structure IQ (X:Cx) (cl:Nat->Addr) (es:List Expr) (f:FA):Prop where
 go:PA X es (UX X.K cl f)
section
variable {X:Cx} {cl:Nat->Addr}
def xP(f:FD):FX:=fun δ S=>(R3.of (f (down δ)) S).bind fun d S=> .ok (.d d) S
theorem ai(h:QD X e f):PX X cl e (xP f):=⟨h.1.imp fun σ H Q ⟨ρ,S,δ,v,S',E,hf,q⟩=>by
 obtain⟨d,S1,h1,h2⟩:=R3.ak hf;obtain⟨h3,e3⟩:=R3.of_ok h1;cases h2;subst e3;exact⟨[],ρ.b,down δ,d,E.down,h3,fun v H' s r=>q v ρ H' (Pre.same s) (E.sw.same s) (by unfold bh;exact r)⟩⟩
def xT(f:FD):FX:=fun δ S=>(R3.of (f (cO S δ)) S).bind fun d S=>R3.bX (rH d) (.ok (.d d) S)
theorem dS(h:QD X e f):PX X cl e (xT f):=⟨h.1.imp fun σ H Q ⟨ρ,S,δ,v,S',E,hf,q⟩=>by
 obtain⟨d,S1,h1,h2⟩:=R3.ak hf;obtain⟨h4,e3⟩:=R3.of_ok h1;obtain⟨ha,h3⟩:=R3.bp h2;cases h3;subst e3;exact⟨[],[],cO _ δ,d,E.cO,h4,fun v H' s r=>q v ρ H' (Pre.same s) (E.sw.same s) (by unfold bh;exact Rep.yu (E.sw.same s).nt ha r)⟩⟩
def bP(f:aw->R Bool):FB:=fun δ S=>R3.of (f (down δ)) S
theorem cC{f:aw->R Bool}(h:QB X e f):D4 X cl e (bP f):=⟨h.1.imp fun σ H Q ⟨ρ,S,δ,v,S',E,hf,q⟩=>by
 obtain⟨h1,e3⟩:=R3.of_ok hf;subst e3;exact⟨[],ρ.b,down δ,v,E.down,h1,fun H' s=>q ρ H' (Pre.same s) (E.sw.same s)⟩⟩
def bT(f:aw->R Bool):FB:=fun δ S=>R3.of (f (cO S δ)) S
theorem rq{f:aw->R Bool}(h:QB X e f):D4 X cl e (bT f):=⟨h.1.imp fun σ H Q ⟨ρ,S,δ,v,S',E,hf,q⟩=>by
 obtain⟨h1,e3⟩:=R3.of_ok hf;subst e3;exact⟨[],[],cO _ δ,v,E.cO,h1,fun H' s=>q ρ H' (Pre.same s) (E.sw.same s)⟩⟩
def bQ(i:Nat):FX:=fun δ S=>match δ[i]? with | some (some v)=> .ok v S | _=> .no
theorem aO(i:Nat){x:Str}{pos:Pos}(hN:X.N[i]? =some x:=by rfl)(hv:Hz X.env.scope x:=by first | exact Or.inl rfl | exact Or.inr (Or.inl rfl) | exact Or.inr (Or.inr rfl))(hd:(x==("__debug__":Str))=false:=by decide)
 (tI:(x==("__classdict__":Str))=false:=by decide):PX X cl (.Name x pos) (bQ i):=⟨(sU hN hv hd tI).imp fun σ H Q ⟨ρ,S,δ,v,S',E,hf,q⟩=>by
 unfold bQ at hf;split at hf
 .rename_i d' e;cases hf;obtain⟨u,h1,h2⟩:=E.val i _ e;exact⟨u,h1,q u ρ H (Pre.refl ρ H) E.sw h2⟩
 .cases hf⟩
def ng(f:aw->R (List D)):FX:=fun δ S=>(R3.of (f (down δ)) S).bind fun ds S=> .ok (.loc S.length) (S++[.lst ds])
theorem ft{f:aw->R (List D)}(h:QN X e f):PX X cl e (ng f):=⟨h.1.imp fun σ H Q ⟨ρ,S,δ,v,S',E,hf,q⟩=>by
 obtain⟨ds,S1,h1,h2⟩:=R3.ak hf;obtain⟨h3,e3⟩:=R3.of_ok h1;cases h2;subst e3;refine⟨[],ρ.b,down δ,ds,E.down,h3,fun a xs H' s n e r=>?_⟩
 have r':aG X.K (ρ.push a).b H' ds xs:=r.bu fun b o e nb=>⟨e,fun hb=>nb (by
  rcases P3.mem_push hb with z | z
  .exact List.mem_cons_of_mem _ z
  .subst z;exact List.mem_cons_self)⟩
 obtain⟨w,p⟩:=E.sw.new (o:= .lst ds) s n ⟨xs,e,r'⟩;exact q _ _ H' p w (by unfold bh;exact⟨a,by show(ρ.r++[a])[_]? =_;rw [<-E.sw.len,List.getElem?_append_right (by omega),Nat.sub_self];rfl,rfl⟩)⟩
end
end L3
end
section
namespace L3
open PySem PySem.Spec PyProof.Rows L2
section
variable {X:Cx} {cl:Nat->Addr}
def cn:FA:=fun _ S=> .ok [] S
def av(f:FX)(g:FA):FA:=fun δ S=>(f δ S).bind fun v S1=>(g δ S1).bind fun vs S2=> .ok (v ::vs) S2
theorem aJ:IQ X cl [] cn:=⟨gI.imp fun σ H Q ⟨ρ,S,δ,v,S',E,hf,q⟩=>by
 cases hf;exact q [] ρ H (Pre.refl ρ H) E.sw aL.nil⟩
theorem ae(h:PX X cl e f)(t:IQ X cl es g)(hs:starEach (e ::es) X.env=(false,eval e X.env) ::starEach es X.env:=by rfl):IQ X cl (e ::es) (av f g):=
 ⟨(dF h.1 t.1 hs).imp fun σ H Q ⟨ρ,S,δ,v,S',E,hf,q⟩=>by
   obtain⟨v1,S1,h1,h2⟩:=R3.ak hf;obtain⟨vs,S2,h3,h4⟩:=R3.ak h2;cases h4;exact⟨ρ,S,δ,v1,S1,E,h1,fun u bY H1 p1 w1 r1=>⟨bY,S1,δ,vs,_,E.to p1 w1,h3,fun us n5 H2 p2 w2 r2=>q _ n5 H2 (p1.trans p2) w2 (aL.cons (r1.pre p2) r2)⟩⟩⟩
def uQ:List V3->Option (List D)
 | []=>some []
 | .d x ::r=>(uQ r).map (x ::·)
 | _ ::_=>none
theorem j6:∀{vs:List V3} {ds:List D},uQ vs=some ds->vs=ds.map .d
 | [],ds,h=>by cases h;rfl
 | .d x ::r,ds,h=>by
   cases e:uQ r with
   | none=>have h:(uQ r).map (x ::·)=some ds:=h;rw [e] at h;cases h
   | some es=>
     have h:(uQ r).map (x ::·)=some ds:=h
     rw[e] at h;cases h;rw[j6 e];rfl
 | .loc _ ::_,_,h=>by cases h
 | .lst _ ::_,_,h=>by cases h
 | .tup _ ::_,_,h=>by cases h
theorem wO:∀ds:List D,uQ (ds.map .d)=some ds
 | []=>rfl
 | d ::ds=>by show(uQ (ds.map .d)).map (d ::·)=_;rw [wO ds];rfl
def Er(vs:List V3):V3:=match uQ vs with | some ds=> .d (.tup ds) | none=> .tup vs
def uh(vs:List V3):V3:=match uQ vs with | some ds=> .d (.lst ds) | none=> .lst vs
def Au(g:FA):FX:=fun δ S=>(g δ S).bind fun vs S=>R3.bX (decide (vs.length<=sizeLine)) (.ok (Er vs) S)
theorem rG{H:Hp}{p:Addr}{o:HO}(hp:H p=none):Pre ρ H ρ (upd H p o):=Pre.same (aP hp)
theorem FJ{K:W.Frag}{ρ:P3}{vs:List V3}{xs:List V}{a:Addr}(l:yJ K ρ.b H a xs)(r:aL K ρ H vs xs):bh K ρ H (Er vs) (.ref a):=by
 unfold Er;split
 .rename_i ds e;rw[j6 e] at r;unfold bh Rep;exact⟨a,xs,rfl,l,r.to⟩
 .unfold bh;exact⟨a,xs,rfl,l,r⟩
theorem yq{K:W.Frag}{ρ:P3}{vs:List V3}{xs:List V}{a:Addr}(l:wj K ρ.b H a xs)(r:aL K ρ H vs xs):bh K ρ H (uh vs) (.ref a):=by
 unfold uh;split
 .rename_i ds e;rw[j6 e] at r;unfold bh Rep;exact⟨a,xs,rfl,l,r.to⟩
 .unfold bh;exact⟨a,xs,rfl,l,r⟩
theorem su{x1 pos}(h:IQ X cl es g):PX X cl (.Tuple es x1 pos) (Au g):=⟨(Hk h.1).imp fun σ H Q ⟨ρ,S,δ,v,S',E,hf,q⟩=>by
 obtain⟨vs,S1,h1,h2⟩:=R3.ak hf;obtain⟨hl,h3⟩:=R3.bp h2;cases h3;refine⟨ρ,S,δ,vs,_,E,h1,fun us bY H1 p1 w1 r1=>⟨by rw[<-r1.length];exact of_decide_eq_true hl,fun p hp=>q _ bY _ (p1.trans (rG hp)) (w1.same (aP hp)) ?_⟩⟩
 refine FJ (.inl ⟨fun ha=>?_, .inl aV⟩) (r1.pre (rG hp))
 obtain⟨o,ho⟩:=w1.bs p ha;rw[hp] at ho;cases ho⟩
def M9(g:FA):FX:=fun δ S=>(g δ S).bind fun vs S=>R3.bX (decide (vs.length<=sizeLine)) (.ok (uh vs) S)
theorem Ms{pos}(h:IQ X cl es g):PX X cl (.List es pos) (M9 g):=⟨(IE h.1).imp fun σ H Q ⟨ρ,S,δ,v,S',E,hf,q⟩=>by
 obtain⟨vs,S1,h1,h2⟩:=R3.ak hf;obtain⟨hl,h3⟩:=R3.bp h2;cases h3;refine⟨ρ,S,δ,vs,_,E,h1,fun us bY H1 p1 w1 r1=>⟨by rw[<-r1.length];exact of_decide_eq_true hl,fun p hp=>q _ bY _ (p1.trans (rG hp)) (w1.same (aP hp)) ?_⟩⟩
 refine yq (.inl ⟨fun ha=>?_, .inl aV⟩) (r1.pre (rG hp))
 obtain⟨o,ho⟩:=w1.bs p ha;rw[hp] at ho;cases ho⟩
def x2(g:D->D->R D)(fa fb:FX):FX:=fun δ S=>(fa δ S).bind fun a S1=>(fb δ S1).bind fun b S2=>match a,b with
 | .d x, .d y=>(R3.of (g x y) S2).bind fun d S=> .ok (.d d) S
 | _,_=> .no
theorem NL{K:W.Frag}{g:D->D->R D}{σ:L2.St}{Q:VK}(h:tX K cl (x2 g fa fb) σ H Q) :
 O3 (fun x y H Q=>∃B da db d,(∀a∈B,∃o,H a=some o)/\Rep K B H da x/\Rep K B H db y/\g da db= .ok d/\∀z H',bg H H'->Rep K B H' d z->Q z H') (tX K cl fa) (tX K cl fb) σ H Q:=by
 obtain⟨ρ,S,δ,v,S',E,hf,q⟩:=h;obtain⟨a,S1,h1,h2⟩:=R3.ak hf;obtain⟨b,S2,h3,h4⟩:=R3.ak h2
 match a,b,h1,h3,h4 with
 | .d x, .d y,h1,h3,h4=>
   obtain⟨d,S3,h5,h6⟩:=R3.ak h4;obtain⟨h7,e⟩:=R3.of_ok h5;cases h6;subst e;refine⟨ρ,S,δ, .d x,S1,E,h1,fun u1 bY H1 p1 w1 r1=>⟨bY,S1,δ, .d y,_,E.to p1 w1,h3,fun u2 n5 H2 p2 w2 r2=>?_⟩⟩
   have r6:=r1.pre p2;unfold bh at r6 r2;exact⟨n5.b,x,y,d,w2.bs,r6,r2,h7,fun z H' s r=>q z n5 H' (p1.trans (p2.trans (Pre.same s))) (w2.same s) (by unfold bh;exact r)⟩
 | .d x, .loc _,_,_,h4=>cases h4
 | .d x, .lst _,_,_,h4=>cases h4
 | .d x, .tup _,_,_,h4=>cases h4
 | .loc _,_,_,_,h4=>cases h4
 | .lst _,_,_,_,h4=>cases h4
 | .tup _,_,_,_,h4=>cases h4
theorem AB{op:Operator}{g:D->D->R D}(ho:lG X (binaryOp op) g)(ha:PX X cl a fa)(hb:PX X cl b fb):PX X cl (.BinOp a op b pos) (x2 g fa fb):=
 ⟨(Dh ho.r ha.1 hb.1).imp fun σ H Q h=>NL h⟩
theorem HJ{op:CmpOp}{g:D->D->R D}(ho:lG X (compareOp op) g)(ha:PX X cl a fa)(hb:PX X cl b fb)(hm:behindInMarks op b=false):PX X cl (.Compare a [op] [b] pos) (x2 g fa fb):=
 ⟨(DT ho.r ha.1 hb.1 hm).imp fun σ H Q h=>NL h⟩
def O7(g:D->D->R D)(fa fb:FX):FB:=fun δ S=>(x2 g fa fb δ S).bind fun v S=>match v with | .d (.bl b)=> .ok b S | _=> .no
theorem u6{op:CmpOp}{g:D->D->R D}(ho:lG X (compareOp op) g)(ha:PX X cl a fa)(hb:PX X cl b fb)(hm:behindInMarks op b=false):D4 X cl (.Compare a [op] [b] pos) (O7 g fa fb):=
 ⟨(DL ho.r ha.1 hb.1 hm).imp fun σ H Q ⟨ρ,S,δ,b,S',E,hf,q⟩=>by
   obtain⟨v,S1,h1,h2⟩:=R3.ak hf;have hv:v= .d (.bl b)/\S1=S':=by
    match v,h2 with
    | .d (.bl k),h2=>cases h2;exact⟨rfl,rfl⟩
    | .d .cK,h2=>cases h2
    | .d (.int _),h2=>cases h2
    | .d (.str _),h2=>cases h2
    | .d (.lst _),h2=>cases h2
    | .d (.tup _),h2=>cases h2
    | .d (.dct _ _),h2=>cases h2
    | .loc _,h2=>cases h2
    | .lst _,h2=>cases h2
    | .tup _,h2=>cases h2
   obtain⟨rfl,rfl⟩:=hv;exact NL (g:=g) (Q:=fun x H'=>∃k,x= .bl k/\Q k H') ⟨ρ,S,δ,_,_,E,h1,fun u cV H' p w r=>⟨b,by unfold bh Rep at r;exact r,q cV H' p w⟩⟩⟩
inductive Ou where
 | nx (δ:DE) | rt (v:V3)
abbrev FZ:=DE->aH->R3 Ou
def KZ(K:W.Frag)(cl:Nat->Addr)(ρ:P3)(H:Hp)(D:Ends)(S':aH):Ou->Prop
 | .nx eg=>∀c0 cV H',Pre ρ H cV H'->fN K cl cV H' S' c0 eg->D.nx c0 H'
 | .rt v=>∀u cV H',Pre ρ H cV H'->SW K cl cV H' S'->bh K cV H' v u->D.rt u H'
theorem KZ.pre{K:W.Frag}{D:Ends}{S':aH}{o:Ou}(q:KZ K cl ρ H D S' o)(p:Pre ρ H bY H1):KZ K cl bY H1 D S' o:=by
 cases o with
 | nx eg=>exact fun c0 cV H' p' E'=>q c0 cV H' (p.trans p') E'
 | rt d=>exact fun v cV H' p' w r=>q v cV H' (p.trans p') w r
def sX(K:W.Frag)(cl:Nat->Addr)(F:FZ):TS:=fun D σ H=>∃ρ S δ o S',fN K cl ρ H S σ δ/\F δ S= .ok o S'/\KZ K cl ρ H D S' o
structure PZ (X:Cx) (cl:Nat->Addr) (st:Stmt) (F:FZ):Prop where
 go:PS X st (sX X.K cl F)
structure EL (X:Cx) (cl:Nat->Addr) (st:List Stmt) (F:FZ):Prop where
 go:y7 X st (sX X.K cl F)
def gy:FZ:=fun δ S=> .ok (.nx δ) S
def aU(F G:FZ):FZ:=fun δ S=>(F δ S).bind fun o S1=>match o with | .nx eg=>G eg S1 | .rt d=> .ok (.rt d) S1
theorem cP:EL X cl [] gy:=⟨zh.imp fun D σ H ⟨ρ,S,δ,o,S',E,hf,q⟩=>by
 cases hf;exact q σ ρ H (Pre.refl ρ H) E⟩
theorem ao{st:Stmt}{rest:List Stmt}(h1:PZ X cl st F)(h2:EL X cl rest G):EL X cl (st ::rest) (aU F G):=⟨(vG h1.1 h2.1).imp fun D σ H ⟨ρ,S,δ,o,S',E,hf,q⟩=>by
 obtain⟨o1,S1,h1,h2⟩:=R3.ak hf;refine⟨ρ,S,δ,o1,S1,E,h1,?_⟩;cases o1 with
 | nx δ1=>
   intro Jw bY H1 p1 E1;exact⟨bY,S1,δ1,o,S',E1,h2,q.pre p1⟩
 | rt d=>
   cases h2;exact q⟩
theorem ay{st:Stmt}(h1:PZ X cl st F):EL X cl [st] F:=⟨yX h1.1⟩
def bB(i:Nat)(f:FX):FZ:=fun δ S=>(f δ S).bind fun v S=>R3.bX (decide (i < δ.length)) (.ok (.nx (δ.set i (some v))) S)
theorem aN{i:Nat}{pos pos':Pos}(hN:X.N.Nodup)(hi:X.N[i]? =some x)(hx:Loc X.env.scope x)(he:PX X cl e f)(hs:swapsWith e (some (.Name x pos')) pos.line X.env=pure false:=by rfl)(hf:X.fn x=true\/X.env.scope.names.lookup x=some .local:=by first | exact .inl rfl | exact .inr rfl | assumption) :
 PZ X cl (.Assign [.Name x pos'] e pos) (bB i f):=⟨(B9 hN hi hx he.1 hs hf).imp fun D σ H ⟨ρ,S,δ,o,S',E,hf,q⟩=>by
 obtain⟨v,S1,h1,h2⟩:=R3.ak hf;obtain⟨hi,h3⟩:=R3.bp h2;cases h3;refine⟨ρ,S,δ,v,_,E,h1,fun u bY H1 p1 w1 r1=>?_⟩
 exact q _ bY H1 p1 ((E.to p1 w1).set (by rw[<-E.len];exact of_decide_eq_true hi) r1)⟩
def fZ(f:FX):FZ:=fun δ S=>(f δ S).bind fun v S=> .ok (.rt v) S
theorem cy(he:PX X cl e f):PZ X cl (.Return (some e) pos) (fZ f):=⟨(Ht he.1).imp fun D σ H ⟨ρ,S,δ,o,S',E,hf,q⟩=>by
 obtain⟨v,S1,h1,h2⟩:=R3.ak hf;cases h2;exact⟨ρ,S,δ,v,_,E,h1,fun u bY H1 p1 w1 r1=>q u bY H1 p1 w1 r1⟩⟩
def n9(c:FB)(F G:FZ):FZ:=fun δ S=>(c δ S).bind fun b S=>if b then F δ S else G δ S
theorem eR(hc:D4 X cl c fc)(ha:EL X cl a F)(hb:EL X cl b G):PZ X cl (.If c a b pos) (n9 fc F G):=⟨(GH hc.1 ha.1 hb.1).imp fun D σ H ⟨ρ,S,δ,o,S',E,hf,q⟩=>by
 obtain⟨k,S1,h1,h2⟩:=R3.ak hf;refine⟨ρ,S,δ,k,S1,E,h1,fun bY H1 p1 w1=>?_⟩
 cases k with
 | true=>rw [if_pos rfl] at h2;exact FU ⟨bY,S1,δ,o,S',E.to p1 w1,h2,q.pre p1⟩
 | false=>rw [if_neg (by decide)] at h2;exact Fi ⟨bY,S1,δ,o,S',E.to p1 w1,h2,q.pre p1⟩⟩
def Vj(f:FX):FZ:=fun δ S=>(f δ S).bind fun _ S=> .ok (.nx δ) S
def mZ(c:FB)(body:FZ):Nat->FZ
 | 0,_,_=> .no
 | n+1,δ,S=>(c δ S).bind fun b S=>if b then(body δ S).bind fun o S=>match o with | .nx du=>mZ c body n du S | .rt r=> .ok (.rt r) S else .ok (.nx δ) S
def B5(n:Nat)(c:FB)(body:FZ):FZ:=fun δ S=>mZ c body n δ S
theorem Iv(n:Nat)(hp:PassesOwn (model X.prog X.w) X.A X.env X.xe)(hc:D4 X cl c fc)(hb:EL X cl body F):PZ X cl (.While c body [] pos) (B5 n fc F):=
 ⟨(Gf hp hc.1 hb.1).imp fun D σ H ⟨ρ,S,δ,o,S',E,hf,q⟩=>by
   refine⟨fun m c0 H'=>∃bY S1 δ1,Pre ρ H bY H'/\fN X.K cl bY H' S1 c0 δ1/\mZ fc F m δ1 S1= .ok o S',⟨n,ρ,S,δ,Pre.refl ρ H,E,hf⟩,?_⟩
   rintro m c0 H' ⟨bY,S1,δ1,p1,E1,hw⟩;cases m with
   | zero=>cases hw
   | succ m=>
     obtain⟨b,S2,h1,h2⟩:=R3.ak hw;refine⟨bY,S1,δ1,b,S2,E1,h1,fun n5 H2 p2 w2=>?_⟩
     cases b with
     | false=>
       rw[if_neg (by decide)] at h2
       cases h2;exact Fi (q c0 n5 H2 (p1.trans p2) (E1.to p2 w2))
     | true=>
       rw[if_pos rfl] at h2;obtain⟨o1,S3,h3,h4⟩:=R3.ak h2;refine FU ⟨fun VD H4=>∃Ja S4 RT,Pre ρ H Ja H4/\fN X.K cl Ja H4 S4 VD RT/\mZ fc F m RT S4= .ok o S',fun VD H4 n=>⟨m,Nat.lt_succ_self _,n⟩,n5,S2,δ1,o1,S3,E1.to p2 w2,h3,?_⟩
       cases o1 with
       | nx du=>exact fun Bo zH H3 p3 E3=>⟨zH,S3,du,(p1.trans p2).trans p3,E3,h4⟩
       | rt d=>
         cases h4;exact fun v zH H3 p3 w r=>q v zH H3 ((p1.trans p2).trans p3) w r⟩
end
end L3
end
section
namespace L3
open PySem PySem.Spec PyProof.Rows L2
theorem aL.get{K:W.Frag}:∀{ds:List V3} {xs:List V} {i:Nat} {d:V3},aL K ρ H ds xs->ds[i]? =some d->∃x,xs[i]? =some x/\bh K ρ H d x
 | [],_,_,_,_,e=>by simp at e
 | d ::ds,xs,0,d',h,e=>by
   obtain⟨x,r,rfl,h1,h2⟩:=h.cx;simp at e;subst e;exact⟨x,rfl,h1⟩
 | d ::ds,xs,i+1,d',h,e=>by
   obtain⟨x,r,rfl,h1,h2⟩:=h.cx;obtain⟨y,e1,e2⟩:=aL.get (i:=i) h2 (by simpa using e)
   exact⟨y,by simpa using e1,e2⟩
def O9(K:W.Frag)(ρ:P3)(H:Hp)(J:It)(vs:List V3):Prop:=∀cV H',PW ρ H cV H'->(∀a∈cV.b,∃o,H' a=some o)->(∀(i:Nat) (d:V3),vs[i]? =some d->J.go i H'/\∀x n_,J.yld i H' x n_->bg H' n_/\bh K cV n_ d x)/\J.stop vs.length H'
theorem O9.of{K:W.Frag}{ρ:P3}{J:It}{ds:List D}(h:IJ K ρ.b H J ds):O9 K ρ H J (ds.map .d):=fun cV H' p bs=>by
 obtain⟨h1,h2⟩:=h cV.b H' p.bu;refine⟨fun i v hv=>?_,by rw[List.length_map];exact h2⟩
 rw[List.getElem?_map] at hv;cases e:ds[i]? with
 | none=>rw [e] at hv;cases hv
 | some d=>
   rw[e] at hv;cases hv;obtain⟨g1,g2⟩:=h1 i d e;exact⟨g1,fun x n_ y=>let⟨s,r⟩:=g2 x n_ y bs;⟨s,by unfold bh;exact r⟩⟩
def US(K:W.Frag)(cl:Nat->Addr)(f:FA):TI:=fun σ H R=>∃ρ S δ vs S',fN K cl ρ H S σ δ/\f δ S= .ok vs S'/\∀J bY H1,Pre ρ H bY H1->SW K cl bY H1 S'->O9 K bY H1 J vs->R J H1
structure L7 (X:Cx) (cl:Nat->Addr) (tg e:Expr) (f:FA):Prop where
 go:PI X tg e (US X.K cl f)
section
variable {X:Cx} {cl:Nat->Addr}
def iP(f:aw->R (List D)):FA:=fun δ S=>(R3.of (f (down δ)) S).bind fun ds S=> .ok (ds.map .d) S
theorem cw{f:aw->R (List D)}(h:Bu X tg e f):L7 X cl tg e (iP f):=⟨h.1.imp fun σ H Q ⟨ρ,S,δ,vs,S',E,hf,q⟩=>by
 obtain⟨ds,S1,h1,h2⟩:=R3.ak hf;obtain⟨h3,e3⟩:=R3.of_ok h1;cases h2;subst e3;exact⟨[],ρ.b,down δ,ds,E.down,h3,fun J H1 s r=>q J ρ H1 (Pre.same s) (E.sw.same s) (O9.of r)⟩⟩
def uf(f:FX):FA:=fun δ S=>(f δ S).bind fun v S=>match v with | .d (.int j)=>R3.bX (decide (-(2 ^ 62)<=j/\j < 2 ^ 62)) (.ok ((eY 0 j.toNat).map .d) S) | _=> .no
theorem mV{tg a:Expr}{p pos:Pos}(h:PX X cl a f)(hg:Gl X "range")(hm:X.mg "range"=none)(hs:starEach [a] X.env=[(false,eval a X.env)]:=by rfl):L7 X cl tg (.Call (.Name "range" p) [a] [] pos) (uf f):=
 ⟨(xW hg hm (dF h.1 gI hs) hs).imp fun σ H RR ⟨ρ,S,δ,vs,S',E,hf,q⟩=>by
   obtain⟨v,S1,h1,h2⟩:=R3.ak hf
   match v,h1,h2 with
   | .d (.int j),h1,h2=>
     obtain⟨hb,h3⟩:=R3.bp h2;cases h3;have hb:=of_decide_eq_true hb;refine⟨ρ,S,δ, .d (.int j),_,E,h1,fun u bY H1 p1 w1 r1=>⟨j,?_,hb.1,hb.2,q _ bY H1 p1 w1 (O9.of (Hh 0 _))⟩⟩
     unfold bh Rep at r1;rw[r1]
   | .d .cK,_,h2=>cases h2
   | .d (.bl _),_,h2=>cases h2
   | .d (.str _),_,h2=>cases h2
   | .d (.lst _),_,h2=>cases h2
   | .d (.tup _),_,h2=>cases h2
   | .d (.dct _ _),_,h2=>cases h2
   | .loc _,_,h2=>cases h2
   | .lst _,_,h2=>cases h2
   | .tup _,_,h2=>cases h2⟩
def xF(f:FX):FA:=fun δ S=>(f δ S).bind fun v S=>match v with | .d (.lst ds)=> .ok (ds.map .d) S | .lst vs=> .ok vs S | _=> .no
theorem nB(h:PX X cl e f):L7 X cl tg e (xF f):=⟨by
 intro pins s σ H RR I ⟨ρ,S,δ,vs,S',E,hf,q⟩;obtain⟨v,S1,h1,h2⟩:=R3.ak hf;refine dR (h.1 pins s σ H (fun u H1=>∃bY,Pre ρ H bY H1/\SW X.K cl bY H1 S1/\bh X.K bY H1 v u) I ⟨ρ,S,δ,v,S1,E,h1,fun u bY H1 p1 w1 r1=>⟨bY,p1,w1,r1⟩⟩) fun u s1 ⟨x,H1,I1,r1,bY,p1,w1,rr⟩=>?_
 have key:S1=S'/\∃a xs,x= .ref a/\wj X.K bY.b H1 a xs/\aL X.K bY H1 vs xs:=by
  match v,h2,rr with
  | .d (.lst ds),h2,rr=>
    cases h2;unfold bh Rep at rr;obtain⟨a,xs,e,l,r⟩:=rr;exact⟨rfl,a,xs,e,l,aL.of r⟩
  | .lst ws,h2,rr=>
    cases h2;unfold bh at rr;exact⟨rfl,rr⟩
  | .d .cK,h2,_=>cases h2
  | .d (.bl _),h2,_=>cases h2
  | .d (.int _),h2,_=>cases h2
  | .d (.str _),h2,_=>cases h2
  | .d (.tup _),h2,_=>cases h2
  | .d (.dct _ _),h2,_=>cases h2
  | .loc _,h2,_=>cases h2
  | .tup _,h2,_=>cases h2
 obtain⟨rfl,a,xs,rfl,l,rr⟩:=key;cases r1;obtain⟨its,rv,p,hz⟩:=I1.list l.sq;refine wpAny_pyIter_list p.isList ?_;refine⟨s1.heap.objs.size,[s1.heap.objs.size],_,_,H1,rfl,I1.kept (t':=s1.toks) fun b o e=>Heap.get?_push_of_some _ e,xX a _,⟨_,Heap.get?_push_size _ rfl,rfl,rfl⟩,fun b hb=>?_,q _ bY H1 p1 w1 fun cV H' pr bs=>?_⟩
 .have e:b=s1.heap.objs.size:=by simpa using hb
  subst e;exact I1.wJ (Nat.le_refl _) (I1.hok.fresh (Nat.le_refl _))
 .have l':wj X.K cV.b H' a xs:=l.bu pr.bu;have OM:=rr.pw pr;refine⟨fun i d hd=>?_,⟨xs,l'.sq,by rw[rr.length];exact Nat.le_refl _⟩⟩
  obtain⟨x,hx,rx⟩:=OM.get hd;exact⟨⟨xs,x,l'.sq,hx⟩,fun y n_ ⟨e1,e2⟩=>by
   subst e1;have:=e2 xs l'.sq;rw[hx] at this;cases this;exact⟨bg.refl _,rx⟩⟩⟩
abbrev FG:=V3->DE->Option DE
abbrev KD:=List V3->DE->Option DE
def gX(K:W.Frag)(cl:Nat->Addr)(t:FG):TG:=fun v σ H Q=>∃ρ S δ x eg,fN K cl ρ H S σ δ/\bh K ρ H x v/\t x δ=some eg/\∀c0 H',bg H H'->fN K cl ρ H' S c0 eg->Q c0 H'
def Wg(K:W.Frag)(cl:Nat->Addr)(t:KD):HV:=fun v σ H Q=>∃ρ S δ x eg,fN K cl ρ H S σ δ/\aL K ρ H x v/\t x δ=some eg/\∀c0 H',bg H H'->fN K cl ρ H' S c0 eg->Q c0 H'
structure LF (X:Cx) (cl:Nat->Addr) (tg:Expr) (t:FG):Prop where
 go:PG X tg (gX X.K cl t)
structure JW (X:Cx) (cl:Nat->Addr) (tg:List Expr) (t:KD):Prop where
 go:Kh X tg (Wg X.K cl t)
theorem fN.same{K:W.Frag}{S:aH}{σ:L2.St}{δ:DE}(E:fN K cl ρ H S σ δ)(s:bg H H'):fN K cl ρ H' S σ δ:=E.to (Pre.same s) (E.sw.same s)
def jH(i:Nat):FG:=fun d δ=>if i < δ.length then some (δ.set i (some d)) else none
theorem aQ{i:Nat}{pos:Pos}(hN:X.N.Nodup)(hi:X.N[i]? =some x)(hx:Loc X.env.scope x)(hf:X.fn x=true\/X.env.scope.names.lookup x=some .local:=by first | exact .inl rfl | exact .inr rfl | assumption):LF X cl (.Name x pos) (jH i):=
 ⟨(DA hN hi hx hf).imp fun v σ H Q ⟨ρ,S,δ,d,eg,E,r,ht,q⟩=>by
   unfold jH at ht;split at ht
   .rename_i hi;cases ht;exact q _ H (bg.refl H) (E.set (by rw[<-E.len];exact hi) r)
   .cases ht⟩
def GL:KD:=fun ds δ=>match ds with | []=>some δ | _=>none
def xo(t:FG)(u:KD):KD:=fun ds δ=>match ds with | d ::r=>(t d δ).bind fun eg=>u r eg | []=>none
theorem f7:JW X cl [] GL:=⟨Dn.imp fun vs σ H Q ⟨ρ,S,δ,ds,eg,E,r,ht,q⟩=>by
 cases ds with
 | nil=>unfold aL at r;cases ht;exact⟨r,q σ H (bg.refl H) E⟩
 | cons=>cases ht⟩
theorem bU{u:KD}(h1:LF X cl e t)(h2:JW X cl es u)(hs:(assignEach (e ::es) X.env).map (·.2)=assign e X.env ::(assignEach es X.env).map (·.2):=by rfl):JW X cl (e ::es) (xo t u):=
 ⟨(Ab h1.1 h2.1 hs).imp fun vs σ H Q ⟨ρ,S,δ,ds,eg,E,r,ht,q⟩=>by
   cases ds with
   | nil=>cases ht
   | cons d ds=>
     obtain⟨x,xs,rfl,r1,r2⟩:=r.cx;have ht:(t d δ).bind (fun eg=>u ds eg)=some eg:=ht
     cases e1:t d δ with
     | none=>rw [e1] at ht;cases ht
     | some δ1=>
       rw[e1] at ht;exact⟨x,xs,rfl,ρ,S,δ,d,δ1,E,r1,e1,fun Jw H1 s1 E1=>⟨ρ,S,δ1,ds,eg,E1,r2.pre (Pre.same s1),ht,fun xl H2 s2 E2=>q xl H2 (s1.trans s2) E2⟩⟩⟩
def F_(n:Nat)(t:KD):FG:=fun d δ=>match d with
 | .d (.tup ds)=>if ds.length=n then t (ds.map .d) δ else none
 | .tup vs=>if vs.length=n then t vs δ else none
 | _=>none
theorem jl{k:Nat}{t:KD}{n:Nat}{pos:Pos}(hc:X.calm=true)(h:JW X cl es t)(hn:(assignEach es X.env).length=n:=by rfl)(Jj:(assignEach es X.env).findIdx? (·.1)=none:=by rfl):LF X cl (.Tuple es k pos) (F_ n t):=
 ⟨(Hm hc h.1 hn Jj).imp fun v σ H Q ⟨ρ,S,δ,d,eg,E,r,ht,q⟩=>by
   have key:∃vs a xs,v= .ref a/\yJ X.K ρ.b H a xs/\aL X.K ρ H vs xs/\vs.length=n/\t vs δ=some eg:=by
    unfold F_ at ht;split at ht
    .rename_i ds;split at ht
     .rename_i hl;unfold bh Rep at r;obtain⟨a,xs,e,l,r⟩:=r;exact⟨ds.map .d,a,xs,e,l,aL.of r,by rw[List.length_map];exact hl,ht⟩
     .cases ht
    .rename_i vs;split at ht
     .rename_i hl;unfold bh at r;obtain⟨a,xs,e,l,r⟩:=r;exact⟨vs,a,xs,e,l,r,hl,ht⟩
     .cases ht
    .cases ht
   obtain⟨vs,a,xs,rfl,l,r,hl,ht⟩:=key;exact⟨a,xs,rfl,l.sq,by rw[<-r.length];exact hl,ρ,S,δ,vs,eg,E,r,ht,q⟩⟩
def J8(f:FX)(t:FG):FZ:=fun δ S=>(f δ S).bind fun d S=>match t d δ with | some eg=> .ok (.nx eg) S | none=> .no
theorem IC{tg e:Expr}{f:FX}{t:FG}{pos:Pos}(he:PX X cl e f)(hg:LF X cl tg t)(hs:swapsWithSole [tg] e pos.line X.env=pure false:=by rfl)(hw:swappedStores [tg] e X.env=pure none:=by rfl)
 (h1:(assignEach [tg] X.env).map (·.2)=[assign tg X.env]:=by rfl):PZ X cl (.Assign [tg] e pos) (J8 f t):=⟨(BJ he.1 hg.1 hs hw h1).imp fun D σ H ⟨ρ,S,δ,o,S',E,hf,q⟩=>by
 obtain⟨d,S1,h1,h2⟩:=R3.ak hf;split at h2
 .rename_i δ1 e1;cases h2;exact⟨ρ,S,δ,d,_,E,h1,fun v bY H1 p1 w1 r1=>⟨bY,_,δ,d,δ1,E.to p1 w1,r1,e1,fun c0 H2 s2 E2=>q c0 bY H2 (p1.trans (Pre.same s2)) E2⟩⟩
 .cases h2⟩
def jU(t:FG)(body:FZ):List V3->FZ
 | [],δ,S=> .ok (.nx δ) S
 | d ::ds,δ,S=>match t d δ with
   | none=> .no
   | some δ1=>(body δ1 S).bind fun o S=>match o with | .nx du=>jU t body ds du S | .rt r=> .ok (.rt r) S
def iC(it:FA)(t:FG)(body:FZ):FZ:=fun δ S=>(it δ S).bind fun vs S=>jU t body vs δ S
theorem dr{tg iter:Expr}{body:List Stmt}{it:FA}{t:FG}{F:FZ}{pos:Pos}(hp:PassesOwn (model X.prog X.w) X.A X.env X.xe)(hc:X.calm=true)(hi:L7 X cl tg iter it)(hg:LF X cl tg t)(hb:EL X cl body F)
 (hs:∀x,foldedSetIterable iter X.env x=pure x:=by intro _;rfl):PZ X cl (.For tg iter body [] pos) (iC it t F):=⟨(CJ hp hc hi.1 hg.1 hb.1 hs).imp fun D σ H ⟨ρ,S,δ,o,S',E,hf,q⟩=>by
 obtain⟨ds,S0,h1,h2⟩:=R3.ak hf;refine⟨ρ,S,δ,ds,S0,E,h1,fun J bY H1 p1 w1 ir=>?_⟩
 refine⟨fun i m c0 H'=>m=ds.length - i/\i<=ds.length/\∃cV S1 eg,Pre bY H1 cV H'/\fN X.K cl cV H' S1 c0 eg/\jU t F (ds.drop i) eg S1= .ok o S',⟨ds.length,rfl,Nat.zero_le _,bY,S0,δ,Pre.refl bY H1,E.to p1 w1,by simpa using h2⟩,?_⟩
 rintro i m c0 H' ⟨rfl,hi,cV,S1,eg,pv,E',hl⟩;obtain⟨go,stop⟩:=ir cV H' pv.pw E'.sw.bs;by_cases hlt:i < ds.length
 .have hd:ds[i]? =some ds[i]:=List.getElem?_eq_getElem hlt;have hdrop:ds.drop i=ds[i] ::ds.drop (i+1):=List.drop_eq_getElem_cons hlt;rw[hdrop] at hl;unfold jU at hl;split at hl
  .cases hl
  .rename_i δ1 h3;obtain⟨o1,S2,h5,h6⟩:=R3.ak hl;obtain⟨g1,g2⟩:=go i _ hd;refine .inr ⟨g1,fun xl H2=>∃n5 S2 du,Pre bY H1 n5 H2/\fN X.K cl n5 H2 S2 xl du/\jU t F (ds.drop (i+1)) du S2= .ok o S',fun xl H2 n=>⟨ds.length - (i+1),by omega,rfl,hlt,n⟩,fun x n_ y=>?_⟩
   obtain⟨ss,rr⟩:=g2 x n_ y;refine⟨cV,S1,eg,ds[i],δ1,E'.same ss,rr,h3,fun xl H2 s2 E2=>⟨cV,S1,δ1,o1,S2,E2,h5,?_⟩⟩
   have pv2:Pre bY H1 cV H2:=pv.trans (Pre.same (ss.trans s2));cases o1 with
   | nx du=>exact fun Bo zH H3 p3 E3=>⟨zH,S2,du,pv2.trans p3,E3,h6⟩
   | rt d=>
     cases h6;exact fun v zH H3 p3 w r=>q v zH H3 (p1.trans (pv2.trans p3)) w r
 .have e:i=ds.length:=by omega
  subst e;rw[List.drop_length] at hl;cases hl;exact .inl ⟨stop,q c0 cV H' (p1.trans pv) E'⟩⟩
end
end L3
end
section
namespace L3
open PySem PySem.Spec PyProof.Rows L2
mutual
def oG(n:Nat):V3->Bool
 | .d _=>true
 | .loc k=>decide (k < n)
 | .lst vs=>ku n vs
 | .tup vs=>ku n vs
def ku(n:Nat):List V3->Bool
 | []=>true
 | v ::vs=>oG n v && ku n vs
end
def pM(n:Nat):SO->Bool
 | .ins _ fs=>ku n (fs.map (·.2))
 | _=>true
theorem K4{ρ:P3}{n:Nat}{b:Addr}(h:b∈(ρ.cut n).b):b∈ρ.b:=by
 rcases P3.ei.mp h with z | z
 .exact P3.ei.mpr (.inl ⟨List.mem_of_mem_take z.1,z.2⟩)
 .exact P3.ei.mpr (.inr z)
theorem kT{ρ:P3}(n:Nat):dA ρ.b H (ρ.cut n).b H:=fun b o e nb=>⟨e,fun hb=>nb (K4 hb)⟩
mutual
theorem bh.cut{K:W.Frag}{ρ:P3}{n:Nat}:∀{v:V3} {x:V},oG n v=true->bh K ρ H v x->bh K (ρ.cut n) H v x
 | .d y,x,_,h=>by unfold bh at h ⊢;exact h.bu (kT n)
 | .loc k,x,o,h=>by
   unfold bh at h ⊢;unfold oG at o;obtain⟨a,h1,h2⟩:=h;exact⟨a,by show(ρ.r.take n)[k]? =_;rw [List.getElem?_take_of_lt (of_decide_eq_true o)];exact h1,h2⟩
 | .lst vs,x,o,h=>by
   unfold bh at h ⊢;unfold oG at o;obtain⟨a,xs,e,l,r⟩:=h;exact⟨a,xs,e,l.bu (kT n),aL.cut o r⟩
 | .tup vs,x,o,h=>by
   unfold bh at h ⊢;unfold oG at o;obtain⟨a,xs,e,l,r⟩:=h;exact⟨a,xs,e,yJ.bu (kT n) l,aL.cut o r⟩
theorem aL.cut{K:W.Frag}{ρ:P3}{n:Nat}:∀{vs:List V3} {xs:List V},ku n vs=true->aL K ρ H vs xs->aL K (ρ.cut n) H vs xs
 | [],_,_,h=>by unfold aL at h ⊢;exact h
 | v ::vs,xs,o,h=>by
   unfold ku at o;obtain⟨o1,o2⟩:=Bool.and_eq_true_iff.mp o;obtain⟨x,r,rfl,h1,h2⟩:=h.cx;exact aL.cons (bh.cut o1 h1) (aL.cut o2 h2)
end
theorem SW.cut{K:W.Frag}{ρ:P3}{S:aH}(w:SW K cl ρ H S){n:Nat}(ok:(S.take n).all (pM n)=true):SW K cl (ρ.cut n) H (S.take n):=
 ⟨by show(ρ.r.take n).length=_;rw [List.length_take,List.length_take,w.len],fun i j a hi hj=>by
   have hi:(ρ.r.take n)[i]? =some a:=hi;have hj:(ρ.r.take n)[j]? =some a:=hj;have gi:ρ.r[i]? =some a:=by
    rw[List.getElem?_take] at hi;split at hi
    .exact hi
    .cases hi
   have gj:ρ.r[j]? =some a:=by
    rw[List.getElem?_take] at hj;split at hj
    .exact hj
    .cases hj
   exact w.nd i j a gi gj,fun k a o hk ho=>by
   have hk:(ρ.r.take n)[k]? =some a:=hk;have gk:ρ.r[k]? =some a:=by
    rw[List.getElem?_take] at hk;split at hk
    .exact hk
    .cases hk
   have go:S[k]? =some o:=by
    rw[List.getElem?_take] at ho;split at ho
    .exact ho
    .cases ho
   have r:=w.ob k a o gk go;have oo:pM n o=true:=List.all_eq_true.mp ok o (List.mem_of_getElem? ho);cases o with
   | lst ds=>obtain⟨xs,e,q⟩:=r;exact⟨xs,e,q.bu (kT n)⟩
   | dct kvs=>obtain⟨ys,e,e2,q⟩:=r;exact⟨ys,e,e2,q.bu (kT n)⟩
   | ins c fs=>obtain⟨dx,ys,e,e2,q⟩:=r;exact⟨dx,ys,e,e2,q.cut oo⟩
   | lp=>exact r,fun b hb=>let⟨h1,h2⟩:=w.zb b hb;⟨h1,fun h=>h2 (List.mem_of_mem_take h)⟩,(fun k a hk ho=>by
   have hk:(ρ.r.take n)[k]? =some a:=hk;rw[List.getElem?_take] at hk;split at hk
   .rename_i hlt;rw[List.getElem?_take_of_lt hlt] at ho;exact w.fz k a hk ho
   .cases hk),w.ff,(fun k a hk ho=>by
   have hk:(ρ.r.take n)[k]? =some a:=hk;rw[List.getElem?_take] at hk;split at hk
   .rename_i hlt;rw[List.getElem?_take_of_lt hlt] at ho;exact w.fi k a hk ho
   .cases hk)⟩
theorem SW.NI{K:W.Frag}{cl:Nat->Addr}{ρ cV:P3}{n:Nat}(hn:ρ.r.length<=n)(p:Pre ρ H cV H'):Pre ρ H (cV.cut n) H':=
 ⟨p.bu.trans (kT n),p.zz,p.zs,fun k a h=>by show(cV.r.take n)[k]? =_;rw [List.getElem?_take_of_lt (Nat.lt_of_lt_of_le (List.getElem?_eq_some_iff.mp h).1 hn)];exact p.ext k a h⟩
section
variable {X:Cx} {cl:Nat->Addr}
def dh(S:aH)(k:Nat):Option (List D):=match S[k]? with | some (.lst ds)=>some ds | _=>none
theorem dP{S:aH}{k:Nat}{ds:List D}(h:dh S k=some ds):S[k]? =some (.lst ds):=by
 unfold dh at h;split at h
 .rename_i e;cases h;exact e
 .cases h
def mP(δ:DE)(i:Nat):Option Nat:=match δ[i]? with | some (some (.loc k))=>some k | _=>none
theorem nq{δ:DE}{i k:Nat}(h:mP δ i=some k):δ[i]? =some (some (.loc k)):=by
 unfold mP at h;split at h
 .rename_i e;cases h;exact e
 .cases h
def mq(i:Nat)(f:FX):FZ:=fun δ S=>match mP δ i with
 | none=> .no
 | some k=>match dh S k with
   | none=> .no
   | some _=>(f δ S).bind fun v S1=>match v with
     | .d d=>(match dh S1 k with | some ds=>R3.bX (decide (ds.length < sizeLine)) (.ok (.nx δ) (S1.set k (.lst (ds++[d])))) | none=> .no)
     | _=> .no
theorem gZ{i:Nat}{x:Str}{e:Expr}{f:FX}{fP apos cB pos:Pos}(hN:X.N[i]? =some x)(hv:Hz X.env.scope x)(he:PX X cl e f)
 (hd:(x==("__debug__":Str))=false:=by decide) (tI:(x==("__classdict__":Str))=false:=by decide)
 (hs:starEach [e] X.env=(false,eval e X.env) ::starEach [] X.env:=by rfl) (mQ:(apos.endLine==cB.line)=true:=by rfl)
 (tV:((backTo cB (starEach [e] X.env)).all (fun x=>!x.1) && (backToKw cB (keywordEach [] X.env)).all (fun x=>x.1.isSome)
   && decide (([e]:List Expr).length+([]:List Keyword).length+(if([]:List Keyword).isEmpty then 0 else 1) < 30))=true:=by rfl)
 (Br:swapsWith (.Call (.Attribute (.Name x fP) "append" apos) [e] [] cB) none pos.line X.env=pure false:=by rfl)
 (mR:attributeBase (.Name x fP) "append" X.env (eval (.Name x fP) X.env)=eval (.Name x fP) X.env:=by rfl) :
 PZ X cl (.Expr (.Call (.Attribute (.Name x fP) "append" apos) [e] [] cB) pos) (mq i f):=by
 refine⟨(vg (Ea (X:=X) PySem.F.plainAttrs_list PySem.F.slot_list_append PySem.F.type_list_append sF (sU hN hv hd tI) (dF he.1 gI hs) mR tV mQ hs) Br).imp fun D σ H ⟨ρ,S,δ,o,S',E,hf,q⟩=>?_⟩
 unfold mq at hf;split at hf
 .cases hf
 .rename_i k hk;split at hf
  .cases hf
  .rename_i ds0 h0;obtain⟨v,S1,h1,h2⟩:=R3.ak hf;split at h2
   .rename_i d;split at h2
    .rename_i ds h3;obtain⟨hl,h4⟩:=R3.bp h2;cases h4;obtain⟨u,u1,u2⟩:=E.val i _ (nq hk);unfold bh at u2;obtain⟨a,a1,rfl⟩:=u2;obtain⟨TU,x0,_⟩:=E.sw.ob k a _ a1 (dP h0);refine⟨.ref a,u1, .inl ⟨rfl,TU,pV.of x0⟩,⟨ρ,S,δ, .d d,S1,E,h1,fun y bY H1 p1 w1 r1=>?_⟩⟩
     have b1:=p1.ext k a a1;obtain⟨xs,x1,x2⟩:=w1.ob k a _ b1 (dP h3);refine⟨a,xs,y,rfl,rfl,x1,by rw[<-x2.length];exact of_decide_eq_true hl,?_⟩
     unfold bh at r1;obtain⟨w2,p2⟩:=w1.put (o:= .lst (ds++[d])) (u:= .lst (xs++[y])) b1 (w1.fz k a b1 (by rw[dP h3];intro h;cases h)) ⟨xs++[y],rfl,x2.append (aG.cons r1 aG.nil)⟩
     exact q σ bY _ (p1.trans p2) (E.to (p1.trans p2) w2)
    .cases h2
   .cases h2
def Kt(fo fi fe:FX):FZ:=fun δ S=>(fe δ S).bind fun v S1=>(fo δ S1).bind fun o S2=>(fi δ S2).bind fun j S3=>match v,o,j with
 | .d d, .loc k, .d (.int n)=>(match dh S3 k with
   | some ds=>(match Bw ds.length n with | some m=> .ok (.nx δ) (S3.set k (.lst (ds.set m d))) | none=> .no)
   | none=> .no)
 | _,_,_=> .no
def F8(K:W.Frag)(cl:Nat->Addr)(n:Nat)(g:List V3->aH->R3 V3):Sp:=fun vs H Q _=>vs.length=n/\∃ρ S xs v S',SW K cl ρ H S/\aL K ρ H xs vs/\g xs S= .ok v S'/\∀u cV H',Pre ρ H cV H'->SW K cl cV H' S'->bh K cV H' v u->Q u H'
def b9(g:List V3->aH->R3 V3)(fs:FA):FX:=fun δ S=>(fs δ S).bind g
def aX(P:Program)(w:World)(K:W.Frag)(mg:Str->Option Value)(base:Heap)(cl:Nat->Addr)(k:Nat)(x:Str)(n:Nat)(g:List V3->aH->R3 V3):Prop:=
 ∃(f:Addr) (fd:FuncData) (ps:List Str),jI P w K mg base xn k f fd ps (F8 K cl n g)/\mg x=some (.ref f)/\PySem.W.keepIn K (.ref f)=true/\Binds K fd ps []
theorem bo{g:List V3->aH->R3 V3}{k j n:Nat}{x:Str}{p pos:Pos}{e:Expr}{es:List Expr}{fs:FA}(C:aX X.prog X.w X.K X.mg X.base cl k x n g)(hr:eX j X.A)(Ji:k<=j)(hg:Gl X x)(ha:IQ X cl (e ::es) fs)
 (hn:∀δ S ds S',fs δ S= .ok ds S'->ds.length=n) (qP:(x==("__debug__":Str))=false:=by decide) (he:starEach (e ::es) X.env=(false,eval e X.env) ::starEach es X.env:=by rfl) (lT:(backTo pos (starEach es X.env)).any (·.1)=false:=by rfl) :
 PX X cl (.Call (.Name x p) (e ::es) [] pos) (b9 g fs):=by
 obtain⟨f,fd,ps,F,hm,hk,hb⟩:=C;refine⟨(zk F (hr.mono Ji) hg hm hk hb .nil A4 ha.1 qP he lT).imp fun σ H Q ⟨ρ,S,δ,v,S',E,hf,q⟩=>?_⟩
 obtain⟨vs,S1,h1,h2⟩:=R3.ak hf;refine⟨ρ,S,δ,vs,S1,E,h1,fun us bY H1 p1 w1 r1=>?_⟩
 show F8 X.K cl n g (us++[]) H1 Q E0;rw[List.append_nil];exact⟨by rw[<-r1.length];exact hn δ S vs S1 h1,bY,S1,vs,v,S',w1,r1,h2,fun z n5 H2 p2 w2 r2=>q z n5 H2 (p1.trans p2) w2 r2⟩
end
def cv(N:List Str)(vs:List V3):DE:=vs.map some++List.replicate (N.length - vs.length) none
theorem Hq{K:W.Frag}{S:aH}{N:List Str}{ds:List V3}{vs:List V}(w:SW K cl ρ H S)(r:aL K ρ H ds vs):fN K cl ρ H S (L2.start N vs) (cv N ds) where
 len:=by unfold L2.start cv;simp [r.length]
 sw:=w
 val:=fun i d e=>by
  unfold cv at e;unfold L2.start;by_cases hi:i < ds.length
  .rw [List.getElem?_append_left (by simpa using hi),List.getElem?_map] at e
   cases q:ds[i]? with
   | none=>rw [q] at e;cases e
   | some d'=>
     rw[q] at e;cases e;obtain⟨x,h1,h2⟩:=r.get q;exact⟨x,by rw[List.getElem?_append_left (by rw[List.length_map,<-r.length];exact hi),List.getElem?_map,h1];rfl,h2⟩
  .rw [List.getElem?_append_right (by simpa using hi),List.getElem?_replicate] at e
   split at e <;> cases e
def n4(N:List Str)(F:FZ):List V3->aH->R3 V3:=fun vs S=>(F (cv N vs) S).bind fun o S'=>match o with | .rt v=> .ok v S' | .nx _=> .ok (.d .cK) S'
def n6(N:List Str)(F:FZ):List V3->aH->R3 V3:=fun vs S=>(n4 N F vs S).bind fun v S'=>match res S' v with
 | some d=>R3.bX ((S'.take S.length).all (pM S.length) && gf S.length v) (.ok (.d d) (S'.take S.length))
 | none=> .no
theorem Ks{P:Program}{w:World}{K:W.Frag}{mg:Str->Option Value}{base:Heap}{cl:Nat->Addr}{x qual:Str}{st:Stmt}{f:Addr}{fd:FuncData}{N ps:List Str}{k:Nat}{F:FZ}(Fn:EA K x qual st f fd)(S:aW N ps (aC st))
 (mS:∀(dJ:Value) (A:Around) (outer:List Env) (s:Shared) (H:Hp) (E:XK),eX k (A.deeper (envOfC qual (aC st) s.heap.objs.size f dJ))->
   EL (vz xn P w K mg base N qual (aC st) f dJ A outer s H E).Li cl (aM st) F):jI P w K mg base xn (k+1) f fd ps (F8 K cl ps.length (n4 N F)):=by
 refine Fn.ok S (fun vs H Q E h=>h.1) (fun dJ A outer s H vs Q E hr h=>⟨_,(mS dJ A outer s H E hr).1,?_⟩)
 obtain⟨_,ρ,S,ds,v,S',w,r,hg,q⟩:=h;obtain⟨o,S1,h1,h2⟩:=R3.ak hg;refine⟨ρ,S,cv N ds,o,S1,Hq w r,h1,?_⟩;cases o with
 | nx eg=>
   cases h2;exact fun c0 cV H' p' E'=>q _ cV H' p' E'.sw (by unfold bh Rep;rfl)
 | rt d'=>
   cases h2;exact fun u cV H' p' w' r'=>q u cV H' p' w' r'
theorem Cy{K:W.Frag}{N:List Str}{n:Nat}{vs:List V}{Q:VK}{E:XK}(h:F8 K cl n (n6 N F) vs H Q E):F8 K cl n (n4 N F) vs H Q E:=by
 obtain⟨hl,ρ,S,xs,v,S',w,r,hg,q⟩:=h;obtain⟨v1,S1,h1,h2⟩:=R3.ak hg;refine⟨hl,ρ,S,xs,v1,S1,w,r,h1,fun u bY H1 p1 w1 r1=>?_⟩
 have pc:Pre ρ H (bY.cut S.length) H1:=SW.NI (K:=K) (cl:=cl) (by rw[w.len];exact Nat.le_refl _) p1
 split at h2
 .rename_i d e;obtain⟨ok,h3⟩:=R3.bp h2;obtain⟨ok,hk⟩:=Bool.and_eq_true_iff.mp ok;cases h3;refine q u _ H1 pc (w1.cut ok) ?_;unfold bh;refine r1.resB w1 (kT _) (fun k a hk a1 ha=>?_) hk e
  rcases P3.ei.mp ha with⟨z,_⟩ | z
  .obtain⟨j,hj⟩:=List.getElem?_of_mem z;have hj:(bY.r.take S.length)[j]? =some a:=hj;rw[List.getElem?_take] at hj;split at hj
   .rename_i hjl;have:=w1.nd j k a hj a1;omega
   .cases hj
  .exact(w1.zb a z).2 (List.mem_of_getElem? a1)
 .cases h2
end L3
end
section
namespace L3
open PySem PySem.Spec PyProof.Rows L2
theorem aG.setAt{K:W.Frag}{ρ:P3}:∀{ds:List D} {xs:List V} {m:Nat} {d:D} {v:V},aG K ρ.b H ds xs->Rep K ρ.b H d v->aG K ρ.b H (ds.set m d) (xs.set m v)
 | [],_,_,_,_,h,_=>by unfold aG at h;subst h;exact aG.nil
 | e ::ds,xs,0,d,v,h,r=>by
   obtain⟨x,r',rfl,h1,h2⟩:=h.cx;exact aG.cons r h2
 | e ::ds,xs,m+1,d,v,h,r=>by
   obtain⟨x,r',rfl,h1,h2⟩:=h.cx;exact aG.cons h1 (aG.setAt h2 r)
section
variable {X:Cx} {cl:Nat->Addr}
theorem HI{o i e:Expr}{fo fi fe:FX}{qO pos:Pos}(he:PX X cl e fe)
 (hg:PG X (.Subscript o i qO) (Py (tX X.K cl fo) (tX X.K cl fi) L0))
 (hs:swapsWithSole [.Subscript o i qO] e pos.line X.env=pure false:=by rfl) (hw:swappedStores [.Subscript o i qO] e X.env=pure none:=by rfl)
 (h1:(assignEach [.Subscript o i qO] X.env).map (·.2)=[assign (.Subscript o i qO) X.env]:=by rfl):PZ X cl (.Assign [.Subscript o i qO] e pos) (Kt fo fi fe):=⟨(BJ he.1 hg hs hw h1).imp fun D σ H ⟨ρ,S,δ,ou,S',E,hf,q⟩=>by
 obtain⟨v,S1,h1,h2⟩:=R3.ak hf;obtain⟨vo,S2,h3,h4⟩:=R3.ak h2;obtain⟨vi,S3,h5,h6⟩:=R3.ak h4;split at h6
 .rename_i d k n;split at h6
  .rename_i ds hds;split at h6
   .rename_i m hm;cases h6;refine⟨ρ,S,δ, .d d,S1,E,h1,fun u bY H1 p1 w1 r1=>⟨bY,S1,δ, .loc k,S2,E.to p1 w1,h3,fun u2 n5 H2 p2 w2 r2=>⟨n5,S2,δ, .d (.int n),S3,(E.to p1 w1).to p2 w2,h5,fun u3 zH H3 p3 w3 r3=>?_⟩⟩⟩
    unfold bh at r2;obtain⟨a,a1,rfl⟩:=r2;have a3:=p3.ext k a a1;obtain⟨xs,x1,x2⟩:=w3.ob k a _ a3 (dP hds);unfold bh Rep at r3;have r6:=r1.pre (p2.trans p3);unfold bh at r6;obtain⟨w4,p4⟩:=w3.put (o:= .lst (ds.set m d)) (u:= .lst (xs.set m u)) a3 (w3.fz k a a3 (by rw[dP hds];intro h;cases h)) ⟨xs.set m u,rfl,aG.setAt x2 r6⟩
    exact⟨a,xs,n,m,rfl,r3,x1,by rw[<-x2.length];exact hm,q σ zH _ (((p1.trans p2).trans p3).trans p4) (E.to (((p1.trans p2).trans p3).trans p4) w4)⟩
   .cases h6
  .cases h6
 .cases h6⟩
def kX(δ:DE)(i:Nat):Option V3:=match δ[i]? with | some (some v)=>some v | _=>none
def mh(own:List Str)(kp:List Nat)(δ:DE):DE:=List.replicate own.length none++kp.map (kX δ)
theorem Lh{K:W.Frag}{S S':aH}{σ:L2.St}{δ:DE}{own:List Str}{kp:List Nat}(E:fN K cl ρ H S σ δ)(p:PW ρ H cV H')(w:SW K cl cV H' S'):fN K cl cV H' S' (dO own kp σ) (mh own kp δ) where
 len:=by unfold dO mh;simp
 sw:=w
 val:=fun i d e=>by
  unfold mh at e;unfold dO;by_cases hi:i < own.length
  .rw [List.getElem?_append_left (by simpa using hi),List.getElem?_replicate] at e
   split at e <;> cases e
  .rw [List.getElem?_append_right (by simpa using hi),List.length_replicate,List.getElem?_map] at e ⊢
   cases q:kp[i - own.length]? with
   | none=>rw [q] at e;cases e
   | some j=>
     rw[q] at e;have e:kX δ j=some d:=Option.some.inj e;unfold kX at e;split at e
     .rename_i d' ed;cases e;obtain⟨v,h1,h2⟩:=E.val j d ed;exact⟨v,by simp [h1],h2.pw p⟩
     .cases e
def oy(t:FG)(c:FB)(f:FX)(δ:DE):List V3->aH->R3 (List V3)
 | [],S=> .ok [] S
 | v ::vs,S=>match t v δ with
   | none=> .no
   | some δ1=>(c δ1 S).bind fun b S1=>if b then(f δ1 S1).bind fun y S2=>(oy t c f δ vs S2).bind fun ys S3=> .ok (y ::ys) S3 else oy t c f δ vs S1
def jt(it:FA)(t:FG)(c:FB)(f:FX)(own:List Str)(kp:List Nat):FX:=fun δ S=>(it δ S).bind fun vs S1=>R3.bX (decide (vs.length<=sizeLine)) ((oy t c f (mh own kp δ) vs S1).bind fun ys S2=> .ok (uh ys) S2)
theorem aL.append{K:W.Frag}:∀{ds es:List V3} {xs ys:List V},aL K ρ H ds xs->aL K ρ H es ys->aL K ρ H (ds++es) (xs++ys)
 | [],_,_,_,h,t=>by unfold aL at h;subst h;exact t
 | d ::ds,es,xs,ys,h,t=>by
   obtain⟨x,r,rfl,h1,h2⟩:=h.cx;exact aL.cons h1 (aL.append h2 t)
theorem Dy{K:W.Frag}{own:List Str}{kp:List Nat}{σ:L2.St}{Q:VK}(h:tX K cl (jt it t c f own kp) σ H Q) :
 DF (US K cl it) (gX K cl t) (Mv K cl c) (tX K cl f) own kp σ H Q:=by
 obtain⟨ρ,S,δ,v,SF,E,hf,q⟩:=h;obtain⟨es,S1,h1,h2⟩:=R3.ak hf;obtain⟨hl,h3⟩:=R3.bp h2;have hl:=of_decide_eq_true hl;obtain⟨vs,S2,h4,h5⟩:=R3.ak h3;cases h5;refine⟨ρ,S,δ,es,S1,E,h1,fun J bY H1 p1 w1 ir Dd hD=>?_⟩
 have nDz:Dd ∉ bY.b:=fun hb=>by obtain⟨o,ho⟩:=w1.bs Dd hb;rw [hD] at ho;cases ho
 have nDr:Dd ∉ bY.r:=fun hb=>by obtain⟨o,ho⟩:=w1.rs Dd hb;rw [hD] at ho;cases ho
 have toZ:∀{r' f':List Addr} {H':Hp},Pre bY H1 ⟨r',bY.z,f'⟩ H'->PW bY H1 ⟨r',Dd ::bY.z,f'⟩ H':=fun {r' f' H'} p=>⟨fun b o e nb=>⟨(p.bu b o e nb).1,fun hb=>by
  rcases P3.ei.mp hb with z | z
  .exact(p.bu b o e nb).2 (P3.ei.mpr (.inl z))
  .rcases List.mem_cons.mp z with y | y
   .exact cz e hD y
   .exact(p.bu b o e nb).2 (P3.ei.mpr (.inr y))⟩,p.ext⟩
 have w0:SW K cl ⟨bY.r,Dd ::bY.z,bY.f⟩ (upd H1 Dd (.lst [])) S1:=by
  have s0:bg H1 (upd H1 Dd (.lst [])):=aP hD;have ws:=w1.same s0;refine⟨ws.len,ws.nd,fun k a o hk ho=>?_,fun b hb=>?_,ws.fz,ws.ff,ws.fi⟩
  .have r:=w1.ob k a o hk ho;obtain⟨u,hu⟩:=r.some;rw[s0 a u hu,<-hu];exact r.pw (toZ (Pre.same s0))
  .rcases List.mem_cons.mp hb with y | y
   .subst y;exact⟨⟨_,aV⟩,nDr⟩
   .exact ws.zb b y
 refine⟨fun i m ys H'=>m=es.length - i/\i<=es.length/\ys.length<=i/\H' Dd=some (.lst ys)/\∃r' f' S' done rest,Pre bY H1 ⟨r',bY.z,f'⟩ H'/\SW K cl ⟨r',Dd ::bY.z,f'⟩ H' S'/\vs=done++rest/\aL K ⟨r',Dd ::bY.z,f'⟩ H' done ys/\oy t c f (mh own kp δ) (es.drop i) S'= .ok rest SF,
  ⟨es.length,rfl,Nat.zero_le _,Nat.le_refl _,aV,bY.r,bY.f,S1,[],vs,Pre.same (aP hD),w0,rfl,aL.nil,by simpa using h4⟩,?_⟩
 rintro i m ys H' ⟨rfl,hi,hy,hDl,r',f',S',done,rest,pv,w',rfl,rd,hc⟩;obtain⟨go,stop⟩:=ir ⟨r',Dd ::bY.z,f'⟩ H' (toZ pv) w'.bs;have unZ:∀{Ja:P3} {H4:Hp},Pre ⟨r',Dd ::bY.z,f'⟩ H' Ja H4->Pre bY H1 ⟨Ja.r,bY.z,Ja.f⟩ H4:=fun {Ja H4} p4=>⟨fun b o e nb=>by
  obtain⟨e1,n1⟩:=(toZ pv).bu b o e nb;obtain⟨eW,n2⟩:=p4.bu b o e1 n1;refine⟨eW,fun hb=>n2 ?_⟩
  rcases P3.ei.mp hb with z | z
  .exact P3.ei.mpr (.inl z)
  .exact P3.ei.mpr (.inr (by rw[p4.zz];exact List.mem_cons_of_mem _ z)),rfl,fun b o hb h=>p4.zs b o (List.mem_cons_of_mem _ hb) (pv.zs b o hb h),fun k a h=>p4.ext k a (pv.ext k a h)⟩
 by_cases hlt:i < es.length
 .have hd:es[i]? =some es[i]:=List.getElem?_eq_getElem hlt;have hdrop:es.drop i=es[i] ::es.drop (i+1):=List.drop_eq_getElem_cons hlt;rw[hdrop] at hc;unfold oy at hc;split at hc
  .cases hc
  .rename_i δ1 h6;obtain⟨b,T1,h7,h8⟩:=R3.ak hc;obtain⟨g1,g2⟩:=go i _ hd;refine .inr ⟨g1,fun x H2 y=>?_⟩
   obtain⟨sy,ry⟩:=g2 x H2 y;have Ec:fN K cl ⟨r',Dd ::bY.z,f'⟩ H2 S' (dO own kp σ) (mh own kp δ):=Lh E (p1.pw.trans ((toZ pv).trans (Pre.same sy).pw)) (w'.same sy);refine⟨⟨r',Dd ::bY.z,f'⟩,S',mh own kp δ,es[i],δ1,Ec,ry,h6,fun Bo H3 s3 E3=>⟨⟨r',Dd ::bY.z,f'⟩,S',δ1,b,T1,E3,h7,fun Ja H4 p4 w4=>?_⟩⟩
   have Q4:Pre ⟨r',Dd ::bY.z,f'⟩ H' Ja H4:=(Pre.same (sy.trans s3)).trans p4;cases b with
   | true=>
     rw[if_pos rfl] at h8;refine FU ?_;obtain⟨yv,T2,h9,RU⟩:=R3.ak h8;obtain⟨rs,T3,TH,Yb⟩:=R3.ak RU;cases Yb;refine⟨Ja,T1,δ1,yv,T2,E3.to p4 w4,h9,fun v5 VM H5 p5 w5 r5=>?_⟩
     have pv5:Pre ⟨r',Dd ::bY.z,f'⟩ H' VM H5:=Q4.trans p5;have Us:H5 Dd=some (.lst ys):=pv5.zs Dd _ List.mem_cons_self hDl;have u5:=unZ pv5;obtain⟨RL,z5,f5⟩:=VM;have ez:z5=Dd ::bY.z:=pv5.zz;subst ez;have nr:Dd ∉ RL:=(w5.zb Dd List.mem_cons_self).2;have pw:PW ⟨RL,Dd ::bY.z,f5⟩ H5 ⟨RL,Dd ::bY.z,f5⟩ (upd H5 Dd (.lst (ys++[v5]))):=⟨fun b o e nb=>⟨by rw[br (fun(z:b=Dd)=>nb (by rw[z];exact P3.ei.mpr (.inr List.mem_cons_self)))];exact e,nb⟩,fun _ _ h=>h⟩
     refine⟨Us,by omega,es.length - (i+1),by omega,rfl,hlt,by rw[List.length_append,List.length_singleton];omega,aV,RL,f5,T2,done++[yv],rs,?_,?_,by simp,aL.append ((rd.pre pv5).pw pw) (aL.cons (r5.pw pw) aL.nil),TH⟩
     .refine⟨fun b o e nb=>⟨by rw[br (cz e hD)];exact(u5.bu b o e nb).1,(u5.bu b o e nb).2⟩,rfl,fun b o hb h=>?_,u5.ext⟩
      rw[br (cz h hD)];exact u5.zs b o hb h
     .refine⟨w5.len,w5.nd,fun k a o hk ho=>?_,fun b hb=>?_,w5.fz,fun b hb=>?_,w5.fi⟩
      .have ne:a≠Dd:=fun z=>nr (by rw[<-z];exact List.mem_of_getElem? hk)
       rw[br ne];exact(w5.ob k a o hk ho).pw pw
      .obtain⟨⟨o,ho⟩,n⟩:=w5.zb b hb;refine⟨?_,n⟩;by_cases z:b=Dd
       .subst z;exact⟨_,aV⟩
       .rw [br z];exact⟨o,ho⟩
      .obtain⟨o,ho⟩:=w5.ff b hb;by_cases z:b=Dd
       .subst z;exact⟨_,aV⟩
       .rw [br z];exact⟨o,ho⟩
   | false=>
     rw[if_neg (by decide)] at h8
     refine Fi ?_;have Xj:H4 Dd=some (.lst ys):=Q4.zs Dd _ List.mem_cons_self hDl;have u4:=unZ Q4;obtain⟨XQ,z4,f4⟩:=Ja;have ez:z4=Dd ::bY.z:=Q4.zz;subst ez;exact⟨es.length - (i+1),by omega,rfl,hlt,by omega,Xj,XQ,f4,T1,done,rest,u4,w4,rfl,rd.pre Q4,h8⟩
 .have e:i=es.length:=by omega
  subst e;rw[List.drop_length] at hc;cases hc;rw[List.append_nil] at q;refine .inl ⟨stop,?_⟩;have back:PW ⟨r',Dd ::bY.z,f'⟩ H' ⟨r',bY.z,f'⟩ H':=⟨fun b o e nb=>⟨e,fun hb=>nb (by
   rcases P3.ei.mp hb with z | z
   .exact P3.ei.mpr (.inl z)
   .exact P3.ei.mpr (.inr (List.mem_cons_of_mem _ z)))⟩,fun _ _ h=>h⟩
  have wB:SW K cl ⟨r',bY.z,f'⟩ H' _:=⟨w'.len,w'.nd,fun k a o hk ho=>(w'.ob k a o hk ho).pw back,fun b hb=>w'.zb b (List.mem_cons_of_mem _ hb),w'.fz,w'.ff,w'.fi⟩
  refine q _ ⟨r',bY.z,f'⟩ H' (p1.trans pv) wB (yq (.inl ⟨fun hb=>?_, .inl hDl⟩) (rd.pw back))
  rcases P3.ei.mp hb with z | z
  .exact(w'.zb Dd List.mem_cons_self).2 z.1
  .exact nDz (P3.ei.mpr (.inr z))
end
end L3
end
section
namespace L3
open PySem PySem.Spec PyProof.Rows L2
section
variable {X:Cx} {cl:Nat->Addr}
theorem u7{scope:Scope}{own:List Str}{kp:List Nat}{kn:List Str}{tg iter elt:Expr}{ifs:List Expr}{it:FA}{t:FG}{c:FB}{f:FX}{pos:Pos}(hc:X.calm=true)(C:bO X scope own kp kn)(hi:L7 X cl tg iter it)
 (hg:∀fp s H,LF (bN X scope (own++kn) fp s H) cl tg t) (F4:∀fp s H,r_ (bN X scope (own++kn) fp s H) ifs (Mv X.K cl c)) (he:∀fp s H,PX (bN X scope (own++kn) fp s H) cl elt f)
 (hs:∀x,foldedSetIterable iter X.env x=pure x:=by intro _;rfl):PX X cl (.ListComp elt [⟨tg,iter,ifs,0⟩] scope pos) (jt it t c f own kp):=
 ⟨(Dr hc C hi.1 (fun fp s H=>(hg fp s H).1) F4 (fun fp s H=>(he fp s H).1) hs).imp fun σ H Q h=>Dy h⟩
def uO:FB:=fun _ S=> .ok true S
theorem gO:r_ X [] (Mv X.K cl uO):=fun pins s σ H Q I ⟨ρ,S,δ,b,S',E,hf,q⟩=>Ai pins s σ H Q I (by cases hf;exact q ρ H (Pre.refl ρ H) E.sw)
theorem GO(h:D4 X cl e c):r_ X [e] (Mv X.K cl c):=zW h.1
theorem G2{K:W.Frag}{i:Nat}{D:Ends}{σ:L2.St}(h:sX K cl (bB i f) D σ H):Fs (tX K cl f) (wK i) D σ H:=by
 obtain⟨ρ,S,δ,o,S',E,hf,q⟩:=h;obtain⟨v,S1,h1,h2⟩:=R3.ak hf;obtain⟨hi,h3⟩:=R3.bp h2;cases h3;refine⟨ρ,S,δ,v,_,E,h1,fun u bY H1 p1 w1 r1=>?_⟩
 exact q _ bY H1 p1 ((E.to p1 w1).set (by rw[<-E.len];exact of_decide_eq_true hi) r1)
theorem ko{i:Nat}{x:Str}{pos' qO:Pos}{scope:Scope}{own:List Str}{kp:List Nat}{kn:List Str}{tg iter elt:Expr}{ifs:List Expr}{it:FA}{t:FG}{c:FB}{f:FX}{pos:Pos}(hc:X.calm=true)
 (hN:X.N.Nodup) (hx:X.N[i]? =some x) (Md:X.env.scope.names.lookup x=some .local) (C:bO X scope own kp kn) (hi:L7 X cl tg iter it)
 (hg:∀fp s H,LF (bN X scope (own++kn) fp s H) cl tg t) (F4:∀fp s H,r_ (bN X scope (own++kn) fp s H) ifs (Mv X.K cl c)) (he:∀fp s H,PX (bN X scope (own++kn) fp s H) cl elt f)
 (Br:swapsWith (.ListComp elt [⟨tg,iter,ifs,0⟩] scope pos) (some (.Name x pos')) qO.line X.env=pure true:=by rfl)
 (hs:∀x,foldedSetIterable iter X.env x=pure x:=by intro _;rfl):PZ X cl (.Assign [.Name x pos'] (.ListComp elt [⟨tg,iter,ifs,0⟩] scope pos) qO) (bB i (jt it t c f own kp)):=
 ⟨(vv hc hN hx Md C hi.1 (fun fp s H=>(hg fp s H).1) F4 (fun fp s H=>(he fp s H).1) Br hs).imp fun D σ H h=>Dy (G2 h)⟩
def YC(g:FA):FX:=fun δ S=>(g δ S).bind fun vs S1=>match uQ vs with
 | some ds=>R3.bX (decide (ds.length<=sizeLine)) (.ok (.loc S1.length) (S1++[.lst ds]))
 | none=> .no
end
end L3
end
section
namespace L3
open PySem PySem.Spec PyProof.Rows L2
section
variable {X:Cx} {cl:Nat->Addr}
def lO(g:List D->R D)(fs:FA):FX:=fun δ S=>(fs δ S).bind fun vs S1=>match uQ vs with
 | some ds=>(R3.of (g ds) S1).bind fun d S=> .ok (.d d) S
 | none=> .no
theorem Bk{K:W.Frag}{g:List D->R D}{σ:L2.St}{Q:VK}(h:tX K cl (lO g fs) σ H Q) :
 UX K cl fs σ H fun vs H1=>∃B ds d,(∀a∈B,∃o,H1 a=some o)/\aG K B H1 ds vs/\g ds= .ok d/\∀z H',bg H1 H'->Rep K B H' d z->Q z H':=by
 obtain⟨ρ,S,δ,v,S',E,hf,q⟩:=h;obtain⟨vs,S1,h1,h2⟩:=R3.ak hf;split at h2
 .rename_i ds e;obtain⟨d,S2,h3,h4⟩:=R3.ak h2;obtain⟨h5,e5⟩:=R3.of_ok h3;cases h4;subst e5;refine⟨ρ,S,δ,vs,_,E,h1,fun us bY H1 p1 w1 r1=>?_⟩
  rw[j6 e] at r1;exact⟨bY.b,ds,d,w1.bs,r1.to,h5,fun z H' s r=>q z bY H' (p1.trans (Pre.same s)) (w1.same s) (by unfold bh;exact r)⟩
 .cases h2
theorem Hf{g:List D->R D}{x:Str}{id:String}{p pos:Pos}{e:Expr}{es:List Expr}{fs:FA}(hc:gm X (.builtin id) g)(hg:Gl X x)(hm:X.mg x=none)(hv:bootBuiltins x=some (.builtin id))(ha:IQ X cl (e ::es) fs)(hn:x≠"__name__":=by decide)(qP:(x==("__debug__":Str))=false:=by decide)
 (he:starEach (e ::es) X.env=(false,eval e X.env) ::starEach es X.env:=by rfl) (lT:(backTo pos (starEach es X.env)).any (·.1)=false:=by rfl):PX X cl (.Call (.Name x p) (e ::es) [] pos) (lO g fs):=
 ⟨(rO hc.r hg hm hv ha.1 hn qP he lT).imp fun σ H Q h=>Bk h⟩
theorem EX{g:List D->R D}{x:Str}{T:String}{p pos:Pos}{e:Expr}{es:List Expr}{fs:FA}(hc:gm X (.type T) g)(hg:Gl X x)(hm:X.mg x=none)(hv:bootBuiltins x=some (.type T))(ha:IQ X cl (e ::es) fs)(hn:x≠"__name__":=by decide)(qP:(x==("__debug__":Str))=false:=by decide)
 (he:starEach (e ::es) X.env=(false,eval e X.env) ::starEach es X.env:=by rfl) (lT:(backTo pos (starEach es X.env)).any (·.1)=false:=by rfl):PX X cl (.Call (.Name x p) (e ::es) [] pos) (lO g fs):=
 ⟨(sQ hc.r hg hm hv ha.1 hn qP he lT).imp fun σ H Q h=>Bk h⟩
def Ys(c:FB)(f g:FX):FX:=fun δ S=>(c δ S).bind fun b S=>if b then f δ S else g δ S
theorem aI:∀(δ:DE) (S:aH) (ds:List V3) (S':aH),cn δ S= .ok ds S'->ds.length=0:=fun δ S ds S' h=>by cases h;rfl
theorem ag{g:FA}{n:Nat}(h:∀(δ:DE) (S:aH) (ds:List V3) (S':aH),g δ S= .ok ds S'->ds.length=n):∀(δ:DE) (S:aH) (ds:List V3) (S':aH),av f g δ S= .ok ds S'->ds.length=n+1:=fun δ S ds S' e=>by
 obtain⟨v,S1,h1,h2⟩:=R3.ak e;obtain⟨vs,S2,h3,h4⟩:=R3.ak h2;cases h4;rw[List.length_cons,h δ S1 vs _ h3]
end
end L3
end
section
namespace L3
open PySem PySem.Spec PyProof.Rows L2
theorem yB{K:W.Frag}{ds:List V3}{xs:List V}{i:Int}{d:V3}(r:aL K ρ H ds xs)(h:sR ds i=some d):∃x,sR xs i=some x/\bh K ρ H d x:=by
 unfold sR at h ⊢;rw[<-r.length];cases e:Bw ds.length i with
 | none=>rw [e] at h;cases h
 | some j=>
   rw[e] at h;exact r.get h
section
variable {X:Cx} {cl:Nat->Addr}
def O6(fa fb:FX):FX:=fun δ S=>(fa δ S).bind fun a S1=>(fb δ S1).bind fun b S2=>match a,b with
 | .d x, .d y=>(R3.of (cb x y) S2).bind fun d S=> .ok (.d d) S
 | .lst vs, .d (.int i)=>(match sR vs i with | some v=> .ok v S2 | none=> .no)
 | .tup vs, .d (.int i)=>(match sR vs i with | some v=> .ok v S2 | none=> .no)
 | _,_=> .no
theorem G5(ha:PX X cl a fa)(hb:PX X cl b fb)(hs:va b):PX X cl (.Subscript a b pos) (O6 fa fb):=by
 refine⟨(L6 (r:=Su X.K) GP ha.1 hb.1 hs).imp fun σ H Q ⟨ρ,S,δ,v,S',E,hf,q⟩=>?_⟩
 obtain⟨v1,S1,h1,h2⟩:=R3.ak hf;obtain⟨v2,S2,h3,h4⟩:=R3.ak h2;refine⟨ρ,S,δ,v1,S1,E,h1,fun u1 bY H1 p1 w1 r1=>⟨bY,S1,δ,v2,S2,E.to p1 w1,h3,fun u2 n5 H2 p2 w2 r2=>?_⟩⟩
 have r6:=r1.pre p2;have Rg:=p1.trans p2;split at h4
 .rename_i x y;obtain⟨d,S3,h5,h6⟩:=R3.ak h4;obtain⟨h7,e7⟩:=R3.of_ok h5;cases h6;subst e7;unfold bh at r6 r2;unfold cb at h7;split at h7
  .split at h7
   .rename_i e;cases h7;obtain⟨p,xs,rfl,l,rs⟩:=Rep.lst.mp r6;obtain⟨y,e1,e2⟩:=qQ rs e;exact .inl ⟨p,xs,_,y,rfl,Rep.int.mp r2,l.sq,e1,q y n5 H2 Rg w2 (by unfold bh;exact e2)⟩
   .cases h7
  .split at h7
   .rename_i e;cases h7;obtain⟨p,xs,rfl,l,rs⟩:=Rep.tup.mp r6;obtain⟨y,e1,e2⟩:=qQ rs e;exact .inr (.inl ⟨p,xs,_,y,rfl,Rep.int.mp r2,l.sq,e1,q y n5 H2 Rg w2 (by unfold bh;exact e2)⟩)
   .cases h7
  .obtain⟨hl,h8⟩:=R.bp h7;split at h8
   .rename_i e;cases h8;exact .inr (.inr ⟨_,_,_,Rep.str.mp r6,Rep.int.mp r2,of_decide_eq_true hl,e,q _ n5 H2 Rg w2 (by unfold bh;exact Rep.str.mpr rfl)⟩)
   .cases h8
  .cases h7
 .split at h4
  .rename_i e;cases h4;unfold bh at r6 r2;obtain⟨p,xs,rfl,l,rs⟩:=r6;obtain⟨y,e1,e2⟩:=yB rs e;exact .inl ⟨p,xs,_,y,rfl,Rep.int.mp r2,l.sq,e1,q y n5 H2 Rg w2 e2⟩
  .cases h4
 .split at h4
  .rename_i e;cases h4;unfold bh at r6 r2;obtain⟨p,xs,rfl,l,rs⟩:=r6;obtain⟨y,e1,e2⟩:=yB rs e;exact .inr (.inl ⟨p,xs,_,y,rfl,Rep.int.mp r2,l.sq,e1,q y n5 H2 Rg w2 e2⟩)
  .cases h4
 .cases h4
end
end L3
end
section
namespace L3
open PySem PySem.Spec PyProof.Rows L2
section
variable {X:Cx} {cl:Nat->Addr}
structure Ot (X:Cx) (cl:Nat->Addr) (e:Expr) (f:FB):Prop where
 go:L2.PW X e (Mv X.K cl f)
theorem Ot.pb(h:Ot X cl e f):D4 X cl e f:=⟨L2.PW.pt h.1⟩
def Le(f g:FB):FB:=fun δ S=>(f δ S).bind fun b S=>if b then g δ S else .ok false S
def YD(f g:FB):FB:=fun δ S=>(f δ S).bind fun b S=>if b then .ok true S else g δ S
def Kf(f:FB):FB:=fun δ S=>(f δ S).bind fun b S=> .ok (!b) S
theorem zO(h:D4 X cl a f):Ot X cl (.BoolOp .And [a] pos) f:=⟨K9 h.1⟩
theorem Eu{rest:List Expr}(ha:D4 X cl a f)(hb:Ot X cl (.BoolOp .And (b ::rest) pos) g):Ot X cl (.BoolOp .And (a ::b ::rest) pos) (Le f g):=⟨by
 intro wh pins s σ H Q I ⟨ρ,S,δ,k,S',E,hf,q⟩;refine MD ha.1 hb.1 wh pins s σ H Q I ?_;obtain⟨c,S1,h1,h2⟩:=R3.ak hf;refine⟨ρ,S,δ,c,S1,E,h1,fun bY H1 p1 w1=>?_⟩
 cases c with
 | true=>rw [if_pos rfl] at h2 ⊢;exact⟨bY,S1,δ,k,S',E.to p1 w1,h2,fun n5 H' p2 w2=>q n5 H' (p1.trans p2) w2⟩
 | false=>rw [if_neg (by decide)] at h2 ⊢;cases h2;exact q bY H1 p1 w1⟩
theorem DQ(ha:D4 X cl a f):D4 X cl (.UnaryOp .Not a pos) (Kf f):=⟨(IW ha.1).imp fun σ H Q ⟨ρ,S,δ,k,S',E,hf,q⟩=>by
 obtain⟨c,S1,h1,h2⟩:=R3.ak hf;cases h2;exact⟨ρ,S,δ,c,_,E,h1,fun bY H1 p1 w1=>q bY H1 p1 w1⟩⟩
def GI(f:FX):FB:=fun δ S=>(f δ S).bind fun v S=>match v with | .d d=>R3.of (Ld d) S | _=> .no
theorem KQ(ha:PX X cl a f)(ht:∀{t:TE},PE X a t->PT X a (fun σ H Q=>t σ H fun x H'=>∃b,Ku X.K x H' b/\Q b H')):D4 X cl a (GI f):=
 ⟨(ht ha.1).imp fun σ H Q ⟨ρ,S,δ,b,S',E,hf,q⟩=>by
   obtain⟨v,S1,h1,h2⟩:=R3.ak hf;split at h2
   .rename_i d;obtain⟨h3,e3⟩:=R3.of_ok h2;subst e3;exact⟨ρ,S,δ, .d d,_,E,h1,fun u bY H1 p1 w1 r1=>⟨b,IV (by unfold bh at r1;exact r1) h3,q bY H1 p1 w1⟩⟩
   .cases h2⟩
abbrev O1:=DE->aH->R3 (Option Int)
def Wf(K:W.Frag)(cl:Nat->Addr)(f:O1):TO:=fun σ H Q=>∃ρ S δ o S',fN K cl ρ H S σ δ/\f δ S= .ok o S'/\∀cV H',Pre ρ H cV H'->SW K cl cV H' S'->Q o H'
structure Yw (X:Cx) (cl:Nat->Addr) (e:Option Expr) (f:O1):Prop where
 go:PO X e (Wf X.K cl f)
def Sz:O1:=fun _ S=> .ok none S
def Sh(f:FX):O1:=fun δ S=>(f δ S).bind fun v S=>match v with | .d (.int i)=> .ok (some i) S | _=> .no
def Yu(f:FX)(fl fh:O1):FX:=fun δ S=>(f δ S).bind fun v S1=>(fl δ S1).bind fun lo S2=>(fh δ S2).bind fun hi S3=>match v with
 | .d d=>(R3.of (Pm d lo hi) S3).bind fun r S=> .ok (.d r) S
 | _=> .no
end
end L3
end
section
namespace L2
open PySem PySem.Spec PyProof.Rows
section
variable {X:Cx}
def CQ(t T:String):Bool:=t==T || (t=="bool" && T=="int")
theorem sr{K:W.Frag}(t T:String)(ht:t∈["NoneType","bool","int","str","list","tuple"])(hT:T∈["bool","int","str","list","tuple"]):PySem.W.kitOne K (.type t) (.type T)=some (CQ t T):=by
 simp only[List.mem_cons,List.not_mem_nil,or_false] at ht hT;rcases ht with rfl | rfl | rfl | rfl | rfl | rfl <;> rcases hT with rfl | rfl | rfl | rfl | rfl <;> rfl
def FF(T:String)(f:FD):FD:=fun δ=>(f δ).bind fun d=>match d with | .dct _ _=> .no | _=> .ok (.bl (CQ (tyName d) T))
theorem yS{T:Str}{Ts:String}{p p2 pos:Pos}{e:Expr}{f:FD}(he:QD X e f)(hT:Ts∈["bool","int","str","list","tuple"])(hg:Gl X "isinstance")(hm:X.mg "isinstance"=none)(Xt:Gl X T)(XT:X.mg T=none)(Xn:bootBuiltins T=some (.type Ts))(Xv:T≠"__name__":=by decide)(X_:(T==("__debug__":Str))=false:=by decide)
 (hs:starEach [e, .Name T p2] X.env=(false,eval e X.env) ::starEach [.Name T p2] X.env:=by rfl) (lT:(backTo pos (starEach [.Name T p2] X.env)).any (·.1)=false:=by rfl):QD X (.Call (.Name "isinstance" p) [e, .Name T p2] [] pos) (FF Ts f):=by
 have hc:p9 X (.builtin "isinstance") (fun xs H Q=>∃B d x,Rep X.K B H d x/\(∀a b,d≠ .dct a b)/\xs=[x, .ty Ts]/\Q (.bl (CQ (tyName d) Ts)) H):=by
  intro pins s σ H xs us Q I r h;obtain⟨B,d,x,rd,ha,rfl,q⟩:=h;obtain⟨u,w',rfl,ru,FY⟩:=vals2 r;cases FY;have fin:∀tk,EP X pins σ Q (.bool (CQ (tyName d) Ts)) {s with toks:=tk}:=fun tk=>⟨.bl _,H,I.tok _,rfl,q⟩
  cases d with
  | cK=>exact pz I ru (by rw[Rep.cK.mp rd];exact .cK) (sr "NoneType" Ts (by decide) hT) fin
  | bl b=>exact pz I ru (by rw[Rep.bl.mp rd];exact .bl b) (sr "bool" Ts (by decide) hT) fin
  | int i=>exact pz I ru (by rw[Rep.int.mp rd];exact .int i) (sr "int" Ts (by decide) hT) fin
  | str z=>exact pz I ru (by rw[Rep.str.mp rd];exact .str z) (sr "str" Ts (by decide) hT) fin
  | lst es=>
    obtain⟨a,ys,rfl,l,_⟩:=Rep.lst.mp rd;cases(show u=Value.ref a from ru)
    obtain⟨rZ,n2,r2,h1,z2⟩:=I.LM l;exact PySem.W.kia_one PySem.W.kitx_list I.sk ⟨_,h1,rfl⟩ (sr "list" Ts (by decide) hT) (fun z=>nomatch z) fin
  | tup es=>
    obtain⟨a,ys,rfl,l,_⟩:=Rep.tup.mp rd;cases(show u=Value.ref a from ru)
    obtain⟨its,rv,p,hz⟩:=I.tuple l.sq;obtain⟨o,h1,h2,_⟩:=p;exact PySem.W.kia_one PySem.W.kitx_tuple I.sk ⟨o,h1,h2⟩ (sr "tuple" Ts (by decide) hT) (fun z=>nomatch z) fin
  | dct a b=>exact absurd rfl (ha a b)
 refine⟨(rO hc hg hm boot_isinstance (dF he.1 (dF (J0 (v:= .ty Ts) Xt XT Xn rfl Xv X_) gI) hs) (by decide) (by decide) hs lT).imp fun σ H Q ⟨Z,B,δ,d,E,hf,q⟩=>?_⟩
 obtain⟨d1,h1,h2⟩:=R.ak hf;have key:(∀a b,d1≠ .dct a b)/\d= .bl (CQ (tyName d1) Ts):=by
  cases d1 with
  | dct a b=>cases h2
  | _=>cases h2;exact⟨fun _ _ z=>(by cases z),rfl⟩
 obtain⟨k1,rfl⟩:=key;exact⟨Z,B,δ,d1,E,h1,fun v H1 s1 r1=>⟨B,d1,v,r1,k1,rfl,q _ H1 s1 (Rep.bl.mpr rfl)⟩⟩
def nList(f:FD):aw->R (List D):=fun δ=>(f δ).bind fun d=>match d with | .lst ds=> .ok ds | .tup ds=> .ok ds | _=> .no
theorem HK{p pos:Pos}{e:Expr}{f:FD}(he:QD X e f)(hg:Gl X "list")(hm:X.mg "list"=none)
 (hs:starEach [e] X.env=(false,eval e X.env) ::starEach [] X.env:=by rfl) (lT:(backTo pos (starEach [] X.env)).any (·.1)=false:=by rfl):QN X (.Call (.Name "list" p) [e] [] pos) (nList f):=by
 refine⟨(sQ rA hg hm boot_list (dF he.1 gI hs) (by decide) (by decide) hs lT).imp fun σ H Q ⟨Z,B,δ,ds,E,hf,q⟩=>?_⟩
 obtain⟨d,h1,h2⟩:=R.ak hf;refine⟨Z,B,δ,d,E,h1,fun v H1 s1 r1=>?_⟩
 split at h2
 .cases h2;obtain⟨a,ys,rfl,l,r⟩:=Rep.lst.mp r1;exact⟨a,ys,rfl, .inl l.sq,fun p hp=>q p ys _ (s1.trans (aP hp)) (s1.free hp) aV (r.bu (rh hp))⟩
 .cases h2;obtain⟨a,ys,rfl,l,r⟩:=Rep.tup.mp r1;exact⟨a,ys,rfl, .inr l.sq,fun p hp=>q p ys _ (s1.trans (aP hp)) (s1.free hp) aV (r.bu (rh hp))⟩
 .cases h2
end
end L2
namespace L3
open PySem PySem.Spec PyProof.Rows L2
theorem bL{P:Program}{w:World}{K:W.Frag}{mg:Str->Option Value}{base:Heap}{cl:Nat->Addr}{x qual:Str}{st:Stmt}{f:Addr}{fd:FuncData}{N ps:List Str}{k:Nat}{F:FZ}{b:List Stmt}{sc:Scope}(hb:aM st=b)(hs:aC st=sc)(Fn:EA K x qual st f fd)(S:aW N ps sc)
 (mS:∀(dJ:Value) (A:Around) (outer:List Env) (s:Shared) (H:Hp) (E:XK),eX k (A.deeper (envOfC qual sc s.heap.objs.size f dJ))->
   EL (vz xn P w K mg base N qual sc f dJ A outer s H E).Li cl b F):jI P w K mg base xn (k+1) f fd ps (F8 K cl ps.length (n4 N F)):=by
 subst hb hs;exact Ks Fn S mS
theorem aX.p{K:W.Frag}{k:Nat}{n:Nat}{N:List Str}(C:aX P w K mg base cl k x n (n4 N F)):aX P w K mg base cl k x n (n6 N F):=
 let⟨f,fd,ps,F,h⟩:=C;⟨f,fd,ps,F.imp fun _ _ _ _ h=>Cy h,h⟩
def RB(N:List Str)(F:FZ):List D->R D:=fun ds=>match n6 N F (ds.map .d) [] with
 | .ok (.d d) []=>R.bX d.atom (.ok d)
 | _=> .no
theorem NB{K:W.Frag}{N:List Str}{n:Nat}{vs:List V}{Q:VK}{E:XK}(h:Ih K n (RB N F) vs H Q E):F8 K cl n (n4 N F) vs H Q E:=by
 obtain⟨hl,B,ds,d,hb,r,hg,q⟩:=h;unfold RB at hg;split at hg
 .rename_i d' e;obtain⟨ha,h2⟩:=R.bp hg;cases h2;have r0:aG K (⟨[],[],[]⟩:P3).b H ds vs:=r.bu fun b o e _=>⟨e,by simp [P3.b]⟩
  refine Cy ⟨hl,⟨[],[],[]⟩,[],ds.map .d, .d d,[],⟨rfl,fun i j a hi=>by simp at hi,fun k a o hk=>by simp at hk,fun b hb=>by simp at hb,fun k a hk=>by simp at hk,fun b hb=>by simp at hb,fun k a hk=>by simp at hk⟩,aL.of r0,e,fun u cV H' p w' r'=>q u H' (fun b o eb=>?_) ?_⟩
  .exact(p.bu b o eb (by simp [P3.b])).1
  .unfold bh at r';exact r'.atom ha
 .cases hg
section
variable {X:Cx} {cl:Nat->Addr}
theorem AW{a:Expr}(ha:PX X cl a f)(he:∀whole,isTrue a X.env whole=(do let v <-whole;standAt a.pos;holding [v] (truthy v)):=by intro _;rfl):D4 X cl a (GI f):=KQ ha fun h=>Bl h he
theorem vN{g:List D->R D}{k j n:Nat}{x:Str}{p pos:Pos}{e:Expr}{es:List Expr}{fs:FA}(C:Callee X.prog X.w X.K X.mg X.base k x n g)(hr:eX j X.A)(Ji:k<=j)(hg:Gl X x)(ha:IQ X cl (e ::es) fs)
 (hn:∀δ S ds S',fs δ S= .ok ds S'->ds.length=n) (qP:(x==("__debug__":Str))=false:=by decide) (he:starEach (e ::es) X.env=(false,eval e X.env) ::starEach es X.env:=by rfl) (lT:(backTo pos (starEach es X.env)).any (·.1)=false:=by rfl) :
 PX X cl (.Call (.Name x p) (e ::es) [] pos) (lO g fs):=by
 obtain⟨f,fd,ps,F,hm,hk,hb⟩:=C;refine⟨(zk F (hr.mono Ji) hg hm hk hb .nil A4 ha.1 qP he lT).imp fun σ H Q ⟨ρ,S,δ,v,S',E,hf,q⟩=>?_⟩
 obtain⟨vs,S1,h1,h2⟩:=R3.ak hf;split at h2
 .rename_i ds e;obtain⟨d,S2,h3,h4⟩:=R3.ak h2;obtain⟨h5,e5⟩:=R3.of_ok h3;cases h4;subst e5;refine⟨ρ,S,δ,vs,_,E,h1,fun us bY H1 p1 w1 r1=>?_⟩
  have hl:=hn δ S vs _ h1;rw[j6 e] at r1;show Ih X.K n g (us++[]) H1 Q E0;rw[List.append_nil];exact⟨by rw[<-r1.length,<-j6 e];exact hl,bY.b,ds,d,w1.bs,r1.to,h5,fun z H' s r=>q z bY H' (p1.trans (Pre.same s)) (w1.same s) (by unfold bh;exact r)⟩
 .cases h2
def Tr(f:FX):FA:=fun δ S=>(f δ S).bind fun v S=>match v with | .d (.tup ds)=> .ok (ds.map .d) S | .tup vs=> .ok vs S | _=> .no
end
end L3
end
section
namespace L3
open PySem PySem.Spec PyProof.Rows L2
def W3{α:Type}(r:R3 α)(Q:α->aH->Prop):Prop:=∃a S,r= .ok a S/\Q a S
section
variable {α β:Type} {Q Q':α->aH->Prop} {S:aH} {δ:DE}
theorem W3.ok{a:α}(h:Q a S):W3 (.ok a S) Q:=⟨a,S,rfl,h⟩
theorem W3.bind{Q:β->aH->Prop}{r:R3 α}{f:α->aH->R3 β}(h:W3 r fun a S=>W3 (f a S) Q):W3 (r.bind f) Q:=by
 obtain⟨a,S1,e1,b,S2,h2,q⟩:=h;exact⟨b,S2,by rw[e1];exact h2,q⟩
theorem W3.mono{r:R3 α}(h:W3 r Q)(m:∀a S,Q a S->Q' a S):W3 r Q':=let⟨a,S,e,q⟩:=h;⟨a,S,e,m a S q⟩
theorem W3.wh{c:Bool}{r:R3 α}(hc:c=true)(h:W3 r Q):W3 (R3.bX c r) Q:=by rw[hc];exact h
theorem W3.of{r:R α}{a:α}(e:r= .ok a)(h:Q a S):W3 (R3.of r S) Q:=by rw[e];exact⟨a,S,rfl,h⟩
end
section
variable {S:aH} {δ:DE} {QV:V3->aH->Prop} {QB:Bool->aH->Prop} {QA:List V3->aH->Prop} {QO:Ou->aH->Prop}
theorem bV{f:FD}{d:D}(e:f (down δ)= .ok d)(h:QV (.d d) S):W3 (xP f δ S) QV:=W3.bind (W3.of e (W3.ok h))
theorem Ds{f:FD}{d:D}(e:f (cO S δ)= .ok d)(ha:rH d=true)(h:QV (.d d) S):W3 (xT f δ S) QV:=W3.bind (W3.of e (W3.wh ha (W3.ok h)))
theorem dt{f:aw->R Bool}{b:Bool}(e:f (down δ)= .ok b)(h:QB b S):W3 (bP f δ S) QB:=W3.of e h
theorem La{f:aw->R Bool}{b:Bool}(e:f (cO S δ)= .ok b)(h:QB b S):W3 (bT f δ S) QB:=W3.of e h
theorem w_var{i:Nat}{v:V3}(e:δ[i]? =some (some v))(h:QV v S):W3 (bQ i δ S) QV:=by unfold bQ;rw [e];exact W3.ok h
theorem js{f:aw->R (List D)}{ds:List D}(e:f (down δ)= .ok ds)(h:QV (.loc S.length) (S++[.lst ds])):W3 (ng f δ S) QV:=W3.bind (W3.of e (W3.ok h))
theorem b_(h:QA [] S):W3 (cn δ S) QA:=W3.ok h
theorem ax{f:FX}{g:FA}(h:W3 (f δ S) fun v S1=>W3 (g δ S1) fun vs S2=>QA (v ::vs) S2):W3 (av f g δ S) QA:=W3.bind (h.mono fun _ _ h=>W3.bind (h.mono fun _ _ h=>W3.ok h))
theorem yp{g:FA}(h:W3 (g δ S) fun vs S1=>vs.length<=sizeLine/\QV (Er vs) S1):W3 (Au g δ S) QV:=W3.bind (h.mono fun _ _ h=>W3.wh (decide_eq_true h.1) (W3.ok h.2))
theorem QQ{g:FA}(h:W3 (g δ S) fun vs S1=>vs.length<=sizeLine/\QV (uh vs) S1):W3 (M9 g δ S) QV:=W3.bind (h.mono fun _ _ h=>W3.wh (decide_eq_true h.1) (W3.ok h.2))
theorem L5{g:D->D->R D}{fa fb:FX}(h:W3 (fa δ S) fun a S1=>W3 (fb δ S1) fun b S2=>∃x y d,a= .d x/\b= .d y/\g x y= .ok d/\QV (.d d) S2):W3 (x2 g fa fb δ S) QV:=
 W3.bind (h.mono fun _ _ h=>W3.bind (h.mono fun _ _ ⟨_,_,_,e1,e2,e3,q⟩=>by subst e1 e2;exact W3.bind (W3.of e3 (W3.ok q))))
theorem Ki{g:D->D->R D}{fa fb:FX}(h:W3 (fa δ S) fun a S1=>W3 (fb δ S1) fun b S2=>∃x y k,a= .d x/\b= .d y/\g x y= .ok (.bl k)/\QB k S2):W3 (O7 g fa fb δ S) QB:=
 W3.bind (L5 (h.mono fun _ _ h=>h.mono fun _ _ ⟨x,y,k,e1,e2,e3,q⟩=>⟨x,y, .bl k,e1,e2,e3,W3.ok q⟩))
theorem Nb{fa fb:FX}(h:W3 (fa δ S) fun a S1=>W3 (fb δ S1) fun b S2=>∃x y d,a= .d x/\b= .d y/\cb x y= .ok d/\QV (.d d) S2):W3 (O6 fa fb δ S) QV:=
 W3.bind (h.mono fun _ _ h=>W3.bind (h.mono fun _ _ ⟨_,_,_,e1,e2,e3,q⟩=>by subst e1 e2;exact W3.bind (W3.of e3 (W3.ok q))))
theorem cF{g:List V3->aH->R3 V3}{fs:FA}(h:W3 (fs δ S) fun vs S1=>W3 (g vs S1) QV):W3 (b9 g fs δ S) QV:=W3.bind h
theorem rj{g:List D->R D}{fs:FA}(h:W3 (fs δ S) fun vs S1=>∃ds d,vs=ds.map .d/\g ds= .ok d/\QV (.d d) S1):W3 (lO g fs δ S) QV:=
 W3.bind (h.mono fun _ _ ⟨ds,_,e1,e2,q⟩=>by subst e1;rw [wO];exact W3.bind (W3.of e2 (W3.ok q)))
theorem IB{it:FA}{own:List Str}{kp:List Nat}(h:W3 (it δ S) fun vs S1=>vs.length<=sizeLine/\W3 (oy t c f (mh own kp δ) vs S1) fun ys S2=>QV (uh ys) S2):W3 (jt it t c f own kp δ S) QV:=
 W3.bind (h.mono fun _ _ h=>W3.wh (decide_eq_true h.1) (W3.bind (h.2.mono fun _ _ h=>W3.ok h)))
theorem LK{f:FX}(h:W3 (f δ S) fun v S1=>∃d b,v= .d d/\Ld d= .ok b/\QB b S1):W3 (GI f δ S) QB:=W3.bind (h.mono fun _ _ ⟨_,_,e,e2,q⟩=>by subst e;exact W3.of e2 q)
theorem w_not{f:FB}(h:W3 (f δ S) fun b S1=>QB (!b) S1):W3 (Kf f δ S) QB:=W3.bind (h.mono fun _ _ h=>W3.ok h)
theorem aA{F G:FZ}(h:W3 (F δ S) fun o S1=>∃δ1,o= .nx δ1/\W3 (G δ1 S1) QO):W3 (aU F G δ S) QO:=W3.bind (h.mono fun _ _ ⟨_,e,h⟩=>by subst e;exact h)
theorem GZ{F G:FZ}(h:W3 (F δ S) fun o S1=>∃v,o= .rt v/\QO (.rt v) S1):W3 (aU F G δ S) QO:=W3.bind (h.mono fun _ _ ⟨_,e,h⟩=>by subst e;exact W3.ok h)
theorem a_{i:Nat}{f:FX}(hi:i < δ.length)(h:W3 (f δ S) fun v S1=>QO (.nx (δ.set i (some v))) S1):W3 (bB i f δ S) QO:=W3.bind (h.mono fun _ _ h=>W3.wh (decide_eq_true hi) (W3.ok h))
theorem dC{f:FX}(h:W3 (f δ S) fun v S1=>QO (.rt v) S1):W3 (fZ f δ S) QO:=W3.bind (h.mono fun _ _ h=>W3.ok h)
theorem j0{c:FB}{F G:FZ}(h:W3 (c δ S) fun b S1=>if b then W3 (F δ S1) QO else W3 (G δ S1) QO):W3 (n9 c F G δ S) QO:=W3.bind (h.mono fun b _ h=>by cases b <;> exact h)
theorem LP{f:FX}{t:FG}(h:W3 (f δ S) fun v S1=>∃δ1,t v δ=some δ1/\QO (.nx δ1) S1):W3 (J8 f t δ S) QO:=W3.bind (h.mono fun _ _ ⟨_,e,q⟩=>by rw[e];exact W3.ok q)
theorem fO(h:QO (.nx δ) S):W3 (gy δ S) QO:=W3.ok h
theorem lH{f:aw->R (List D)}{ds:List D}(e:f (down δ)= .ok ds)(h:QA (ds.map .d) S):W3 (iP f δ S) QA:=W3.bind (W3.of e (W3.ok h))
theorem y6{f:FX}(h:W3 (f δ S) fun v S1=>∃n:Nat,v= .d (.int n)/\n < 1000000/\QA ((eY 0 n).map .d) S1):W3 (uf f δ S) QA:=W3.bind (h.mono fun _ _ ⟨n,e,hn,q⟩=>by
 subst e;refine W3.wh (decide_eq_true ⟨by omega,by omega⟩) (W3.ok ?_)
 rw[Int.toNat_natCast];exact q)
theorem pI{f:FX}(h:W3 (f δ S) fun v S1=>∃ds,v= .d (.lst ds)/\QA (ds.map .d) S1):W3 (xF f δ S) QA:=W3.bind (h.mono fun _ _ ⟨n,e,q⟩=>by subst e;exact W3.ok q)
theorem K3{f:FX}(h:W3 (f δ S) fun v S1=>∃vs,v= .lst vs/\QA vs S1):W3 (xF f δ S) QA:=W3.bind (h.mono fun _ _ ⟨n,e,q⟩=>by subst e;exact W3.ok q)
theorem eT{it:FA}(h:W3 (it δ S) fun vs S1=>W3 (jU t F vs δ S1) QO):W3 (iC it t F δ S) QO:=W3.bind h
theorem nU{i k:Nat}{f:FX}(hk:δ[i]? =some (some (.loc k)))(h0:∃ds,S[k]? =some (.lst ds))(h:W3 (f δ S) fun v S1=>∃d ds,v= .d d/\S1[k]? =some (.lst ds)/\ds.length < sizeLine/\QO (.nx δ) (S1.set k (.lst (ds++[d])))):W3 (mq i f δ S) QO:=by
 obtain⟨es,h0⟩:=h0;unfold mq;have e1:mP δ i=some k:=by unfold mP;rw [hk]
 have e2:dh S k=some es:=by unfold dh;simp only[h0]
 rw[e1];show W3 (match dh S k with | none=>_ | some _=>_) _
 rw[e2];refine W3.bind (h.mono fun v S1 ⟨d,ds,e,h1,hl,q⟩=>?_)
 subst e;have e3:dh S1 k=some ds:=by unfold dh;simp only[h1]
 show W3 (match dh S1 k with | some ds=>_ | none=>_) _
 rw[e3];exact W3.wh (decide_eq_true hl) (W3.ok q)
theorem LX{fo fi fe:FX}(h:W3 (fe δ S) fun v S1=>W3 (fo δ S1) fun o S2=>W3 (fi δ S2) fun j S3=>∃d k n ds m,v= .d d/\o= .loc k/\j= .d (.int n)/\S3[k]? =some (.lst ds)/\Bw ds.length n=some m/\QO (.nx δ) (S3.set k (.lst (ds.set m d)))):W3 (Kt fo fi fe δ S) QO:=
 W3.bind (h.mono fun _ _ h=>W3.bind (h.mono fun _ _ h=>W3.bind (h.mono fun _ S3 ⟨d,k,n,ds,m,e1,e2,e3,h1,h2,q⟩=>by
  subst e1 e2 e3;have e3:dh S3 k=some ds:=by unfold dh;simp only[h1]
  show W3 (match dh S3 k with | some ds=>_ | none=>_) _
  rw[e3];show W3 (match Bw ds.length n with | some m=>_ | none=>_) _
  rw[h2];exact W3.ok q)))
theorem vC{t:FG}{body:FZ}:∀(vs:List V3) (n:Nat) (P:Nat->DE->aH->Prop) {δ:DE} {S:aH},P n δ S->
 (∀i v δ S,vs[i]? =some v->P (n+i) δ S->∃δ1,t v δ=some δ1/\W3 (body δ1 S) fun o S1=>∃du,o= .nx du/\P (n+i+1) du S1)->W3 (jU t body vs δ S) fun o S1=>∃du,o= .nx du/\P (n+vs.length) du S1
 | [],n,P,δ,S,h0,_=>W3.ok ⟨δ,rfl,h0⟩
 | v ::vs,n,P,δ,S,h0,hs=>by
   obtain⟨δ1,e1,o,S1,e2,du,rfl,p2⟩:=hs 0 v δ S rfl h0;have ih:=vC vs (n+1) P p2 (fun i v' eg S' hi hp=>by
    have:=hs (i+1) v' eg S' (by simpa using hi) (by rw[show n+(i+1)=n+1+i by omega];exact hp)
    rw[show n+(i+1)+1=n+1+i+1 by omega] at this
    exact this)
   rw[show n+1+vs.length=n+(v ::vs).length by rw[List.length_cons];omega] at ih
   unfold jU;rw[e1];refine W3.bind ⟨_,_,e2,?_⟩;exact ih
theorem bM{t:FG}{body:FZ}{vs:List V3}(P:Nat->DE->aH->Prop){δ:DE}{S:aH}(h0:P 0 δ S)
 (hs:∀i v δ S,vs[i]? =some v->P i δ S->∃δ1,t v δ=some δ1/\W3 (body δ1 S) fun o S1=>∃du,o= .nx du/\P (i+1) du S1):W3 (jU t body vs δ S) fun o S1=>∃du,o= .nx du/\P vs.length du S1:=by
 have:=vC (t:=t) (body:=body) vs 0 P h0 (fun i v δ S hi hp=>by simpa using hs i v δ S hi (by simpa using hp))
 simpa using this
theorem vX{t:FG}{c:FB}{f:FX}{δ:DE}:∀(vs:List V3) (n:Nat) (P:Nat->List V3->aH->Prop) {ys:List V3} {S:aH},P n ys S->
 (∀i v ys S,vs[i]? =some v->P (n+i) ys S->∃δ1,t v δ=some δ1/\W3 (c δ1 S) fun b S1=>if b then W3 (f δ1 S1) fun y S2=>P (n+i+1) (ys++[y]) S2 else P (n+i+1) ys S1)->W3 (oy t c f δ vs S) fun zs S1=>P (n+vs.length) (ys++zs) S1
 | [],n,P,ys,S,h0,_=>W3.ok (by rw[List.append_nil];exact h0)
 | v ::vs,n,P,ys,S,h0,hs=>by
   obtain⟨δ1,e1,b,S1,e2,h2⟩:=hs 0 v ys S rfl h0;have ih:∀{Q9 S'},P (n+1) Q9 S'->W3 (oy t c f δ vs S') fun zs S1=>P (n+(v ::vs).length) (Q9++zs) S1:=fun {Q9 S'} p=>by
    have:=vX (t:=t) (c:=c) (f:=f) (δ:=δ) vs (n+1) P p (fun i v' Q9 S' hi hp=>by
     have:=hs (i+1) v' Q9 S' (by simpa using hi) (by rw[show n+(i+1)=n+1+i by omega];exact hp)
     rw[show n+(i+1)+1=n+1+i+1 by omega] at this
     exact this)
    rw[show n+1+vs.length=n+(v ::vs).length by rw[List.length_cons];omega] at this
    exact this
   unfold oy;rw[e1];refine W3.bind ⟨b,S1,e2,?_⟩;cases b with
   | true=>
     rw[if_pos rfl] at h2 ⊢;exact W3.bind (h2.mono fun y S2 p=>W3.bind ((ih p).mono fun zs S3 q=>W3.ok (by rw[List.append_assoc] at q;exact q)))
   | false=>rw [if_neg (by decide)] at h2 ⊢;exact ih h2
theorem yb{t:FG}{c:FB}{f:FX}{δ:DE}{vs:List V3}(P:Nat->List V3->aH->Prop){S:aH}(h0:P 0 [] S)
 (hs:∀i v ys S,vs[i]? =some v->P i ys S->∃δ1,t v δ=some δ1/\W3 (c δ1 S) fun b S1=>if b then W3 (f δ1 S1) fun y S2=>P (i+1) (ys++[y]) S2 else P (i+1) ys S1):W3 (oy t c f δ vs S) fun zs S1=>P vs.length zs S1:=by
 have:=vX (t:=t) (c:=c) (f:=f) (δ:=δ) vs 0 P h0 (fun i v ys S hi hp=>by simpa using hs i v ys S hi (by simpa using hp))
 simpa using this
theorem ui{QB:Bool->aH->Prop}(h:QB true S):W3 (uO δ S) QB:=W3.ok h
theorem ve{N:List Str}{F:FZ}{vs:List V3}{δ:DE}(e:cv N vs=δ)(h:W3 (F δ S) fun o S1=>∃v,o= .rt v/\QV v S1):W3 (n4 N F vs S) QV:=by
 subst e;exact W3.bind (h.mono fun _ _ ⟨_,e,q⟩=>by subst e;exact W3.ok q)
def U4(S:aH):Prop:=∀o∈S,∃ds,o=SO.lst ds
end
section
variable {S:aH} {δ:DE} {QV:V3->aH->Prop}
theorem lA{it:FA}{t:FG}{c:FB}{f:FX}{own:List Str}{kp:List Nat}(P:Nat->List D->aH->Prop)(h:W3 (it δ S) fun vs S1=>vs.length<=sizeLine/\P 0 [] S1/\
 (∀i v ds S2,vs[i]? =some v->P i ds S2->∃δ1,t v (mh own kp δ)=some δ1/\W3 (c δ1 S2) fun b S3=>if b then W3 (f δ1 S3) fun y S4=>∃d,y= .d d/\P (i+1) (ds++[d]) S4 else P (i+1) ds S3)/\
 ∀ds S2,P vs.length ds S2->QV (.d (.lst ds)) S2):W3 (jt it t c f own kp δ S) QV:=by
 refine IB (h.mono fun vs S1 ⟨hl,h0,hs,hq⟩=>⟨hl,?_⟩)
 refine(yb (fun i ys S=>∃ds,ys=ds.map V3.d/\P i ds S) ⟨[],rfl,h0⟩ ?_).mono fun zs S2 ⟨ds,e,p⟩=>?_
 .rintro i v ys S2 hv ⟨ds,rfl,p⟩;obtain⟨δ1,e1,h1⟩:=hs i v ds S2 hv p;refine⟨δ1,e1,h1.mono fun b S3 h3=>?_⟩
  cases b with
  | true=>
    rw[if_pos rfl] at h3 ⊢;exact h3.mono fun y S4 ⟨d,e,p⟩=>by subst e;exact⟨ds++[d],by simp,p⟩
  | false=>rw [if_neg (by decide)] at h3 ⊢;exact⟨ds,rfl,h3⟩
 .subst e;unfold uh;rw[wO];exact hq ds S2 p
structure eu (n:Nat) (d:D):Prop where
 pl:fJ d=true
 ly:(toPy d).canLay0=true
 dp:(toPy d).depth<=n
theorem eu.int(i:Int):eu 0 (.int i):=⟨by unfold fJ;rfl,by unfold toPy PyData.canLay0;rfl,by unfold toPy PyData.depth;omega⟩
theorem eu.bl(b:Bool):eu 0 (.bl b):=⟨by unfold fJ;rfl,by unfold toPy PyData.canLay0;rfl,by unfold toPy PyData.depth;omega⟩
theorem eu.str(h:(PyData.str s).canLay0=true):eu 0 (.str s):=⟨by unfold fJ;rfl,by unfold toPy;exact h,by unfold toPy PyData.depth;omega⟩
theorem eu.mono{n m:Nat}{d:D}(h:eu n d)(hm:n<=m):eu m d:=⟨h.pl,h.ly,Nat.le_trans h.dp hm⟩
theorem eu.all{n:Nat}:∀{ds:List D},(∀d∈ds,eu n d)->lz ds=true/\PyData.canLayAll0 (nQ ds)=true/\PyData.depthAll (nQ ds)<=n
 | [],_=>⟨by unfold lz;rfl,by unfold nQ PyData.canLayAll0;rfl,by unfold nQ PyData.depthAll;omega⟩
 | d ::ds,h=>by
   obtain⟨h1,h2,h3⟩:=eu.all (ds:=ds) fun x hx=>h x (List.mem_cons_of_mem _ hx)
   have f:=h d List.mem_cons_self;refine⟨by unfold lz;rw [f.pl,h1];rfl,by unfold nQ PyData.canLayAll0;rw [f.ly,h2];rfl,?_⟩
   unfold nQ PyData.depthAll;have:=f.dp;omega
theorem eu.lst{n:Nat}{ds:List D}(h:∀d∈ds,eu n d):eu (n+1) (.lst ds):=by
 obtain⟨h1,h2,h3⟩:=eu.all h;exact⟨by unfold fJ;exact h1,by unfold toPy PyData.canLay0;exact h2,by unfold toPy PyData.depth;omega⟩
theorem eu.tup{n:Nat}{ds:List D}(h:∀d∈ds,eu n d):eu (n+1) (.tup ds):=by
 obtain⟨h1,h2,h3⟩:=eu.all h;exact⟨by unfold fJ;exact h1,by unfold toPy PyData.canLay0;exact h2,by unfold toPy PyData.depth;omega⟩
theorem eu.sh{n:Nat}{d:D}(h:eu n d)(hn:n<=64):SeqAt.shaped (toPy d)=true:=by
 unfold SeqAt.shaped;rw[h.ly,decide_eq_true (Nat.le_trans h.dp hn)];rfl
theorem CS{d e:List D}:Gb (.lst d) (.lst e)=R.bX (fJ (.lst d) && fJ (.lst e) && SeqAt.shaped (toPy (.lst d)) && SeqAt.shaped (toPy (.lst e))) (.ok (PyData.eqv (toPy (.lst d)) (toPy (.lst e)))):=rfl
theorem Ha{d e:List D}:Gb (.tup d) (.tup e)=R.bX (fJ (.tup d) && fJ (.tup e) && SeqAt.shaped (toPy (.tup d)) && SeqAt.shaped (toPy (.tup e))) (.ok (PyData.eqv (toPy (.tup d)) (toPy (.tup e)))):=rfl
theorem eu.eqT{n:Nat}{ds:List D}(h:eu n (.tup ds))(hn:n<=64):Gb (.tup ds) (.tup ds)= .ok true:=by
 rw[Ha,h.pl,h.sh hn,SeqAt.eqv_refl _ h.ly];rfl
end
theorem HN{α:Type}(ds:List α){n:Int}(h:0<=n):L2.cutD ds none (some n)=ds.take n.toNat:=by
 obtain⟨k,rfl⟩:=Int.eq_ofNat_of_zero_le h;unfold L2.cutD;rw[HT.Bd,HT.De,List.drop_zero,Nat.sub_zero,Int.toNat_natCast];by_cases hk:k<=ds.length
 .rw [Nat.min_eq_left hk]
 .rw [Nat.min_eq_right (by omega),List.take_of_length_le (Nat.le_refl _),List.take_of_length_le (by omega)]
end L3
end
section
namespace L2
open PySem PySem.Spec PyProof.Rows
section
variable {X:Cx}
def I0:D->Bool | .cK=>true | _=>false
def Rw(d e:D):R D:=match e with | .cK=> .ok (.bl (I0 d)) | _=> .no
def Nt(d e:D):R D:=match e with | .cK=> .ok (.bl (!I0 d)) | _=> .no
theorem DV{K:W.Frag}{B:List Addr}{d:D}{x:V}(r:Rep K B H d x):decide (x= .cK)=I0 d:=by
 cases d with
 | cK=>rw [Rep.cK.mp r];rfl
 | bl b=>rw [Rep.bl.mp r];rfl
 | int b=>rw [Rep.int.mp r];rfl
 | str b=>rw [Rep.str.mp r];rfl
 | lst ds=>obtain⟨a,xs,rfl,_⟩:=Rep.lst.mp r;rfl
 | tup ds=>obtain⟨a,xs,rfl,_⟩:=Rep.tup.mp r;rfl
 | dct ks ds=>unfold Rep at r;obtain⟨a,xs,rfl,_⟩:=r;rfl
theorem Sq:lG X (compareOp .Is) Rw:=lG.of MH fun B H da db d x y Q _ ra rb hg q=>by
 unfold Rw at hg;split at hg
 .cases hg;exact⟨Rep.cK.mp rb,by rw[DV ra];exact q _ H (bg.refl H) (Rep.bl.mpr rfl)⟩
 .cases hg
theorem PU:lG X (compareOp .IsNot) Nt:=lG.of J6 fun B H da db d x y Q _ ra rb hg q=>by
 unfold Nt at hg;split at hg
 .cases hg;exact⟨Rep.cK.mp rb,by rw[DV ra];exact q _ H (bg.refl H) (Rep.bl.mpr rfl)⟩
 .cases hg
def Qp:List D->R D
 | [.str x]=>R.bX (decide (x.length<=640)) (match PySem.intText? x with | some n=> .ok (.int n) | none=> .no)
 | _=> .no
def Vn(ds:List D):R D:=match ds with | [.str _]=>Qp ds | _=>cInt ds
def GY(f:FD):FD:=fun δ=>(f δ).bind fun d=>match d with | .int i=> .ok (.int (-i)) | _=> .no
theorem DX(h:QD X a f):QD X (.UnaryOp .USub a pos) (GY f):=⟨(LR Mu h.1).imp fun σ H Q ⟨Z,B,δ,d,E,hf,q⟩=>by
 obtain⟨d1,h1,h2⟩:=R.ak hf;split at h2
 .cases h2;exact⟨Z,B,δ,_,E,h1,fun v H1 s1 r1=>⟨_,Rep.int.mp r1,q _ H1 s1 (Rep.int.mpr rfl)⟩⟩
 .cases h2⟩
def UW(d:D)(ds:List D):R D:=match d,ds with
 | .str x,[.str y]=> .ok (.int (Txt.find x y))
 | _,_=> .no
def V9(kvs:List (Str × Str)):D:= .dct (kvs.map fun p=>Sum.inr p.1) (kvs.map fun p=> .str p.2)
def Yz(kvs:List (Str × Str)):List (Key × V):=kvs.map fun p=>((Sum.inr p.1:Key),V.str p.2)
def Ww(d k:D):R D:=match d,k with
 | .dct ks ds, .str x=>(match (ks.zip ds).find? fun p=>decide (p.1=Sum.inr x) with | some p=> .ok p.2 | none=> .no)
 | _,_=> .no
end
theorem PV{K:W.Frag}{k n:Nat}{f:Addr}{fd:FuncData}{ps:List Str}:jI P w K mg base xn k f fd ps (Ih K n fun _=> .no):=
 ⟨fun vs H Q E h=>(by obtain⟨_,_,_,_,_,_,h,_⟩:=h;cases h),fun A outer s H args us vs Q E _ _ _ _ h=>(by obtain⟨_,_,_,_,_,_,h,_⟩:=h;cases h)⟩
end L2
namespace L3
open PySem PySem.Spec PyProof.Rows L2
section
variable {X:Cx} {cl:Nat->Addr}
def R7(f:FX):FB:=fun δ S=>(f δ S).bind fun v S=>match v with | .d (.bl b)=> .ok b S | _=> .no
theorem ML{f:FX}{δ:DE}{S S':aH}{b:Bool}(h:R7 f δ S= .ok b S'):f δ S= .ok (.d (.bl b)) S':=by
 obtain⟨v,S1,h1,h2⟩:=R3.ak h;split at h2
 .cases h2;exact h1
 .cases h2
def KC(f g:FX):FX:=fun δ S=>(R7 f δ S).bind fun b S=>if b then g δ S else .ok (.d (.bl false)) S
def YE(f g:FX):FX:=fun δ S=>(R7 f δ S).bind fun b S=>if b then .ok (.d (.bl true)) S else g δ S
theorem OC{op}(h:PX X cl a f):PX X cl (.BoolOp op [a] pos) f:=⟨MQ h.1⟩
theorem Ip{rest:List Expr}(ha:PX X cl a f)(hb:PX X cl (.BoolOp .And (b ::rest) pos) g):PX X cl (.BoolOp .And (a ::b ::rest) pos) (KC f g):=⟨(Mq ha.1 hb.1).imp fun σ H Q ⟨ρ,S,δ,k,S',E,hf,q⟩=>by
 obtain⟨c,S1,h1,h2⟩:=R3.ak hf;refine⟨ρ,S,δ, .d (.bl c),S1,E,ML h1,fun v bY H1 p1 w1 r1=>⟨c,by unfold bh Rep at r1;exact r1,?_⟩⟩
 cases c with
 | true=>rw [if_pos rfl] at h2 ⊢;exact⟨bY,S1,δ,k,S',E.to p1 w1,h2,fun v n5 H' p2 w2 r2=>q v n5 H' (p1.trans p2) w2 r2⟩
 | false=>rw [if_neg (by decide)] at h2 ⊢;cases h2;exact q _ bY H1 p1 w1 (by unfold bh Rep;rfl)⟩
theorem w_and{f g:FX}{δ:DE}{S:aH}{Q:V3->aH->Prop}(h:W3 (f δ S) fun v S1=>v= .d (.bl true)/\W3 (g δ S1) Q):W3 (KC f g δ S) Q:=W3.bind (W3.bind (h.mono fun v S1 ⟨e,h2⟩=>by subst e;exact W3.ok (by rw[if_pos rfl];exact h2)))
def Fh(i:Nat)(F:FZ):FZ:=fun δ S=>match mP δ i with
 | some k=>(match dh S k with | some ds=>F (δ.set i (some (.d (.lst ds)))) (S.set k .lp) | none=> .no)
 | none=> .no
theorem Eb(i:Nat)(h:EL X cl Mi F):EL X cl Mi (Fh i F):=⟨h.1.imp fun D σ H ⟨ρ,S,δ,o,S',E,hf,q⟩=>by
 unfold Fh at hf;split at hf
 .rename_i k hk;split at hf
  .rename_i ds hds;obtain⟨v,v1,v2⟩:=E.val i _ (nq hk);unfold bh at v2;obtain⟨a,a1,rfl⟩:=v2;obtain⟨w,p,r⟩:=E.sw.lp a1 (dP hds);have E1:fN X.K cl ⟨ρ.r,ρ.z,a ::ρ.f⟩ H (S.set k .lp) σ (δ.set i (some (.d (.lst ds)))):=⟨by rw[List.length_set];exact E.len,w,fun j d e=>by
    by_cases h:i=j
    .subst h;rw[List.getElem?_set_self (by obtain⟨h1,_⟩:=List.getElem?_eq_some_iff.mp (nq hk);exact h1)] at e
     cases e;exact⟨_,v1,by unfold bh;exact r⟩
    .rw [List.getElem?_set_ne h] at e;obtain⟨u,u1,u2⟩:=E.val j d e;exact⟨u,u1,u2.pre p⟩⟩
   exact⟨_,_,_,o,S',E1,hf,q.pre p⟩
  .cases hf
 .cases hf⟩
theorem LH{i k:Nat}{ds:List D}{F:FZ}{δ:DE}{S:aH}{QO:Ou->aH->Prop}(hk:δ[i]? =some (some (.loc k)))(hS:S[k]? =some (.lst ds))(h:W3 (F (δ.set i (some (.d (.lst ds)))) (S.set k .lp)) QO):W3 (Fh i F δ S) QO:=by
 unfold Fh;have e1:mP δ i=some k:=by unfold mP;rw [hk]
 have e2:dh S k=some ds:=by unfold dh;simp only[hS]
 simp only[e1,e2];exact h
end
def Flat(S:aH):Prop:=∀o∈S,∀n,pM n o=true
theorem Flat.all{S:aH}(h:Flat S)(n:Nat):(S.take n).all (pM n)=true:=List.all_eq_true.mpr fun o ho=>h o (List.mem_of_mem_take ho) n
theorem Flat.set{S:aH}(h:Flat S)(k:Nat){x:SO}(hx:∀n,pM n x=true):Flat (S.set k x):=fun o ho=>by
 rcases List.mem_or_eq_of_mem_set ho with z | z
 .exact h o z
 .rw [z];exact hx
theorem Flat.push{S:aH}(h:Flat S){x:SO}(hx:∀n,pM n x=true):Flat (S++[x]):=fun o ho=>by
 rcases List.mem_append.mp ho with z | z
 .exact h o z
 .rw [List.mem_singleton.mp z];exact hx
theorem Flat.take{S:aH}(h:Flat S)(n:Nat):Flat (S.take n):=fun o ho=>h o (List.mem_of_mem_take ho)
theorem Flat.nil:Flat []:=fun o ho=>by cases ho
theorem vL{N:List Str}{vs:List V3}{S:aH}{QV:V3->aH->Prop}(h:W3 (n4 N F vs S) fun v S1=>Flat S1/\gf S.length v=true/\∃d,res S1 v=some d/\QV (.d d) (S1.take S.length)):W3 (n6 N F vs S) QV:=
 W3.bind (h.mono fun v S1 ⟨hl,hg,d,e,q⟩=>by
  rw[e];exact W3.wh (by rw[hl.all,hg];rfl) (W3.ok q))
end L3
end
section
namespace PySem
open Sem (wp)
open AutoSeq1 (wpAny_loadPart')
section
variable {prog:Program} {w:World} {A:Around} {E:Value->Shared->Prop} {s:Shared}
end
end PySem
namespace L2
open PySem PySem.Spec PyProof.Rows
section
variable {X:Cx}
def Ru(f:FD):FD:=fun δ=>(f δ).bind fun d=>match d with
 | .int j=>R.bX (decide (-(2 ^ 62)<=j/\j < 16777216)) (.ok (.tup (eY 0 j.toNat)))
 | _=> .no
end
end L2
end
section
namespace PySem
open Sem (wp)
open AutoSeq1 (wpAny_loadPart')
section
variable {prog:Program} {w:World} {A:Around} {E:Value->Shared->Prop} {s:Shared}
theorem nV{it l:Addr}{i:Nat}{items:Array Value}{x:Value}{Q:Value->Shared->Prop}(hit:s.heap.IsTupleIter it l i)(hl:s.heap.IsTuple l items)(hx:items[i]? =some x)
 (hQ:∀h',h'.IsTupleIter it l (i+1)->Heap.SameBut it s.heap h'->Q x {s with heap:=h'}):wpAny (model prog w) A (Builtin.SmallTypes.nextOf (.ref it)) Q E s:=by
 obtain⟨o,ho,hc,hd⟩:=id hit;obtain⟨ol,Mm,_,nl,hdl⟩:=hl;unfold Builtin.SmallTypes.nextOf;refine wpAny_bind (wpAny_callSpecial?_slot (name:="__next__") hit.typeIs F.slot_tuple_iterator_next (wpAny_call_entry F.slot_tuple_iterator_next hit.typeIs F.entry_tuple_iterator_next ?_ (F.args_tuple_iterator_next_1 _)));show wpAny _ _ (field (.ref it) 0 >>=_) _ _ s;refine wpAny_bind (wpAny_field ho hd (x:= .ref l) rfl ?_);show wpAny _ _ (if(Value.ref l==Value.none)=true then _ else _) _ _ s;rw [if_neg (show ¬((Value.ref l==Value.none)=true) from Bool.false_ne_true)]
 show wpAny _ _ (field (.ref it) 1 >>=_) _ _ s;refine wpAny_bind (wpAny_field ho hd (x:= .int i 0) rfl ?_);show wpAny _ _ (seqItems? (.ref l) >>=_) _ _ s;refine wpAny_bind (wpAny_seqItems Mm hdl ?_);simp only[Int.toNat_natCast,hx];refine wpAny_bind (wpAny_setField ho hd (by simp) (wpAny_pure ⟨x,rfl,wpAny_pure (hQ _ ⟨_,Heap.get?_update_self _ ho (Obj.isFreed_of_fields (Obj.data_mapFields hd _)),(Obj.cls_mapFields ..).trans hc,by rw[Obj.data_mapFields hd];simp [rawInt]⟩ (Heap.SameBut.update ..))⟩))
theorem km{it l:Addr}{i:Nat}{items:Array Value}{Q:Value->Shared->Prop}(hh:A.handled=none)(hit:s.heap.IsTupleIter it l i)(hl:s.heap.IsTuple l items)(hx:items[i]? =none)
 (hE:∀h' e,Heap.ExtBut it s.heap h'->(∃o,h'.get? e=some o/\o.cls= .type "StopIteration")->E (.ref e) {s with heap:=h'}):wpAny (model prog w) A (Builtin.SmallTypes.nextOf (.ref it)) Q E s:=by
 obtain⟨o,ho,hc,hd⟩:=id hit;obtain⟨ol,Mm,_,nl,hdl⟩:=hl;unfold Builtin.SmallTypes.nextOf;refine wpAny_bind (wpAny_callSpecial?_slot (name:="__next__") hit.typeIs F.slot_tuple_iterator_next (wpAny_call_entry F.slot_tuple_iterator_next hit.typeIs F.entry_tuple_iterator_next ?_ (F.args_tuple_iterator_next_1 _)));show wpAny _ _ (field (.ref it) 0 >>=_) _ _ s;refine wpAny_bind (wpAny_field ho hd (x:= .ref l) rfl ?_);show wpAny _ _ (if(Value.ref l==Value.none)=true then _ else _) _ _ s;rw [if_neg (show ¬((Value.ref l==Value.none)=true) from Bool.false_ne_true)]
 show wpAny _ _ (field (.ref it) 1 >>=_) _ _ s;refine wpAny_bind (wpAny_field ho hd (x:= .int i 0) rfl ?_);show wpAny _ _ (seqItems? (.ref l) >>=_) _ _ s;refine wpAny_bind (wpAny_seqItems Mm hdl ?_);simp only[Int.toNat_natCast,hx];refine wpAny_bind (wpAny_rule (wpAny_bind (wpAny_setField ho hd (by simp) ?_)))
 show wpAny _ _ (newExc (.type "StopIteration") [] >>=_) _ _ _;refine wpAny_bind ?_;simp only[newExc,newTuple];refine wpAny_bind (wpAny_newObj_type ?_ (by size_fits))
 refine wpAny_bind (m:=firstArgMember _ _) (wpAny_of_eq (a:=Value.none) (by first | rfl | (simp only[firstArgMember];rfl)) ?_);refine wpAny_newObj_type ?_ (by size_fits)
 simp only[raiseNew];refine wpAny_bind (wpAny_handled ?_)
 first | rw[show A.in1.handled=none from hh] | rw[hh]
 exact wpAny_bind (wpAny_pure (wpAny_throw (hE _ _ (((Heap.SameBut.update ..).extBut.push _).push _) ⟨_,Heap.get?_push_size _ rfl,rfl⟩)))
end
theorem EN{prog:Program}{w:World}{A:Around}(hh:A.handled=none)(it l:Addr)(xS:l≠it)(items:Array Value) :
 Draws prog w A it [it,l] items.size (fun i v=>items[i]? =some v) (fun i h=>h.IsTupleIter it l i/\h.IsTuple l items) where
 live:=fun _ _ st=>let⟨o,ho,_⟩:=st.1;⟨o,ho⟩
 frame:=fun _ _ _ st hk=>⟨st.1.at fun o e=>hk it (by simp) o e,Heap.IsTuple.at st.2 fun o e=>hk l (by simp) o e⟩
 item:=fun i s Q E hi st hQ=>nV st.1 st.2 (x:=items[i]) (by simp [hi]) fun h' UA RJ=>hQ _ h' s.toks (by simp [hi]) ⟨UA,st.2.extBut RJ.extBut xS⟩ RJ
 done:=fun s Q E st hE=>km hh st.1 st.2 (by simp) hE
theorem uU(l:Addr)(items:Array Value)(o:Obj)(n:Nat)(hc:o.cls= .type "tuple")(hd:o.data= .seq items n) :
 Meets (Builtin.«enumerate.__new__» ⟨[.type "enumerate", .ref l],[]⟩) (fun _ R s=>s.heap.get? l=some o/\
  R (.ok (.ret (.ref (s.heap.push {cls:= .type "tuple_iterator",data:= .fields #[.ref l, .int 0 0]}).objs.size)))
   {s with heap:=(s.heap.push {cls:= .type "tuple_iterator",data:= .fields #[.ref l, .int 0 0]}).push {cls:= .type "enumerate",data:= .fields #[.none, .bool false, .ref s.heap.objs.size,rawInt 0, .none, .none]}}):=
 .of_wp fun prog w A R s h=>by
   obtain⟨hp,g,d,tk,os⟩:=s;obtain⟨hl,h⟩:=h;have hsub:=sub_enumerate;have hL:Heap.IsTuple (Shared.heap ⟨hp,g,d,tk,os⟩) l items:=⟨_,hl,hc,n,hd⟩
   wp_walk using wpAny_loadPart' hl
   refine wpAny_stack_any fun st=>wpAny_pure ?_
   split
   .rename_i c _ _ _ _ _;cases(c==Value.type "enumerate") <;> (wp_walk using wpAny_loadPart' hl,wpAny_pyIter_tuple hL;exact⟨_,rfl,h⟩)
   .wp_walk using wpAny_loadPart' hl,wpAny_pyIter_tuple hL
    exact⟨_,rfl,h⟩
theorem Ct{prog:Program}{w:World}{A:Around}{E:Value->Shared->Prop}{s:Shared}{l:Addr}{items:Array Value}{Q:Value->Shared->Prop}(hL:s.heap.IsTuple l items)
 (h:∀h':Heap,IsEnum h' (s.heap.objs.size+1) s.heap.objs.size 0 .none->h'.IsTupleIter s.heap.objs.size l 0->(∀b o,s.heap.get? b=some o->h'.get? b=some o)->Q (.ref (s.heap.objs.size+1)) {s with heap:=h'}) :
 wpAny (model prog w) A (call (.type "enumerate") [.ref l]) Q E s:=by
 obtain⟨o,hl,hc,n,hd⟩:=hL;refine callType_new F.called_enumerate (by decide) (F.typeCall_enumerate_1 _) (F.newCall_enumerate_1 _) (fun obj=>F.args_object_init_2 obj _) F.entry_enumerate_new (uU l items o n hc hd) ⟨hl,?_⟩
 have hz:(s.heap.push {cls:= .type "tuple_iterator",data:= .fields #[.ref l, .int 0 0]}).objs.size=s.heap.objs.size+1:=Heap.size_push ..;show _/\_;rw [hz];have he:IsEnum ((s.heap.push {cls:= .type "tuple_iterator",data:= .fields #[.ref l, .int 0 0]}).push {cls:= .type "enumerate",data:= .fields #[.none, .bool false, .ref s.heap.objs.size,rawInt 0, .none, .none]}) (s.heap.objs.size+1) s.heap.objs.size 0 .none:=by
  have:=Heap.get?_push_size (s.heap.push {cls:= .type "tuple_iterator",data:= .fields #[.ref l, .int 0 0]}) (o:={cls:= .type "enumerate",data:= .fields #[.none, .bool false, .ref s.heap.objs.size,rawInt 0, .none, .none]}) rfl;rw[hz] at this;exact this
 exact⟨⟨_,he,rfl⟩,h _ he ⟨_,Heap.get?_push_of_some _ (Heap.get?_push_size _ rfl),rfl,rfl⟩ fun b o x=>Heap.get?_push_of_some _ (Heap.get?_push_of_some _ x)⟩
end PySem
namespace L2
open PySem PySem.Spec PyProof.Rows
def Tn(K:W.Frag)(a:Addr):It:=
 ⟨fun i H=>∃xs x,ud K H a xs/\xs[i]? =some x,fun i H v H'=>∃p x,H p=none/\v= .ref p/\(∀xs,ud K H a xs->xs[i]? =some x)/\H'=upd H p (.tup [.int i,x]),fun i H=>∃xs,ud K H a xs/\xs.length<=i⟩
theorem Ck{K:W.Frag}{k:Nat}(a e it:Addr)(Pk:e≠it):Turn P w K (.Tuple elts k pos) (Tn K a) [e,it] e (fun i h=>(∃old,IsEnum h e it ((i:Nat):Int) old)/\h.IsTupleIter it a i) where
 mem:=by simp
 obj:=fun i h st b hb=>by
  obtain⟨⟨old,he⟩,o,ho,c,d⟩:=st;rcases List.mem_cons.mp hb with rfl | hb
  .exact⟨_,he,fun v z=>by cases z⟩
  .have e:b=it:=by simpa using hb
   subst e;exact⟨o,ho,fun v z=>by rw[d] at z;cases z⟩
 keep:=fun i h h' st k=>by
  obtain⟨⟨old,he⟩,hi⟩:=st;exact⟨⟨old,k e (by simp) _ he⟩,hi.at fun o x=>k it (by simp) o x⟩
 item:=by
  intro X hP hw hK hc i pins s σ H E I hf st hg;subst hP hw hK;obtain⟨xs,x,hq,hx⟩:=hg;obtain⟨its,rv,p,hz⟩:=I.tuple hq;have p':s.heap.IsTuple a its.toArray:=p;obtain⟨u,hu,ru⟩:=rv.get hx;obtain⟨⟨old,he⟩,hit⟩:=st;obtain⟨f0,f1,f2,f3,f4,f5⟩:=hf e (by simp)
  obtain⟨g0,g1,g2,g3,g4,g5⟩:=hf it (by simp)
  have ha_it:a≠it:=fun z=>by
   obtain⟨o1,h1,c1,_⟩:=p';obtain⟨o2,h2,c2,_⟩:=hit;rw[z,h2] at h1;cases h1;rw[c2] at c1;exact absurd c1 (by decide)
  have ha_e:e ∉ [it,a]:=fun z=>by
   rcases List.mem_cons.mp z with q | q
   .exact Pk q
   .have q:e=a:=by simpa using q
    obtain⟨o1,h1,c1,_⟩:=p';rw[<-q,he] at h1;cases h1;exact absurd (show Value.type "enumerate"=Value.type "tuple" from c1) (by decide)
  refine wpAny_pyNext_enum_itemD (EN (A:=X.A.in1) (I.ok.hd hc) it a ha_it its.toArray) he ⟨hit,p'⟩ (by have:=(List.getElem?_eq_some_iff.mp hu).1;simpa using this) Pk ha_e fun u2 jT tk W5 JA Q3 Jg qa yN=>⟨_,rfl,?_⟩
  obtain rfl:u2=u:=by
   have h1:its[i]? =some u2:=by simpa using W5
   rw[hu] at h1;cases h1;rfl
  obtain⟨C6,_⟩:=Q3;refine wpAny_letOwnedTupleGo_enum JA fun gR Jn di=>?_
  replace di:Heap.SameBut e jT gR:=di
  have hel:e < s.heap.objs.size:=Heap.lt_size he;have Bt:gR.get? s.heap.objs.size=some {cls:= .type "tuple",data:= .seq #[.int i tk,u2]}:=(di.2 _ (Nat.ne_of_gt hel)).trans Jg;have kk:∀b o,b≠e->b≠it->s.heap.get? b=some o->gR.get? b=some o:=fun b o h1 h2 q=>(di.2 b h1).trans (yN b o h1 h2 q)
  have hn:H s.heap.objs.size=none:=I.fresh;have sm:bg H (upd H s.heap.objs.size (.tup [.int i,x])):=aP hn;have nit:∀b o,H b=some o->b≠e/\b≠it:=fun b o q=>⟨fun z=>(by rw[z,f0] at q;cases q),fun z=>(by rw[z,g0] at q;cases q)⟩
  have hok:pN X.prog X.w (upd H s.heap.objs.size (.tup [.int i,x])) gR:=fun b ob q=>by
   by_cases hb:b=s.heap.objs.size
   .subst hb;rw[aV] at q;cases q;exact⟨by show 2<=sizeLine;decide,[.int i tk,u2], .cons ⟨_,rfl⟩ (.cons ru .nil),⟨_,Bt,rfl,_,rfl⟩⟩
   .rw [br hb] at q;refine(I.hok b ob q).zx (fun c v hc z=>?_) (fun c z=>sm c _ z) fun c ys z=>sm c _ z
    rcases hc with rfl | hc
    .exact kk c v (nit c _ q).1 (nit c _ q).2 z
    .exact kk c v (nit c _ hc).1 (nit c _ hc).2 z
  have nch:∀b,b ∉ [e,it]->b≠e/\b≠it:=fun b hb=>⟨fun z=>hb (by simp [z]),fun z=>hb (by simp [z])⟩
  have I2:Inv X pins σ (upd H s.heap.objs.size (.tup [.int i,x])) {s with heap:=gR,toks:=tk+1}:=by
   refine I.step (g':=s.gens) (d':=s.drawn) (ch:=[e,it]) (fun b hb=>?_) (fun b o _ _ hb q _=>kk b o (nch b hb).1 (nch b hb).2 q) (fun b o _ _ hb q _=>⟨o.slots,kk b o (nch b hb).1 (nch b hb).2 q⟩)
    (fun b o hb q n=>by rw[br (Nat.ne_of_lt (Heap.lt_size q))];exact n) (fun b o hb q=>⟨o,kk b o (nch b hb).1 (nch b hb).2 q⟩) (fun b ys z=>sm b _ z) (fun b o u z=>sm b _ z) (fun b ps z=>⟨#[],by rw[sm b _ z];simp⟩) (fun m hm=>?_) hok I.bare
   .rcases List.mem_cons.mp hb with rfl | hb
    .exact⟨f3,f1,f4,f5⟩
    .have z:b=it:=by simpa using hb
     subst z;exact⟨g3,g1,g4,g5⟩
   .obtain⟨o,es,ep,ho,r⟩:=hm;exact⟨o,es,ep,kk _ o (Ne.symm f1) (Ne.symm g1) ho,r⟩
  refine⟨.ref s.heap.objs.size,_,I2,rfl,⟨s.heap.objs.size,x,hn,rfl,fun ys hy=>(by rw[I.sG hy hq];exact hx),rfl⟩,⟨⟨_,by simpa using Jn⟩,C6.at fun o q=>(di.2 it (Ne.symm Pk)).trans q⟩,fun b hb=>?_⟩
  rcases List.mem_cons.mp hb with rfl | hb
  .rw [br (Nat.ne_of_lt hel)];exact f0
  .have z:b=it:=by simpa using hb
   subst z;obtain⟨o,ho,_⟩:=hit;rw[br (Nat.ne_of_lt (Heap.lt_size ho))];exact g0
 done:=by
  intro X hP hw hK hc i pins s σ H E I hf st hg;subst hP hw hK;obtain⟨xs,hq,hx⟩:=hg;obtain⟨its,rv,p,hz⟩:=I.tuple hq;have p':s.heap.IsTuple a its.toArray:=p;obtain⟨⟨old,he⟩,hit⟩:=st;obtain⟨g0,g1,g2,g3,g4,g5⟩:=hf it (by simp)
  have hl:=rv.length;have hT:s.TypeIs (.ref e) "enumerate":=⟨_,he,rfl⟩;unfold pyNext;refine wpAny_bind (wpAny_attempt (wpAny_callSpecial?_slot (name:="__next__") hT F.slot_enumerate_next (wpAny_call_entry F.slot_enumerate_next hT F.entry_enumerate_next ?_ (F.args_enumerate_next_1 _))));show wpAny _ _ (field (.ref e) 2 >>=_) _ _ _;refine wpAny_bind (wpAny_field he rfl (x:= .ref it) rfl ?_);refine wpAny_bind (km (A:=X.A.in1) (I.ok.hd hc) hit p' (by simp;omega) fun h' x UE OK=>?_)
  obtain⟨o,ho,hcl⟩:=OK;refine wpAny_bind (wpAny_isInstance (T:="StopIteration") (b:=true) ⟨o,ho,hcl⟩ isSubtype_stop ?_);exact wpAny_pure ⟨rfl,I.turned (t':=s.toks) (fun b o hb q=>UE b o hb q) g0 g1 g3 g4 g5⟩
 self:=fun A i s Q E st h=>let⟨⟨_,he⟩,_⟩:=st;wpAny_pyIter_enum he h
section
variable {X:Cx}
def yR(f:FD):aw->R (List D):=fun δ=>(f δ).bind fun d=>match d with | .tup ds=> .ok (cH ds) | _=> .no
theorem CD{elts:List Expr}{k:Nat}{tP:Pos}{p pos:Pos}(h:QD X a f)(hg:Gl X "enumerate")(hm:X.mg "enumerate"=none)(hs:starEach [a] X.env=[(false,eval a X.env)]:=by rfl):Bu X (.Tuple elts k tP) (.Call (.Name "enumerate" p) [a] [] pos) (yR f):=by
 refine⟨?_⟩;intro pins s σ H RR I ⟨Z,B,δ,ds,E,hf,q⟩;obtain⟨d,h1,h2⟩:=R.ak hf;have hA:=dF h.1 gI hs pos pins s σ H (fun vs H1=>bg H H1/\∃v,vs=[v]/\Rep X.K B H1 d v) I ⟨Z,B,δ,d,E,h1,fun v H1 s1 r1=>⟨s1,v,rfl,r1⟩⟩
 refine Call_ (nA I hg hm boot_enumerate (PyProof.Rows.callWith_type1 (dR hA fun us s1 ⟨vs,H1,I1,r1,ss,v,ev,rr⟩=>?_) hs rfl))
 subst ev;obtain⟨u,rfl,ru⟩:=vals1 r1;cases d with
 | tup es=>
   cases h2;obtain⟨b,xs,rfl,l,rs⟩:=Rep.tup.mp rr;cases ru;obtain⟨its,rv,pt,hz⟩:=I1.tuple l.sq;refine Ct (items:=its.toArray) pt fun h' he hit kk=>wpAny_pyIter_enum he ?_
   have I2:Inv X pins σ H1 {s1 with heap:=h'}:=I1.kept (t':=s1.toks) kk
   refine⟨s1.heap.objs.size+1,[s1.heap.objs.size+1,s1.heap.objs.size],_,_,H1,rfl,I2,Ck b (s1.heap.objs.size+1) s1.heap.objs.size (Nat.succ_ne_self _),⟨⟨_,he⟩,hit⟩,fun c hc=>?_,q _ H1 ss fun B' H' pr=>?_⟩
   .have hle:s1.heap.objs.size<=c:=by
     rcases List.mem_cons.mp hc with z | hc
     .rw [z];exact Nat.le_succ _
     .have z:c=s1.heap.objs.size:=by simpa using hc
      rw[z];exact Nat.le_refl _
    exact I1.wJ hle (I1.hok.fresh hle)
   .have l':yJ X.K B' H' b xs:=l.elim (fun z=> .inl ⟨(pr.rd z.2 z.1).2,(pr.rd z.2 z.1).1⟩) .inr
    have rs':=rs.bu pr;refine⟨fun i d hd=>?_,⟨xs,l'.sq,by rw[<-rs.length];unfold cH;simp⟩⟩
    unfold cH at hd;rw[List.getElem?_map,List.getElem?_zipIdx] at hd;cases e:es[i]? with
    | none=>rw [e] at hd;cases hd
    | some d0=>
      rw[e] at hd;have hd:D.tup [.int ((0+i:Nat):Int),d0]=d:=Option.some.inj hd;rw[Nat.zero_add] at hd;obtain⟨x,hx,rx⟩:=rs'.get e;refine⟨⟨xs,x,l'.sq,hx⟩,fun v n_ y Jc=>?_⟩
      obtain⟨p,y,hp,rfl,hy,rfl⟩:=y;refine⟨aP hp,?_⟩;subst hd;have zM:=hy xs l'.sq;rw[hx] at zM;cases zM;refine Rep.tup.mpr ⟨p,_,rfl, .inl ⟨fun ha=>?_, .inl aV⟩,aG.cons (Rep.int.mpr rfl) (aG.cons (rx.same (aP hp)) aG.nil)⟩
      obtain⟨o,ho⟩:=Jc p ha;rw[hp] at ho;cases ho
 | _=>cases h2
end
end L2
end
section
namespace L2
open PySem PySem.Spec PyProof.Rows
section
variable {X:Cx}
abbrev Vl:D->D->R D:=Ak (fun _ j=>decide (0 < j/\j.natAbs.log2 < 9000)) fun i j=>i / j
theorem AG:∀{ns:List Int} {us:List Value},Vals (ns.map V.int) us->IntsAre us ns
 | [],_, .nil=> .nil
 | n ::ns,_, .cons r t=>by obtain⟨tk,rfl⟩:=r;exact .cons _ _ (AG t)
theorem IP:∀{ns:List Int} {us:List Value},IntsAre us ns->Vals (ns.map V.int) us:=fun h=>by
 induction h with
 | nil=>exact .nil
 | cons _ _ _ ih=>exact .cons ⟨_,rfl⟩ ih
theorem Bn{K:W.Frag}{B:List Addr}{ds:List D}{xs:List V}(r:aG K B H ds xs):∀n:Nat,aG K B H (List.replicate n ds).flatten (List.replicate n xs).flatten
 | 0=>aG.nil
 | n+1=>by rw[List.replicate_succ,List.replicate_succ,List.flatten_cons,List.flatten_cons];exact r.append (Bn r n)
def Hr(f:aw->R (List D))(g:FD):aw->R (List D):=fun δ=>(f δ).bind fun ds=>(g δ).bind fun d=>match d with
 | .int k=>R.bX (decide (0<=k/\k < 1000000/\ds.length*k.toNat<=sizeLine)) (.ok (List.replicate k.toNat ds).flatten)
 | _=> .no
theorem Dp{f:aw->R (List D)}(ha:QN X a f)(hb:QD X b g):QN X (.BinOp a .Mult b pos) (Hr f g):=by
 refine⟨(Dh ND ha.1 hb.1).imp fun σ H Q ⟨Z,B,δ,es,E,hf,q⟩=>?_⟩
 obtain⟨ds,h1,h2⟩:=R.ak hf;obtain⟨d,h3,h4⟩:=R.ak h2;split at h4
 .rename_i k;obtain⟨h5,h6⟩:=R.bp h4;cases h6;obtain⟨k0,k1,k2⟩:=of_decide_eq_true h5;refine⟨Z,B,δ,ds,E,h1,fun a xs H1 s1 n1 e1 r1=>⟨Z,B,δ, .int k,E.same s1,h3,fun v H2 s2 r2=>⟨a,k,xs,rfl,Rep.int.mp r2,s2 a _ e1,by omega,by omega,by rw[<-r1.length];exact k2,fun p hp=>?_⟩⟩⟩
  refine q p _ _ (s1.trans (s2.trans (aP hp))) ((s1.trans s2).free hp) aV ?_;refine(Bn r1 k.toNat).bu fun b o e nb=>⟨(s2.trans (aP hp)) b o e,fun hm=>?_⟩
  rcases List.mem_cons.mp hm with z | z
  .rw [z] at e;rw [s2 p _ e] at hp;cases hp
  .exact nb (List.mem_cons_of_mem _ z)
 .cases h4
def uq(ns:List Int):List Int:=ns.mergeSort fun a b=>decide (a<=b)
theorem AK{a ns:List Int}(p:a.Perm ns)(o:a.Pairwise (·<=·)):a=uq ns:=by
 refine PySem.W.ksm_same (p.trans (List.mergeSort_perm ns _).symm) o ?_;have:=List.pairwise_mergeSort (le:=fun a b:Int=>decide (a<=b)) (fun a b c h1 h2=>by simp at*;omega) (fun a b=>by simp;omega) ns
 exact this.imp fun h=>by simpa using h
def RH:List D->R D
 | [.lst ds]=>(match ints? ds with | some ns=>R.bX (decide (ns.length < 64)) (.ok (.lst ((uq ns).map .int))) | none=> .no)
 | _=> .no
theorem getD_in{l:List Int}{i:Nat}(h:i < l.length):l.getD i 0∈l:=by
 have e:l.getD i 0=l[i]:=by simp [h]
 rw[e];exact List.getElem_mem h
theorem fold_min:∀(ns:List Int) (n:Int),ns.foldl min n∈n ::ns/\∀a∈n ::ns,ns.foldl min n<=a
 | [],n=>⟨by simp,fun a ha=>by simp at ha;subst ha;exact Int.le_refl _⟩
 | x ::ns,n=>by
   obtain⟨h1,h2⟩:=fold_min ns (min n x);rw[List.foldl_cons];refine⟨?_,fun a ha=>?_⟩
   .rcases List.mem_cons.mp h1 with z | z
    .rw [z];by_cases hc:n<=x
     .rw [Int.min_eq_left hc];simp
     .rw [Int.min_eq_right (by omega)];simp
    .exact List.mem_cons_of_mem _ (List.mem_cons_of_mem _ z)
   .have hm:=h2 _ List.mem_cons_self;rcases List.mem_cons.mp ha with z | z
    .subst z;omega
    .rcases List.mem_cons.mp z with z | z
     .subst z;omega
     .exact h2 a (List.mem_cons_of_mem _ z)
def t7:List D->R D
 | [.lst ds]=>(match ints? ds with | some (n ::ns)=> .ok (.int (ns.foldl min n)) | _=> .no)
 | ds=>MC ds
def Va:List D->R D
 | [.lst ds]=>(match ints? ds with | some (n ::ns)=> .ok (.int (ns.foldl max n)) | _=> .no)
 | ds=>So ds
theorem Ca(hc:X.calm=true):gm X (.builtin "min") t7:=by
 intro pins s σ H B ds d xs us I hb rx rs hg;unfold t7 at hg;split at hg
 .split at hg
  .rename_i es n ns e;cases hg;obtain⟨x,rfl,r⟩:=rs.one;obtain⟨a,ys,rfl,l,r⟩:=Rep.lst.mp r;obtain⟨u,rfl,ru⟩:=vals1 rx;cases ru;obtain⟨its,k,rv,e1,hz⟩:=I.LM l;rw[j5 r e] at rv;obtain⟨ps,rfl,hps⟩:=p8 rv;have hl:s.heap.IsList a (intItems ps.toArray):=⟨_,e1,rfl,k,by simp [intItems]⟩
   have hlp:ps.length=ns.length+1:=by have:=congrArg List.length hps;simpa using this
   refine min_intList (I.ok.hd hc) hl (by simp;omega) fun v h' tk hv hk=>?_
   obtain⟨t,rfl⟩:=intItems_at hv;obtain⟨b1,b2⟩:=argBest_lt (numAt ps.toArray) (ps.toArray.size - 1);refine⟨.int _,H,I.kept hk,⟨t,rfl⟩,bg.refl H,Rep.int.mpr ?_⟩;obtain⟨m1,m2⟩:=fold_min ns n;have hge:∀j,j < ps.length->numAt ps.toArray j=(n ::ns).getD j 0:=fun j hj=>by rw[numAt_eq,<-hps]
   have hin:numAt ps.toArray (argBest (fun i j=>decide (numAt ps.toArray i < numAt ps.toArray j)) (ps.toArray.size - 1))∈n ::ns:=by
    rw[hge _ (by simp at b1 ⊢;omega)];exact getD_in (by simp at b1 ⊢;omega)
   have hle:=m2 _ hin;obtain⟨j,hj,ej⟩:=List.getElem_of_mem m1;have RQ:j < ns.length+1:=by simpa using hj
   have h3:=b2 j (by simp;omega)
   rw[hge j (by omega)] at h3
   have h4:(n ::ns).getD j 0=ns.foldl min n:=by rw[<-ej,List.getD_eq_getElem?_getD,List.getElem?_eq_getElem hj];rfl
   rw[h4] at h3;congr 1;omega
  .cases hg
 .exact P9 hc pins s σ H B _ d xs us I hb rx rs hg
end
end L2
namespace L3
open PySem PySem.Spec PyProof.Rows L2
def Bc(S:aH):V3->Option (List D)
 | .d (.lst ds)=>some ds
 | .loc k=>dh S k
 | _=>none
theorem Io{K:W.Frag}{ρ:P3}{S:aH}{v:V3}{x:V}{ds:List D}(w:SW K cl ρ H S)(h:Bc S v=some ds)(r:bh K ρ H v x):∃a xs,x= .ref a/\wj K [] H a xs/\aG K ρ.b H ds xs:=by
 unfold Bc at h;split at h
 .cases h;unfold bh Rep at r;obtain⟨a,xs,e,l,rs⟩:=r;exact⟨a,xs,e,l.bu (fun b o e _=>⟨e,by simp⟩),rs⟩
 .unfold bh at r;obtain⟨a,a1,rfl⟩:=r;obtain⟨xs,e,rs⟩:=w.ob _ a _ a1 (dP h);exact⟨a,xs,rfl, .inl ⟨by simp, .inl e⟩,rs⟩
 .cases h
section
variable {X:Cx} {cl:Nat->Addr}
def Nm(fa fb:FX):FX:=fun δ S=>(fa δ S).bind fun a S1=>(fb δ S1).bind fun b S2=>match Bc S2 a,Bc S2 b with
 | some ds,some es=>R3.bX (decide (ds.length+es.length<=sizeLine)) (.ok (.loc S2.length) (S2++[.lst (ds++es)]))
 | _,_=> .no
theorem Nf(ha:PX X cl a fa)(hb:PX X cl b fb):PX X cl (.BinOp a .Add b pos) (Nm fa fb):=⟨(Dh Dl ha.1 hb.1).imp fun σ H Q ⟨ρ,S,δ,v,S',E,hf,q⟩=>by
 obtain⟨a,S1,h1,h2⟩:=R3.ak hf;obtain⟨b,S2,h3,h4⟩:=R3.ak h2;split at h4
 .rename_i ds es e1 eW;obtain⟨hl,h5⟩:=R3.bp h4;cases h5;refine⟨ρ,S,δ,a,S1,E,h1,fun u1 bY H1 p1 w1 r1=>⟨bY,S1,δ,b,S2,E.to p1 w1,h3,fun u2 n5 H2 p2 w2 r2=>?_⟩⟩
  obtain⟨la,xs,rfl,l1,Mb⟩:=Io w2 e1 (r1.pre p2);obtain⟨lb,ys,rfl,l2,Mf⟩:=Io w2 eW r2;refine⟨[],la,lb,xs,ys,rfl,rfl,l1,l2,by rw[<-Mb.length,<-Mf.length];exact of_decide_eq_true hl,fun p hp=>?_⟩
  obtain⟨w3,p3⟩:=w2.new (a:=p) (o:= .lst (ds++es)) (aP (o:= .lst (xs++ys)) hp) hp ⟨xs++ys,aV,(Mb.append Mf).bu (fun b o e nb=>⟨by rw[br (cz e hp)];exact e,fun hb=>by
   rcases P3.mem_push hb with z | z
   .exact nb z
   .exact cz e hp z⟩)⟩
  exact q _ _ _ (p1.trans (p2.trans p3)) w3 (by unfold bh;exact⟨p,by show(n5.r++[p])[_]? =_;rw [<-w2.len,List.getElem?_append_right (Nat.le_refl _),Nat.sub_self];rfl,rfl⟩)
 .cases h4⟩
theorem Pt{fa fb:FX}{δ:DE}{S:aH}{Q:V3->aH->Prop}(h:W3 (fa δ S) fun a S1=>W3 (fb δ S1) fun b S2=>∃ds es,Bc S2 a=some ds/\Bc S2 b=some es/\ds.length+es.length<=sizeLine/\Q (.loc S2.length) (S2++[.lst (ds++es)])):W3 (Nm fa fb δ S) Q:=
 W3.bind (h.mono fun _ _ h=>W3.bind (h.mono fun _ _ ⟨ds,es,e1,eW,hl,q⟩=>by
  simp only[e1,eW];exact W3.wh (decide_eq_true hl) (W3.ok q)))
def WD(i:Nat):FZ:=fun δ S=>match mP δ i with
 | none=> .no
 | some k=>(match dh S k with | some _=> .ok (.nx δ) (S.set k (.lst [])) | none=> .no)
end
end L3
end
section
namespace L3
open PySem PySem.Spec PyProof.Rows L2
def oI(S:aH)(c k:Nat):Option (List (Str × V3)):=match S[k]? with | some (.ins c' fs)=>(if c'=c then some fs else none) | _=>none
theorem m7{S:aH}{c k:Nat}{fs:List (Str × V3)}(h:oI S c k=some fs):S[k]? =some (.ins c fs):=by
 unfold oI at h;split at h
 .rename_i c' Pj e;split at h
  .rename_i hc;cases h;rw [e,hc]
  .cases h
 .cases h
theorem DO{K:W.Frag}{v:V3}:∀{fs:List (Str × V3)} {ys:List (Str × V)},ys.map (·.1)=fs.map (·.1)->aL K ρ H (fs.map (·.2)) (ys.map (·.2))->fs.lookup f=some v->∃x,ys.lookup f=some x/\bh K ρ H v x
 | [],ys,_,_,h=>by simp at h
 | (g,w) ::fs,[],e,_,_=>by simp at e
 | (g,w) ::fs,(g',y) ::ys,e,r,h=>by
   obtain⟨e1,eW⟩:=List.cons.inj e;have e1:g'=g:=e1;subst e1;obtain⟨x,xs,ex,r1,r2⟩:=r.cx;cases ex;rw[List.lookup_cons] at h ⊢;cases hq:f==g' with
   | true=>rw [hq] at h;cases h;exact⟨y,rfl,r1⟩
   | false=>rw [hq] at h;exact DO eW r2 h
theorem zN:∀{fs:List (Str × V3)} {ys:List (Str × V)},ys.map (·.1)=fs.map (·.1)->fs.lookup f=none->ys.lookup f=none
 | [],[],_,_=>rfl
 | [],_ ::_,e,_=>by simp at e
 | _ ::_,[],e,_=>by simp at e
 | (g,w) ::fs,(g',y) ::ys,e,h=>by
   obtain⟨e1,eW⟩:=List.cons.inj e;have e1:g'=g:=e1;subst e1;rw[List.lookup_cons] at h ⊢;cases hq:f==g' with
   | true=>rw [hq] at h;cases h
   | false=>rw [hq] at h;exact zN eW h
def Aw(f:Str)(v:V3):List (Str × V3)->List (Str × V3)
 | []=>[(f,v)]
 | (g,x) ::r=>if g=f then(g,v) ::r else(g,x) ::Aw f v r
theorem Es{K:W.Frag}{f:Str}{v:V3}{u:V}(rv:bh K ρ H v u):∀{fs:List (Str × V3)} {ys:List (Str × V)},ys.map (·.1)=fs.map (·.1)->aL K ρ H (fs.map (·.2)) (ys.map (·.2))->
 (lQ f u ys).map (·.1)=(Aw f v fs).map (·.1)/\aL K ρ H ((Aw f v fs).map (·.2)) ((lQ f u ys).map (·.2))
 | [],[],_,_=>⟨rfl,aL.cons rv aL.nil⟩
 | [],_ ::_,e,_=>by simp at e
 | _ ::_,[],e,_=>by simp at e
 | (g,w) ::fs,(g',y) ::ys,e,r=>by
   obtain⟨e1,eW⟩:=List.cons.inj e;have e1:g'=g:=e1;subst e1;obtain⟨x,xs,ex,r1,r2⟩:=r.cx;cases ex;unfold Aw lQ;by_cases hg:g'=f
   .rw [if_pos hg,if_pos hg];exact⟨by rw[List.map_cons,List.map_cons,eW],aL.cons rv r2⟩
   .rw [if_neg hg,if_neg hg];obtain⟨h1,h2⟩:=Es rv eW r2;exact⟨by rw[List.map_cons,List.map_cons,h1],aL.cons r1 h2⟩
section
variable {X:Cx} {cl:Nat->Addr}
def vq(c:Nat)(f:Str)(g:FX):FX:=fun δ S=>(g δ S).bind fun v S1=>match v with
 | .loc k=>(match oI S1 c k with | some fs=>(match fs.lookup f with | some v=> .ok v S1 | none=> .no) | none=> .no)
 | _=> .no
theorem m8{c:Nat}{pos:Pos}(hC:zJ X.K (cl c))(hn:dn X.K (cl c) f)(he:PX X cl e g)(hb:attributeBase e f X.env (eval e X.env)=eval e X.env:=by rfl):PX X cl (.Attribute e f pos) (vq c f g):=⟨(NY he.1 hb).imp fun σ H Q ⟨ρ,S,δ,v,S',E,hf,q⟩=>by
 obtain⟨o,S1,h1,h2⟩:=R3.ak hf;split at h2
 .rename_i k;split at h2
  .rename_i fs e1;split at h2
   .rename_i w eW;cases h2;refine⟨ρ,S,δ, .loc k,_,E,h1,fun u bY H1 p1 w1 r1=>?_⟩
    unfold bh at r1;obtain⟨a,a1,rfl⟩:=r1;obtain⟨dx,ys,ey,ek,rs⟩:=w1.ob k a _ a1 (m7 e1);obtain⟨x,hx,rx⟩:=DO ek rs eW;exact⟨a,cl c,dx,ys,x,rfl,ey,hC,hn,hx,q x bY H1 p1 w1 rx⟩
   .cases h2
  .cases h2
 .cases h2⟩
theorem w_fld{c k:Nat}{g:FX}{δ:DE}{S:aH}{Q:V3->aH->Prop}(h:W3 (g δ S) fun v S1=>∃fs w,v= .loc k/\S1[k]? =some (.ins c fs)/\fs.lookup f=some w/\Q w S1):W3 (vq c f g δ S) Q:=
 W3.bind (h.mono fun v S1 ⟨fs,w,e1,eW,e3,q⟩=>by
  subst e1;have e4:oI S1 c k=some fs:=by unfold oI;simp only[eW,if_true]
  simp only[e4,e3];exact W3.ok q)
def ox(P:Program)(w:World)(K:W.Frag)(mg:Str->Option Value)(base:Heap)(cl:Nat->Addr)(k c:Nat)(m:Str)(n:Nat)(g:List V3->aH->R3 V3):Prop:=
 ∃(f:Addr) (fd:FuncData) (ps:List Str),zJ K (cl c)/\Meth K (cl c) m f/\jI P w K mg base xn k f fd ps (F8 K cl (n+1) g)/\Binds K fd ps []
def yc(c:Nat)(m:Str)(g:List V3->aH->R3 V3)(fo:FX)(fs:FA):FX:=fun δ S=>(fo δ S).bind fun o S1=>match o with
 | .loc k=>(match oI S1 c k with | some ys=>(match ys.lookup m with | none=>(fs δ S1).bind fun vs S2=>g (.loc k ::vs) S2 | some _=> .no) | none=> .no)
 | _=> .no
theorem vb{g:List V3->aH->R3 V3}{k j n c:Nat}{m:Str}{o e:Expr}{es:List Expr}{fo:FX}{fs:FA}{apos pos:Pos}{pl:Sem Bool}(M:ox X.prog X.w X.K X.mg X.base cl k c m n g)(hr:eX j X.A)(Ji:k<=j)(ho:PX X cl o fo)(ha:IQ X cl (e ::es) fs)(hn:∀δ S ds S',fs δ S= .ok ds S'->ds.length=n)
 (Jj:starEach (e ::es) X.env=(false,eval e X.env) ::starEach es X.env:=by rfl) (lT:(backTo pos (starEach es X.env)).any (·.1)=false:=by rfl)
 (ht:eval (.Call (.Attribute o m apos) (e ::es) [] pos) X.env=(do
   let ov <-eval o X.env
   standAt apos.atName
   let(f,first) <-holding [ov] (getMethod ov m pl)
   callWith pos f first (backTo pos (starEach (e ::es) X.env)) (backToKw pos (keywordEach [] X.env))):=by rfl) :
 PX X cl (.Call (.Attribute o m apos) (e ::es) [] pos) (yc c m g fo fs):=by
 obtain⟨f,fd,ps,hC,hm,F,hb⟩:=M;refine⟨(Lm ho.1 hC hm F (hr.mono Ji) hb .nil A4 ha.1 Jj lT ht).imp fun σ H Q ⟨ρ,S,δ,v,S',E,hf,q⟩=>?_⟩
 obtain⟨ov,S1,h1,h2⟩:=R3.ak hf;split at h2
 .rename_i kk;split at h2
  .rename_i ys e1;split at h2
   .rename_i eW;obtain⟨vs,S2,h3,h4⟩:=R3.ak h2;refine⟨ρ,S,δ, .loc kk,S1,E,h1,fun u bY H1 p1 w1 r1=>?_⟩
    have r6:=r1;unfold bh at r1;obtain⟨a,a1,rfl⟩:=r1;obtain⟨dx,zs,ey,ek,rs⟩:=w1.ob kk a _ a1 (m7 e1);refine⟨a,dx,zs,rfl,ey,zN ek eW,bY,S1,δ,vs,S2,E.to p1 w1,h3,fun us n5 H2 p2 w2 r2=>?_⟩
    show F8 X.K cl (n+1) g (V.ref a ::(us++[])) H2 Q E0;rw[List.append_nil];exact⟨by rw[List.length_cons,<-r2.length,hn δ S1 vs S2 h3],n5,S2, .loc kk ::vs,v,S',w2,aL.cons (r6.pre p2) r2,h4,fun z zH H3 p3 w3 r3=>q z zH H3 (p1.trans (p2.trans p3)) w3 r3⟩
   .cases h2
  .cases h2
 .cases h2
def Ad(P:Program)(w:World)(K:W.Frag)(mg:Str->Option Value)(base:Heap)(cl:Nat->Addr)(k c:Nat)(x:Str)(n:Nat)(g:List V3->aH->R3 V3):Prop:=
 ∃(f:Addr) (fd:FuncData) (ps:List Str),Mk K (cl c) f/\jI P w K mg base xn k f fd ps (F8 K cl (n+1) g)/\mg x=some (.ref (cl c))/\Binds K fd ps []
def DZ(c:Nat)(g:List V3->aH->R3 V3)(fs:FA):FX:=fun δ S=>(fs δ S).bind fun vs S1=>(g (.loc S1.length ::vs) (S1++[.ins c []])).bind fun v S2=>match v with
 | .d .cK=> .ok (.loc S1.length) S2
 | _=> .no
theorem Ej{g:List V3->aH->R3 V3}{k j n c:Nat}{x:Str}{p pos:Pos}{e:Expr}{es:List Expr}{fs:FA}(M:Ad X.prog X.w X.K X.mg X.base cl k c x n g)(hr:eX j X.A)(Ji:k+1<=j)(hg:Gl X x)(ha:IQ X cl (e ::es) fs)(hn:∀δ S ds S',fs δ S= .ok ds S'->ds.length=n)
 (qP:(x==("__debug__":Str))=false:=by decide) (he:starEach (e ::es) X.env=(false,eval e X.env) ::starEach es X.env:=by rfl) (lT:(backTo pos (starEach es X.env)).any (·.1)=false:=by rfl) :
 PX X cl (.Call (.Name x p) (e ::es) [] pos) (DZ c g fs):=by
 obtain⟨f,fd,ps,M,F,hm,hb⟩:=M;refine⟨(Kb M F (hr.mono Ji) hg hm hb .nil A4 ha.1 qP he lT).imp fun σ H Q ⟨ρ,S,δ,v,S',E,hf,q⟩=>?_⟩
 obtain⟨vs,S1,h1,h2⟩:=R3.ak hf;obtain⟨v0,S2,h3,h4⟩:=R3.ak h2;split at h4
 .cases h4;refine⟨ρ,S,δ,vs,S1,E,h1,fun us bY H1 p1 w1 r1 xa dx hx X7 xS=>?_⟩
  have Ri:upd H1 dx (.own xa) xa=none:=by rw[br (fun z=>xS z.symm)];exact hx
  have sm:bg H1 (upd (upd H1 dx (.own xa)) xa (.ins (cl c) dx [])):=(aP X7).trans (aP Ri);obtain⟨w2,p2⟩:=w1.new (a:=xa) (o:= .ins c []) sm hx ⟨dx,[],aV,rfl,aL.nil⟩;show F8 X.K cl (n+1) g (V.ref xa ::(us++[])) _ _ E0;rw[List.append_nil];have rl:bh X.K (bY.push xa) (upd (upd H1 dx (.own xa)) xa (.ins (cl c) dx [])) (.loc S1.length) (.ref xa):=by
   unfold bh;exact⟨xa,by show(bY.r++[xa])[_]? =_;rw [<-w1.len,List.getElem?_append_right (Nat.le_refl _),Nat.sub_self];rfl,rfl⟩
  exact⟨by rw[List.length_cons,<-r1.length,hn δ S vs S1 h1],_,_, .loc S1.length ::vs, .d .cK,_,w2,aL.cons rl (r1.pre p2),h3,fun z zH H3 p3 w3 r3=>⟨by unfold bh Rep at r3;exact r3,q _ zH H3 (p1.trans (p2.trans p3)) w3 (rl.pre p3)⟩⟩
 .cases h4
def yY(c:Nat)(f:Str)(fo fe:FX):FZ:=fun δ S=>(fe δ S).bind fun v S1=>(fo δ S1).bind fun o S2=>match o with
 | .loc k=>(match oI S2 c k with | some fs=>R3.bX (decide (fs.length < 1000)) (.ok (.nx δ) (S2.set k (.ins c (Aw f v fs)))) | none=> .no)
 | _=> .no
theorem qz{c:Nat}{pos pos':Pos}(hC:zJ X.K (cl c))(hn:dn X.K (cl c) f)(ho:PX X cl o fo)(he:PX X cl value fe)(hs:swapsWith value (some (.Attribute o f pos')) pos.line X.env=pure false:=by rfl) :
 PZ X cl (.Assign [.Attribute o f pos'] value pos) (yY c f fo fe):=⟨(MG ho.1 he.1 hs).imp fun D σ H ⟨ρ,S,δ,ou,S',E,hf,q⟩=>by
 obtain⟨v,S1,h1,h2⟩:=R3.ak hf;obtain⟨vo,S2,h3,h4⟩:=R3.ak h2;split at h4
 .rename_i k;split at h4
  .rename_i fs e1;obtain⟨hl,h5⟩:=R3.bp h4;cases h5;refine⟨ρ,S,δ,v,S1,E,h1,fun u bY H1 p1 w1 r1=>⟨bY,S1,δ, .loc k,S2,E.to p1 w1,h3,fun u2 n5 H2 p2 w2 r2=>?_⟩⟩
   unfold bh at r2;obtain⟨a,a1,rfl⟩:=r2;obtain⟨dx,ys,ey,ek,rs⟩:=w2.ob k a _ a1 (m7 e1);have hlen:ys.length=fs.length:=by have:=congrArg List.length ek;simpa using this
   obtain⟨k1,k2⟩:=Es (f:=f) (r1.pre p2) ek rs;obtain⟨w3,p3⟩:=w2.put (o:= .ins c (Aw f v fs)) (u:= .ins (cl c) dx (lQ f u ys)) a1 (w2.fz k a a1 (by rw[m7 e1];intro h;cases h)) ⟨dx,_,rfl,k1,k2⟩
   exact⟨a,cl c,dx,ys,rfl,ey,hC,hn,by rw[hlen];exact of_decide_eq_true hl,q σ n5 _ (p1.trans (p2.trans p3)) (E.to (p1.trans (p2.trans p3)) w3)⟩
  .cases h4
 .cases h4⟩
theorem kj{c k:Nat}{fo fe:FX}{δ:DE}{S:aH}{QO:Ou->aH->Prop}(h:W3 (fe δ S) fun v S1=>W3 (fo δ S1) fun o S2=>∃fs,o= .loc k/\S2[k]? =some (.ins c fs)/\fs.length < 1000/\QO (.nx δ) (S2.set k (.ins c (Aw f v fs)))):W3 (yY c f fo fe δ S) QO:=
 W3.bind (h.mono fun v S1 h=>W3.bind (h.mono fun o S2 ⟨fs,e1,eW,hl,q⟩=>by
  subst e1;have e4:oI S2 c k=some fs:=by unfold oI;simp only[eW,if_true]
  simp only[e4];exact W3.wh (decide_eq_true hl) (W3.ok q)))
theorem y8{c k:Nat}{g:List V3->aH->R3 V3}{fo:FX}{fs:FA}{δ:DE}{S:aH}{Q:V3->aH->Prop}(h:W3 (fo δ S) fun o S1=>∃ys,o= .loc k/\S1[k]? =some (.ins c ys)/\ys.lookup m=none/\W3 (fs δ S1) fun vs S2=>W3 (g (.loc k ::vs) S2) Q):W3 (yc c m g fo fs δ S) Q:=
 W3.bind (h.mono fun o S1 ⟨ys,e1,eW,e3,h⟩=>by
  subst e1;have e4:oI S1 c k=some ys:=by unfold oI;simp only[eW,if_true]
  simp only[e4,e3];exact W3.bind h)
theorem G9{c:Nat}{g:List V3->aH->R3 V3}{fs:FA}{δ:DE}{S:aH}{Q:V3->aH->Prop}(h:W3 (fs δ S) fun vs S1=>W3 (g (.loc S1.length ::vs) (S1++[.ins c []])) fun v S2=>v= .d .cK/\Q (.loc S1.length) S2):W3 (DZ c g fs δ S) Q:=
 W3.bind (h.mono fun vs S1 h=>W3.bind (h.mono fun v S2 ⟨e,q⟩=>by subst e;exact W3.ok q))
end
end L3
end
section
namespace PySem
open Sem (wp)
def gW(t:Bool)(h:Heap)(i l:Addr)(k:Nat):Prop:=cond t (h.IsTupleIter i l k) (h.IsListIter i l k)
def k_(t:Bool)(h:Heap)(l:Addr)(xs:Array Value):Prop:=cond t (h.IsTuple l xs) (h.IsList l xs)
def wR(t:Bool):String:=cond t "tuple_iterator" "list_iterator"
theorem gW.at{t:Bool}{h h':Heap}{i l:Addr}{k:Nat}(x:gW t h i l k)(e:∀o,h.get? i=some o->h'.get? i=some o):gW t h' i l k:=by
 cases t with
 | true=>exact Heap.IsTupleIter.at x e
 | false=>exact Heap.IsListIter.at x e
theorem k_.at{t:Bool}{h h':Heap}{l:Addr}{xs:Array Value}(x:k_ t h l xs)(e:∀o,h.get? l=some o->h'.get? l=some o):k_ t h' l xs:=by
 cases t with
 | true=>exact Heap.IsTuple.at x e
 | false=>exact Heap.IsList.at x e
theorem gW.xb{t:Bool}{i l b:Addr}{k:Nat}(x:gW t h i l k)(hs:Heap.ExtBut b h h')(Dc:i≠b):gW t h' i l k:=x.at fun o e=>hs i o Dc e
theorem k_.xb{t:Bool}{l b:Addr}{xs:Array Value}(x:k_ t h l xs)(hs:Heap.ExtBut b h h')(Dc:l≠b):k_ t h' l xs:=x.at fun o e=>hs l o Dc e
theorem gW.ob{t:Bool}{h:Heap}{i l:Addr}{k:Nat}(x:gW t h i l k):∃o,h.get? i=some o/\∀v,o.data≠ .cell v:=by
 cases t with
 | true=>obtain⟨o,e,_,d⟩:=x;exact⟨o,e,fun v z=>by rw[d] at z;cases z⟩
 | false=>obtain⟨o,e,_,d⟩:=x;exact⟨o,e,fun v z=>by rw[d] at z;cases z⟩
theorem k_.lt{t:Bool}{h:Heap}{l:Addr}{xs:Array Value}(x:k_ t h l xs):l < h.objs.size:=by
 cases t with
 | true=>obtain⟨o,e,_⟩:=x;exact Heap.lt_size e
 | false=>obtain⟨o,e,_⟩:=x;exact Heap.lt_size e
theorem gW.lt{t:Bool}{h:Heap}{i l:Addr}{k:Nat}(x:gW t h i l k):i < h.objs.size:=let⟨_,e,_⟩:=x.ob;Heap.lt_size e
section
variable {prog:Program} {w:World} {A:Around} {E:Value->Shared->Prop} {s:Shared}
theorem kl{t:Bool}{it l:Addr}{i:Nat}{items:Array Value}{x:Value}{Q:Value->Shared->Prop}(hit:gW t s.heap it l i)(hl:k_ t s.heap l items)(hx:items[i]? =some x)
 (hQ:∀h',gW t h' it l (i+1)->Heap.SameBut it s.heap h'->Q x {s with heap:=h'}):wpAny (model prog w) A (Builtin.SmallTypes.nextOf (.ref it)) Q E s:=by
 cases t with
 | true=>exact nV hit hl hx hQ
 | false=>exact wpAny_nextOf_list_item hit hl hx hQ
theorem pU{t:Bool}{it l:Addr}{i:Nat}{items:Array Value}{Q:Value->Shared->Prop}(hh:A.handled=none)(hit:gW t s.heap it l i)(hl:k_ t s.heap l items)(hx:items[i]? =none)
 (hE:∀h' e,Heap.ExtBut it s.heap h'->(∃o,h'.get? e=some o/\o.cls= .type "StopIteration")->E (.ref e) {s with heap:=h'}):wpAny (model prog w) A (Builtin.SmallTypes.nextOf (.ref it)) Q E s:=by
 cases t with
 | true=>exact km hh hit hl hx hE
 | false=>exact wpAny_nextOf_list_end hh hit hl hx hE
theorem yf{t:Bool}{l:Addr}{items:Array Value}{Q:Value->Shared->Prop}(hl:k_ t s.heap l items)
 (hQ:Q (.ref s.heap.objs.size) {s with heap:=s.heap.push {cls:= .type (wR t),data:= .fields #[.ref l, .int 0 0]}}):wpAny (model prog w) A (pyIter (.ref l)) Q E s:=by
 cases t with
 | true=>exact wpAny_pyIter_tuple hl hQ
 | false=>exact wpAny_pyIter_list hl hQ
theorem FI{t u:Bool}{z TI TO i1 i2 l1 l2:Addr}{k1 k2:Nat}{xs ys:Array Value}{x y a b:Value}{Q:Value->Shared->Prop}(D:ZipApart z TI TO i1 i2 l1 l2)(hz:IsZip s.heap z TI TO .none)(Bs:IsPair s.heap TI (.ref i1) (.ref i2))
 (Bz:IsPair s.heap TO a b) (h1:gW t s.heap i1 l1 k1) (h2:gW u s.heap i2 l2 k2) (zE:k_ t s.heap l1 xs) (F7:k_ u s.heap l2 ys) (hx:xs[k1]? =some x) (hy:ys[k2]? =some y)
 (hQ:∀h',IsZip h' z TI TO (rawInt s.heap.objs.size)->IsPair h' TO x y->gW t h' i1 l1 (k1+1)->gW u h' i2 l2 (k2+1)->IsPair h' s.heap.objs.size x y->h'.objs.size=s.heap.objs.size+1->(∀c o,c≠z->c≠TO->c≠i1->c≠i2->s.heap.get? c=some o->h'.get? c=some o)->Q (.ref s.heap.objs.size) {s with heap:=h'}) :
 wpAny (model prog w) A (Builtin.«zip.__next__» ⟨[.ref z],[]⟩) (fun fin s'=>∃v,fin= .done (.ret v)/\Q v s') E s:=by
 show wpAny _ _ (field (.ref z) 2 >>=_) _ _ _;refine wpAny_bind (wpAny_field hz rfl (x:= .bool false) rfl ?_);show wpAny _ _ (field (.ref z) 3 >>=_) _ _ _;refine wpAny_bind (wpAny_field hz rfl (x:= .ref TI) rfl ?_);refine wpAny_bind (wpAny_seqItems Bs rfl ?_);show wpAny _ _ (Builtin.SmallTypes.ownedTupleIsFree (.ref z) >>=_) _ _ _;refine wpAny_bind ?_;unfold Builtin.SmallTypes.ownedTupleIsFree;refine wpAny_bind (wpAny_field hz rfl (x:= .none) rfl (wpAny_pure ?_));simp only[if_true];refine wpAny_bind (wpAny_rule ?_);refine wpAny_bind (wpAny_field hz rfl (x:= .ref TO) rfl ?_);refine wpAny_bind (wpAny_setField_rec hz (by simp) fun jT qa jB=>?_)
 replace qa:IsZip jT z TI TO .ellipsis:=qa;refine wpAny_bind ?_;simp only[List.zipIdx_cons,List.zipIdx_nil,List.forIn_cons,List.forIn_nil]
 refine wpAny_bind (wpAny_bind (wpAny_onRaise ?_));show wpAny _ _ (Builtin.SmallTypes.nextOf (.ref i1) >>=_) _ _ _;refine wpAny_bind (kl (h1.xb jB.extBut D.i1z) (zE.xb jB.extBut D.l1z) hx fun gR Mc di=>wpAny_pure ?_)
 have hTO₂:IsPair gR TO a b:=di.extBut _ _ D.TOi1 (jB.extBut _ _ D.TOz Bz);refine wpAny_bind (wpAny_seqItems hTO₂ rfl ?_);refine wpAny_bind (wpAny_updateSeq_pair hTO₂ fun LC zG lF=>?_)
 replace zG:IsPair LC TO x b:=zG;refine wpAny_bind (wpAny_letGo (wpAny_pure ?_));refine wpAny_bind (wpAny_bind (wpAny_onRaise ?_));show wpAny _ _ (Builtin.SmallTypes.nextOf (.ref i2) >>=_) _ _ _
 refine wpAny_bind (kl (((h2.xb jB.extBut D.i2z).xb di.extBut D.i12.symm).xb lF.extBut D.TOi2.symm) (((F7.xb jB.extBut D.l2z).xb di.extBut D.l2i1).xb lF.extBut D.l2TO) hy fun OY Rk uu=>wpAny_pure ?_)
 have hTO₄:IsPair OY TO x b:=uu.extBut _ _ D.TOi2 zG;refine wpAny_bind (wpAny_seqItems hTO₄ rfl ?_);refine wpAny_bind (wpAny_updateSeq_pair hTO₄ fun pS zA uv=>?_)
 replace zA:IsPair pS TO x y:=zA;refine wpAny_bind (wpAny_letGo (wpAny_pure (wpAny_pure ?_)));refine wpAny_bind (wpAny_seqItems zA rfl ?_);refine wpAny_bind (wpAny_newTuple ?_)
 have hsz:pS.objs.size=s.heap.objs.size:=(uv.1.trans (uu.1.trans (lF.1.trans (di.1.trans jB.1))));have hz₅:IsZip pS z TI TO .ellipsis:=uv.extBut _ _ D.TOz.symm <| uu.extBut _ _ D.i2z.symm <| lF.extBut _ _ D.TOz.symm <| di.extBut _ _ D.i1z.symm qa
 have hk₅:∀c o,c≠z->c≠TO->c≠i1->c≠i2->s.heap.get? c=some o->pS.get? c=some o:=fun c o c1 c2 c3 c4 e=>uv.extBut _ _ c2 <| uu.extBut _ _ c4 <| lF.extBut _ _ c2 <| di.extBut _ _ c3 <| jB.extBut _ _ c1 e
 have h1₅:gW t pS i1 l1 (k1+1):=((Mc.xb lF.extBut D.TOi1.symm).xb uu.extBut D.i12).xb uv.extBut D.TOi1.symm;have h2₅:gW u pS i2 l2 (k2+1):=Rk.xb uv.extBut D.TOi2.symm;have hzlt:=Heap.lt_size hz₅;show wpAny _ _ (Builtin.SmallTypes.ownedTupleHandOut (.ref z) (.ref pS.objs.size) >>=_) _ _ _;refine wpAny_bind ?_;unfold Builtin.SmallTypes.ownedTupleHandOut;have hz₆:IsZip (pS.push {cls:= .type "tuple",data:= .seq #[x,y]}) z TI TO .ellipsis:=Heap.get?_push_of_some _ hz₅;refine wpAny_bind (wpAny_setField_rec hz₆ (by simp) fun UN Jl Jd=>?_)
 replace Jl:IsZip UN z TI TO (rawInt pS.objs.size):=Jl;refine wpAny_setField_rec Jl (by simp) fun Jp EC Jm=>?_;replace EC:IsZip Jp z TI TO (rawInt pS.objs.size):=EC
 have up:∀c o,c≠z->pS.get? c=some o->Jp.get? c=some o:=fun c o c1 e=>Jm.extBut _ _ c1 <| Jd.extBut _ _ c1 (Heap.get?_push_of_some _ e)
 have hT₈:IsPair Jp pS.objs.size x y:=Jm.extBut _ _ (Nat.ne_of_gt hzlt) <| Jd.extBut _ _ (Nat.ne_of_gt hzlt) (Heap.get?_push_size _ rfl)
 have hz8:Jp.objs.size=pS.objs.size+1:=(Jm.1.trans Jd.1).trans (Heap.size_push ..);rw[hsz] at EC hT₈ hz8;refine wpAny_pure ⟨_,rfl,?_⟩;show Q (.ref pS.objs.size) _;rw [hsz];exact hQ Jp EC (up _ _ D.TOz zA) (h1₅.at fun o e=>up _ o D.i1z e) (h2₅.at fun o e=>up _ o D.i2z e) hT₈ hz8 fun c o c1 c2 c3 c4 e=>up c o c1 (hk₅ c o c1 c2 c3 c4 e)
theorem G_{t u:Bool}{z TI TO i1 i2 l1 l2:Addr}{k1 k2:Nat}{xs ys:Array Value}{a b:Value}{Q:Fin->Shared->Prop}(hh:A.handled=none)(D:ZipApart z TI TO i1 i2 l1 l2)(hz:IsZip s.heap z TI TO .none)
 (Bs:IsPair s.heap TI (.ref i1) (.ref i2)) (Bz:IsPair s.heap TO a b) (h1:gW t s.heap i1 l1 k1) (h2:gW u s.heap i2 l2 k2) (zE:k_ t s.heap l1 xs) (F7:k_ u s.heap l2 ys) (Uc:xs[k1]? =none\/ys[k2]? =none)
 (hE:∀h' e,(∀c o,c≠z->c≠TO->c≠i1->c≠i2->s.heap.get? c=some o->h'.get? c=some o)->(∃o,h'.get? e=some o/\o.cls= .type "StopIteration")->E (.ref e) {s with heap:=h'}):wpAny (model prog w) A (Builtin.«zip.__next__» ⟨[.ref z],[]⟩) Q E s:=by
 show wpAny _ _ (field (.ref z) 2 >>=_) _ _ _;refine wpAny_bind (wpAny_field hz rfl (x:= .bool false) rfl ?_);show wpAny _ _ (field (.ref z) 3 >>=_) _ _ _;refine wpAny_bind (wpAny_field hz rfl (x:= .ref TI) rfl ?_);refine wpAny_bind (wpAny_seqItems Bs rfl ?_);show wpAny _ _ (Builtin.SmallTypes.ownedTupleIsFree (.ref z) >>=_) _ _ _;refine wpAny_bind ?_;unfold Builtin.SmallTypes.ownedTupleIsFree;refine wpAny_bind (wpAny_field hz rfl (x:= .none) rfl (wpAny_pure ?_));simp only[if_true];refine wpAny_bind (wpAny_rule ?_);refine wpAny_bind (wpAny_field hz rfl (x:= .ref TO) rfl ?_);refine wpAny_bind (wpAny_setField_rec hz (by simp) fun jT qa jB=>?_)
 replace qa:IsZip jT z TI TO .ellipsis:=qa;refine wpAny_bind ?_;simp only[List.zipIdx_cons,List.zipIdx_nil,List.forIn_cons,List.forIn_nil]
 refine wpAny_bind (wpAny_bind (wpAny_onRaise ?_));show wpAny _ _ (Builtin.SmallTypes.nextOf (.ref i1) >>=_) _ _ _;cases hx:xs[k1]? with
 | none=>
   refine wpAny_bind (pU hh (h1.xb jB.extBut D.i1z) (zE.xb jB.extBut D.l1z) hx fun gR e di he=>?_)
   obtain⟨oe,hoe,hce⟩:=he;have EE:IsZip gR z TI TO .ellipsis:=di _ _ D.i1z.symm qa;have hez:e≠z:=fun x=>by {subst x;rw [EE] at hoe;cases hoe;simp at hce}
   exact wpAny_setField_rec EE (by simp) fun LC _ lF=>hE LC e (fun c o c1 _ c3 _ x=>lF.extBut _ _ c1 <| di _ _ c3 <| jB.extBut _ _ c1 x) ⟨oe,lF.extBut _ _ hez hoe,hce⟩
 | some x=>
   have hy:ys[k2]? =none:=Uc.resolve_left fun h=>by {rw [hx] at h;cases h}
   refine wpAny_bind (kl (h1.xb jB.extBut D.i1z) (zE.xb jB.extBut D.l1z) hx fun gR Mc di=>wpAny_pure ?_)
   have hTO₂:IsPair gR TO a b:=di.extBut _ _ D.TOi1 (jB.extBut _ _ D.TOz Bz);refine wpAny_bind (wpAny_seqItems hTO₂ rfl ?_);refine wpAny_bind (wpAny_updateSeq_pair hTO₂ fun LC zG lF=>?_)
   refine wpAny_bind (wpAny_letGo (wpAny_pure ?_));refine wpAny_bind (wpAny_bind (wpAny_onRaise ?_));show wpAny _ _ (Builtin.SmallTypes.nextOf (.ref i2) >>=_) _ _ _;refine wpAny_bind (pU hh (((h2.xb jB.extBut D.i2z).xb di.extBut D.i12.symm).xb lF.extBut D.TOi2.symm) (((F7.xb jB.extBut D.l2z).xb di.extBut D.l2i1).xb lF.extBut D.l2TO) hy fun OY e uu he=>?_)
   obtain⟨oe,hoe,hce⟩:=he;have hz₄:IsZip OY z TI TO .ellipsis:=uu _ _ D.i2z.symm <| lF.extBut _ _ D.TOz.symm <| di.extBut _ _ D.i1z.symm qa
   have hez:e≠z:=fun x=>by {subst x;rw [hz₄] at hoe;cases hoe;simp at hce}
   exact wpAny_setField_rec hz₄ (by simp) fun pS _ uv=>hE pS e (fun c o c1 c2 c3 c4 x=>uv.extBut _ _ c1 <| uu _ _ c4 <| lF.extBut _ _ c2 <| di.extBut _ _ c3 <| jB.extBut _ _ c1 x) ⟨oe,uv.extBut _ _ hez hoe,hce⟩
end
abbrev RF(t:Bool)(h:Heap)(l1:Addr):Heap:=h.push {cls:= .type (wR t),data:= .fields #[.ref l1, .int 0 0]}
abbrev RE(t u:Bool)(h:Heap)(l1 l2:Addr):Heap:=(RF t h l1).push {cls:= .type (wR u),data:= .fields #[.ref l2, .int 0 0]}
abbrev Rp(t u:Bool)(h:Heap)(l1 l2:Addr):Heap:=(RE t u h l1 l2).push {cls:= .type "tuple",data:= .seq #[.ref h.objs.size, .ref (RF t h l1).objs.size]}
abbrev RA(t u:Bool)(h:Heap)(l1 l2:Addr):Heap:=(Rp t u h l1 l2).push {cls:= .type "tuple",data:= .seq #[.none, .none]}
abbrev O0(t u:Bool)(h:Heap)(l1 l2:Addr):Heap:=(RA t u h l1 l2).push {cls:= .type "zip",data:= .fields #[.none, .bool false, .bool false, .ref (RE t u h l1 l2).objs.size, .ref (Rp t u h l1 l2).objs.size]}
theorem CI(t u:Bool)(l1 l2:Addr)(xs ys:Array Value):Meets (Builtin.«zip.__new__» ⟨[.type "zip", .ref l1, .ref l2],[]⟩) (fun _ R s=>k_ t s.heap l1 xs/\k_ u s.heap l2 ys/\R (.ok (.ret (.ref (RA t u s.heap l1 l2).objs.size))) {s with heap:=O0 t u s.heap l1 l2}):=
 .of_wp fun prog w A R s h=>by
   obtain⟨hp,g,d,tk,os⟩:=s;obtain⟨zE,F7,h⟩:=h;have hsub:=sub_zip;have Q6:k_ t (Shared.heap ⟨hp,g,d,tk,os⟩) l1 xs:=zE;have hL2:k_ u (Shared.heap ⟨hp.push {cls:= .type (wR t),data:= .fields #[.ref l1, .int 0 0]},g,d,tk,os⟩) l2 ys:=F7.at fun o e=>Heap.get?_push_of_some _ e
   wp_walk using yf Q6,yf hL2
   exact⟨_,rfl,h⟩
theorem gW.new{t:Bool}{h:Heap}{i l:Addr}(e:h.get? i=some {cls:= .type (wR t),data:= .fields #[.ref l, .int 0 0]}):gW t h i l 0:=by
 cases t with
 | true=>exact⟨_,e,rfl,rfl⟩
 | false=>exact⟨_,e,rfl,rfl⟩
theorem yH{prog:Program}{w:World}{A:Around}{E:Value->Shared->Prop}{s:Shared}{t u:Bool}{l1 l2:Addr}{xs ys:Array Value}{Q:Value->Shared->Prop}(zE:k_ t s.heap l1 xs)(F7:k_ u s.heap l2 ys)
 (h:∀h',IsZip h' (s.heap.objs.size+4) (s.heap.objs.size+2) (s.heap.objs.size+3) .none->IsPair h' (s.heap.objs.size+2) (.ref s.heap.objs.size) (.ref (s.heap.objs.size+1))->IsPair h' (s.heap.objs.size+3) .none .none->
   gW t h' s.heap.objs.size l1 0->gW u h' (s.heap.objs.size+1) l2 0->(∀c o,s.heap.get? c=some o->h'.get? c=some o)->Q (.ref (s.heap.objs.size+4)) {s with heap:=h'}):wpAny (model prog w) A (call (.type "zip") [.ref l1, .ref l2]) Q E s:=by
 refine callType_new F.called_zip (by decide) (F.typeCall_zip_2 _ _) (F.newCall_zip_2 _ _) (fun obj=>F.args_object_init_3 obj _ _) F.entry_zip_new (CI t u l1 l2 xs ys) ⟨zE,F7,?_⟩
 have z1:(RF t s.heap l1).objs.size=s.heap.objs.size+1:=Heap.size_push ..;have z2:(RE t u s.heap l1 l2).objs.size=s.heap.objs.size+2:=(Heap.size_push ..).trans (congrArg (·+1) z1)
 have z3:(Rp t u s.heap l1 l2).objs.size=s.heap.objs.size+3:=(Heap.size_push ..).trans (congrArg (·+1) z2)
 have z4:(RA t u s.heap l1 l2).objs.size=s.heap.objs.size+4:=(Heap.size_push ..).trans (congrArg (·+1) z3)
 have g5:(O0 t u s.heap l1 l2).get? (RA t u s.heap l1 l2).objs.size=some _:=Heap.get?_push_size _ rfl;have g4:(O0 t u s.heap l1 l2).get? (Rp t u s.heap l1 l2).objs.size=some _:=Heap.get?_push_of_some _ (Heap.get?_push_size _ rfl);have g3:(O0 t u s.heap l1 l2).get? (RE t u s.heap l1 l2).objs.size=some _:=Heap.get?_push_of_some _ <| Heap.get?_push_of_some _ (Heap.get?_push_size _ rfl)
 have g2:(O0 t u s.heap l1 l2).get? (RF t s.heap l1).objs.size=some _:=Heap.get?_push_of_some _ <| Heap.get?_push_of_some _ <| Heap.get?_push_of_some _ (Heap.get?_push_size _ rfl)
 have g1:(O0 t u s.heap l1 l2).get? s.heap.objs.size=some _:=Heap.get?_push_of_some _ <| Heap.get?_push_of_some _ <| Heap.get?_push_of_some _ <| Heap.get?_push_of_some _ (Heap.get?_push_size _ rfl)
 show _/\_;rw[z2,z3,z4] at g5;rw [z1,z2] at g3;rw [z3] at g4;rw [z1] at g2;rw [z4];exact⟨⟨_,g5,rfl⟩,h _ g5 g3 g4 (gW.new g1) (gW.new g2) fun c o x=>Heap.get?_push_of_some _ <| Heap.get?_push_of_some _ <| Heap.get?_push_of_some _ <| Heap.get?_push_of_some _ <| Heap.get?_push_of_some _ x⟩
end PySem
namespace L2
open PySem PySem.Spec PyProof.Rows
def Jr(t:Bool)(K:W.Frag)(H:Hp)(a:Addr)(xs:List V):Prop:=cond t (ud K H a xs) (pV K H a xs)
theorem Inv.Fg{X:Cx}{pins:List (Addr × Obj)}{σ:L2.St}{s:Shared}{t:Bool}{a:Addr}{xs:List V}(I:Inv X pins σ H s)(h:Jr t X.K H a xs):∃its:List Value,Vals xs its/\k_ t s.heap a its.toArray:=by
 cases t with
 | true=>obtain⟨its,r,p,_⟩:=I.tuple h;exact⟨its,r,p⟩
 | false=>obtain⟨its,r,p,_⟩:=I.list h;exact⟨its,r,p.isList⟩
theorem Inv.Di{X:Cx}{pins:List (Addr × Obj)}{σ:L2.St}{s:Shared}{t:Bool}{a:Addr}{xs ys:List V}(I:Inv X pins σ H s)(h:Jr t X.K H a xs)(h':Jr t X.K H a ys):xs=ys:=by
 cases t with
 | true=>exact I.sG h h'
 | false=>exact I.q9 h h'
def Wc(K:W.Frag)(t u:Bool)(a b:Addr):It:=
 ⟨fun i H=>∃xs ys x y,Jr t K H a xs/\Jr u K H b ys/\xs[i]? =some x/\ys[i]? =some y,
  fun i H v H'=>∃p x y,H p=none/\v= .ref p/\(∀xs,Jr t K H a xs->xs[i]? =some x)/\(∀ys,Jr u K H b ys->ys[i]? =some y)/\H'=upd H p (.tup [x,y]),
  fun i H=>∃xs ys,Jr t K H a xs/\Jr u K H b ys/\(xs.length<=i\/ys.length<=i)⟩
theorem zU{K:W.Frag}{k:Nat}{t u:Bool}{z TI TO i1 i2 a b:Addr}(D:ZipApart z TI TO i1 i2 a b):Turn P w K (.Tuple elts k pos) (Wc K t u a b) [z,TI,TO,i1,i2] z
 (fun i h=>IsZip h z TI TO .none/\IsPair h TI (.ref i1) (.ref i2)/\(∃x y,IsPair h TO x y)/\gW t h i1 a i/\gW u h i2 b i) where
 mem:=by simp
 obj:=fun i h st c hc=>by
  obtain⟨hz,Bs,⟨x,y,Bz⟩,h1,h2⟩:=st;simp only[List.mem_cons,List.not_mem_nil,or_false] at hc;rcases hc with rfl | rfl | rfl | rfl | rfl
  .exact⟨_,hz,fun v z=>by cases z⟩
  .exact⟨_,Bs,fun v z=>by cases z⟩
  .exact⟨_,Bz,fun v z=>by cases z⟩
  .exact h1.ob
  .exact h2.ob
 keep:=fun i h h' st k=>by
  obtain⟨hz,Bs,⟨x,y,Bz⟩,h1,h2⟩:=st;exact⟨k z (by simp) _ hz,k TI (by simp) _ Bs,⟨x,y,k TO (by simp) _ Bz⟩,h1.at fun o e=>k i1 (by simp) o e,h2.at fun o e=>k i2 (by simp) o e⟩
 item:=by
  intro X hP hw hK hc i pins s σ H E I hf st hg;subst hP hw hK;obtain⟨xs,ys,x,y,hq,hr,hx,hy⟩:=hg;obtain⟨its,rv,p⟩:=I.Fg hq;obtain⟨jts,FY,p'⟩:=I.Fg hr;obtain⟨ux,hu,ru⟩:=rv.get hx;obtain⟨uy,Xi,Rl⟩:=FY.get hy;obtain⟨hz,Bs,⟨a0,b0,Bz⟩,h1,h2⟩:=st;have hT:s.TypeIs (.ref z) "zip":=⟨_,hz,rfl⟩;unfold pyNext;refine wpAny_bind (wpAny_attempt (wpAny_callSpecial?_slot (name:="__next__") hT F.slot_zip_next (wpAny_call_entry F.slot_zip_next hT F.entry_zip_next (FI D hz Bs Bz h1 h2 p p' (x:=ux) (y:=uy) (by simpa using hu) (by simpa using Xi) fun jT a1 a2 a3 a4 a5 a6 yN=>wpAny_pure ?_) (F.args_zip_next_1 _))))
  refine⟨_,rfl,wpAny_letOwnedTupleGo_zip a1 fun gR EE di=>?_⟩
  replace di:Heap.SameBut z jT gR:=di
  have hzl:z < s.heap.objs.size:=Heap.lt_size hz;have Bt:gR.get? s.heap.objs.size=some {cls:= .type "tuple",data:= .seq #[ux,uy]}:=(di.2 _ (Nat.ne_of_gt hzl)).trans a5;have kk:∀b o,b≠z->b≠TO->b≠i1->b≠i2->s.heap.get? b=some o->gR.get? b=some o:=fun b o c1 c2 c3 c4 q=>(di.2 b c1).trans (yN b o c1 c2 c3 c4 q)
  have hn:H s.heap.objs.size=none:=I.fresh;have sm:bg H (upd H s.heap.objs.size (.tup [x,y])):=aP hn;have f0:∀c∈[z,TI,TO,i1,i2],H c=none:=fun c hc=>(hf c hc).1
  have nit:∀b o,H b=some o->b≠z/\b≠TO/\b≠i1/\b≠i2:=fun b o q=>by
   refine⟨fun e=>?_,fun e=>?_,fun e=>?_,fun e=>?_⟩
   .rw [e,f0 z (by simp)] at q;cases q
   .rw [e,f0 TO (by simp)] at q;cases q
   .rw [e,f0 i1 (by simp)] at q;cases q
   .rw [e,f0 i2 (by simp)] at q;cases q
  have kH:∀b o q,H b=some q->s.heap.get? b=some o->gR.get? b=some o:=fun b o q hb e=>let⟨c1,c2,c3,c4⟩:=nit b q hb;kk b o c1 c2 c3 c4 e
  have hok:pN X.prog X.w (upd H s.heap.objs.size (.tup [x,y])) gR:=fun b ob q=>by
   by_cases hb:b=s.heap.objs.size
   .subst hb;rw[aV] at q;cases q;exact⟨by show 2<=sizeLine;decide,[ux,uy], .cons ru (.cons Rl .nil),⟨_,Bt,rfl,_,rfl⟩⟩
   .rw [br hb] at q;refine(I.hok b ob q).zx (fun c v hc e=>?_) (fun c e=>sm c _ e) fun c ys e=>sm c _ e
    rcases hc with rfl | hc
    .exact kH c v _ q e
    .exact kH c v _ hc e
  have nch:∀b,b ∉ [z,TI,TO,i1,i2]->b≠z/\b≠TO/\b≠i1/\b≠i2:=fun b hb=>⟨fun e=>hb (by simp [e]),fun e=>hb (by simp [e]),fun e=>hb (by simp [e]),fun e=>hb (by simp [e])⟩
  have kc:∀b o,b ∉ [z,TI,TO,i1,i2]->s.heap.get? b=some o->gR.get? b=some o:=fun b o hb e=>let⟨c1,c2,c3,c4⟩:=nch b hb;kk b o c1 c2 c3 c4 e
  have I2:Inv X pins σ (upd H s.heap.objs.size (.tup [x,y])) {s with heap:=gR,toks:=s.toks}:=by
   refine I.step (g':=s.gens) (d':=s.drawn) (ch:=[z,TI,TO,i1,i2]) (fun b hb=>?_) (fun b o _ _ hb q _=>kc b o hb q) (fun b o _ _ hb q _=>⟨o.slots,kc b o hb q⟩)
    (fun b o hb q n=>by rw[br (Nat.ne_of_lt (Heap.lt_size q))];exact n) (fun b o hb q=>⟨o,kc b o hb q⟩) (fun b ys e=>sm b _ e) (fun b o u e=>sm b _ e) (fun b ps e=>⟨#[],by rw[sm b _ e];simp⟩) (fun m hm=>?_) hok I.bare
   .obtain⟨g0,g1,g2,g3,g4,g5⟩:=hf b hb;exact⟨g3,g1,g4,g5⟩
   .obtain⟨o,es,ep,ho,r⟩:=hm;refine⟨o,es,ep,kc _ o (fun hb=>?_) ho,r⟩
    exact(hf _ hb).2.1 rfl
  have up:∀c,c≠z->∀o,jT.get? c=some o->gR.get? c=some o:=fun c hc o e=>(di.2 c hc).trans e
  refine⟨.ref s.heap.objs.size,_,I2,rfl,⟨s.heap.objs.size,x,y,hn,rfl,fun zs Uj=>(by rw[I.Di Uj hq];exact hx),fun zs Uj=>(by rw[I.Di Uj hr];exact hy),rfl⟩,
   ⟨EE,up _ D.TIz _ (yN TI _ D.TIz D.TITO D.TIi1 D.TIi2 Bs),⟨_,_,up _ D.TOz _ a2⟩,a3.at fun o e=>up _ D.i1z o e,a4.at fun o e=>up _ D.i2z o e⟩,fun c hc=>?_⟩
  have hlt:c < s.heap.objs.size:=by
   simp only[List.mem_cons,List.not_mem_nil,or_false] at hc;rcases hc with rfl | rfl | rfl | rfl | rfl
   .exact hzl
   .exact Heap.lt_size Bs
   .exact Heap.lt_size Bz
   .exact h1.lt
   .exact h2.lt
  rw[br (Nat.ne_of_lt hlt)];exact f0 c hc
 done:=by
  intro X hP hw hK hc i pins s σ H E I hf st hg;subst hP hw hK;obtain⟨xs,ys,hq,hr,hl⟩:=hg;obtain⟨its,rv,p⟩:=I.Fg hq;obtain⟨jts,FY,p'⟩:=I.Fg hr;obtain⟨hz,Bs,⟨a0,b0,Bz⟩,h1,h2⟩:=st;have hT:s.TypeIs (.ref z) "zip":=⟨_,hz,rfl⟩;have l1:=rv.length;have l2:=FY.length;unfold pyNext;refine wpAny_bind (wpAny_attempt (wpAny_callSpecial?_slot (name:="__next__") hT F.slot_zip_next (wpAny_call_entry F.slot_zip_next hT F.entry_zip_next (G_ (I.ok.hd hc) D hz Bs Bz h1 h2 p p' ?_ fun h' e hk he=>?_) (F.args_zip_next_1 _))))
  .rcases hl with hl | hl
   .exact .inl (by simp;omega)
   .exact .inr (by simp;omega)
  obtain⟨o,ho,hcl⟩:=he;refine wpAny_bind (wpAny_isInstance (T:="StopIteration") (b:=true) ⟨o,ho,hcl⟩ isSubtype_stop ?_);have nch:∀b,b ∉ [z,TI,TO,i1,i2]->b≠z/\b≠TO/\b≠i1/\b≠i2:=fun b hb=>⟨fun e=>hb (by simp [e]),fun e=>hb (by simp [e]),fun e=>hb (by simp [e]),fun e=>hb (by simp [e])⟩
  have kc:∀b o,b ∉ [z,TI,TO,i1,i2]->s.heap.get? b=some o->h'.get? b=some o:=fun b o hb e=>let⟨c1,c2,c3,c4⟩:=nch b hb;hk b o c1 c2 c3 c4 e
  have f0:∀c∈[z,TI,TO,i1,i2],H c=none:=fun c hc=>(hf c hc).1
  have kH:∀b o q,H b=some q->s.heap.get? b=some o->h'.get? b=some o:=fun b o q hb e=>kc b o (fun z=>by rw[f0 b z] at hb;cases hb) e
  refine wpAny_pure ⟨rfl,?_⟩;refine I.step (h':=h') (H':=H) (g':=s.gens) (d':=s.drawn) (t':=s.toks) (ch:=[z,TI,TO,i1,i2]) (fun b hb=>?_) (fun b o _ _ hb q _=>kc b o hb q) (fun b o _ _ hb q _=>⟨o.slots,kc b o hb q⟩)
   (fun b o hb q n=>n) (fun b o hb q=>⟨o,kc b o hb q⟩) (fun b ys e=>e) (fun b o u e=>e) (fun b ps e=>⟨#[],by rw[e];simp⟩) (fun m hm=>?_) (fun b ob q=>?_) I.bare
  .obtain⟨g0,g1,g2,g3,g4,g5⟩:=hf b hb;exact⟨g3,g1,g4,g5⟩
  .obtain⟨o,es,ep,ho,r⟩:=hm;refine⟨o,es,ep,kc _ o (fun hb=>?_) ho,r⟩
   exact(hf _ hb).2.1 rfl
  .refine(I.hok b ob q).zx (fun c v hc e=>?_) (fun c e=>e) fun c ys e=>e
   rcases hc with rfl | hc
   .exact kH c v _ q e
   .exact kH c v _ hc e
 self:=fun A i s Q E st h=>wpAny_pyIter_zip st.1 h
section
variable {X:Cx}
def sj(ds es:List D):List D:=(ds.zip es).map fun p=> .tup [p.1,p.2]
def seqD?:D->Option (List D)
 | .lst ds=>some ds
 | .tup ds=>some ds
 | _=>none
def Gy(f g:FD):aw->R (List D):=fun δ=>(f δ).bind fun d=>(g δ).bind fun e=>match seqD? d,seqD? e with | some ds,some es=> .ok (sj ds es) | _,_=> .no
theorem Rep.Fg{K:W.Frag}{B:List Addr}{d:D}{v:V}{ds:List D}(r:Rep K B H d v)(h:seqD? d=some ds):∃t a xs,v= .ref a/\(∀B' H',dA B H B' H'->Jr t K H' a xs/\aG K B' H' ds xs):=by
 cases d with
 | lst es=>
   cases h;obtain⟨a,xs,rfl,l,rs⟩:=Rep.lst.mp r;exact⟨false,a,xs,rfl,fun B' H' p=>⟨(l.bu p).sq,rs.bu p⟩⟩
 | tup es=>
   cases h;obtain⟨a,xs,rfl,l,rs⟩:=Rep.tup.mp r;refine⟨true,a,xs,rfl,fun B' H' p=>⟨?_,rs.bu p⟩⟩
   have l':yJ K B' H' a xs:=l.elim (fun z=> .inl ⟨(p.rd z.2 z.1).2,(p.rd z.2 z.1).1⟩) .inr
   exact l'.sq
 | _=>cases h
theorem GS{elts:List Expr}{k:Nat}{tP:Pos}{p pos:Pos}(h:QD X a f)(h':QD X b g)(hg:Gl X "zip")(hm:X.mg "zip"=none)(hs:starEach [a,b] X.env=[(false,eval a X.env),(false,eval b X.env)]:=by rfl)(Ge:starEach [b] X.env=[(false,eval b X.env)]:=by rfl) :
 Bu X (.Tuple elts k tP) (.Call (.Name "zip" p) [a,b] [] pos) (Gy f g):=by
 refine⟨?_⟩;intro pins s σ H RR I ⟨Z,B,δ,ds,E,hf,q⟩;obtain⟨d,h1,h2⟩:=R.ak hf;obtain⟨e,h3,h4⟩:=R.ak h2;have hA:=dF h.1 (dF h'.1 gI Ge) (by rw[hs,Ge]) pos pins s σ H (fun vs H1=>bg H H1/\∃v v',vs=[v,v']/\Rep X.K B H1 d v/\Rep X.K B H1 e v') I
  ⟨Z,B,δ,d,E,h1,fun v H1 s1 r1=>⟨Z,B,δ,e,E.same s1,h3,fun v' H2 s2 r2=>⟨s1.trans s2,v,v',rfl,r1.same s2,r2⟩⟩⟩
 refine Call_ (nA I hg hm boot_zip (PyProof.Rows.callWith_type1 (dR hA fun us s1 ⟨vs,H1,I1,r1,ss,v,v',ev,rr,OM⟩=>?_) (by rw[hs,Ge]) (by rw[Ge];rfl)))
 subst ev;obtain⟨u,u',rfl,ru,Rl⟩:=vals2 r1;cases e1:seqD? d with
 | none=>rw [e1] at h4;cases h4
 | some ls=>
   cases e2:seqD? e with
   | none=>rw [e1,e2] at h4;cases h4
   | some ms=>
     rw[e1,e2] at h4;cases h4;obtain⟨t,a,xs,rfl,k1⟩:=rr.Fg e1;obtain⟨w,b,ys,rfl,k2⟩:=OM.Fg e2;cases ru;cases Rl;obtain⟨its,rv,pp⟩:=I1.Fg (k1 B H1 (dA.refl B H1)).1;obtain⟨jts,FY,Rn⟩:=I1.Fg (k2 B H1 (dA.refl B H1)).1;have la:=pp.lt;have lb:=Rn.lt;refine yH pp Rn fun gR hz Bs Bz Ut UG kk=>wpAny_pyIter_zip hz ?_
     have I2:Inv X pins σ H1 {s1 with heap:=gR}:=I1.kept (t':=s1.toks) kk
     refine⟨s1.heap.objs.size+4,[s1.heap.objs.size+4,s1.heap.objs.size+2,s1.heap.objs.size+3,s1.heap.objs.size,s1.heap.objs.size+1],_,_,H1,rfl,I2,zU (t:=t) (u:=w) (zipApart_new la lb),⟨hz,Bs,⟨_,_,Bz⟩,Ut,UG⟩,fun c hc=>?_,q _ H1 ss fun B' H' pr=>?_⟩
     .have hle:s1.heap.objs.size<=c:=by
       simp only[List.mem_cons,List.not_mem_nil,or_false] at hc;rcases hc with rfl | rfl | rfl | rfl | rfl <;> omega
      exact I1.wJ hle (I1.hok.fresh hle)
     .obtain⟨l1,Mb⟩:=k1 B' H' pr;obtain⟨l2,Mf⟩:=k2 B' H' pr;refine⟨fun i d hd=>?_,⟨xs,ys,l1,l2,?_⟩⟩
      .unfold sj at hd;rw[List.getElem?_map] at hd;cases ez:(ls.zip ms)[i]? with
       | none=>rw [ez] at hd;cases hd
       | some pr'=>
         rw[ez] at hd;have hd:D.tup [pr'.1,pr'.2]=d:=Option.some.inj hd;obtain⟨ea,eb⟩:=List.getElem?_zip_eq_some.mp ez;obtain⟨x,hx,rx⟩:=Mb.get ea;obtain⟨y,hy,ry⟩:=Mf.get eb;refine⟨⟨xs,ys,x,y,l1,l2,hx,hy⟩,fun v n_ yl Jc=>?_⟩
         obtain⟨p,x2,y2,hp,rfl,F5,zM,rfl⟩:=yl;refine⟨aP hp,?_⟩;subst hd;have F5:=F5 xs l1;have zM:=zM ys l2;rw[hx] at F5;cases F5;rw[hy] at zM;cases zM;refine Rep.tup.mpr ⟨p,_,rfl, .inl ⟨fun ha=>?_, .inl aV⟩,aG.cons (rx.same (aP hp)) (aG.cons (ry.same (aP hp)) aG.nil)⟩
         obtain⟨o,ho⟩:=Jc p ha;rw[hp] at ho;cases ho
      .rw [<-Mb.length,<-Mf.length];unfold sj;rw[List.length_map,List.length_zip];omega
def Vv(T U:String)(f:FD):FD:=fun δ=>(f δ).bind fun d=>match d with | .dct _ _=> .no | _=> .ok (.bl (CQ (tyName d) T || CQ (tyName d) U))
def YF(lo:Int)(n:Nat):It:=⟨fun i _=>i < n,fun i H x H'=>H'=H/\x= .int (lo - i),fun i _=>n<=i⟩
def SY(lo:Int)(n:Nat):List D:=(List.range n).map fun(i:Nat)=>D.int (lo - i)
def Vr(f g h:FD):aw->R (List D):=fun δ=>(f δ).bind fun d=>(g δ).bind fun e=>(h δ).bind fun k=>match d,e,k with
 | .int i, .int j, .int m=>R.bX (decide (m= -1/\ -(2 ^ 60)<=i/\i < 2 ^ 60/\ -(2 ^ 60)<=j/\j < 2 ^ 60)) (.ok (SY i (i - j).toNat)) | _,_,_=> .no
def bls?:List D->Option (List Bool)
 | []=>some []
 | .bl b ::ds=>(bls? ds).map (b ::·)
 | _ ::_=>none
theorem vt{K:W.Frag}{B:List Addr}:∀{ds:List D} {xs:List V} {bs:List Bool},aG K B H ds xs->bls? ds=some bs->xs=bs.map V.bl
 | [],xs,bs,r,h=>by unfold aG at r;subst r;cases h;rfl
 | d ::ds,xs,bs,r,h=>by
   obtain⟨x,q,rfl,r1,r2⟩:=r.cx;cases d with
   | bl b=>
     have h:(bls? ds).map (b ::·)=some bs:=h
     cases e:bls? ds with
     | none=>rw [e] at h;cases h
     | some cs=>
       rw[e] at h;cases h;rw[Rep.bl.mp r1,vt r2 e];rfl
   | _=>cases h
theorem vd:∀bs:List Bool,bls? (bs.map D.bl)=some bs
 | []=>rfl
 | b ::bs=>by show(bls? (bs.map D.bl)).map (b ::·)=_;rw [vd bs];rfl
theorem qb:∀{bs:List Bool} {us:List Value},Vals (bs.map V.bl) us->us=bs.map Value.bool
 | [],us,h=>by cases h;rfl
 | b ::bs,us,h=>by
   cases h with
   | cons r t=>rw [qb t,show _=Value.bool b from r];rfl
theorem range_all(bs:List Bool):(List.range bs.length).all (fun i=>bs.getD i false)=bs.all id:=by
 rw[Bool.eq_iff_iff];simp only[List.all_eq_true,List.mem_range,id];constructor
 .intro h b hb;obtain⟨i,hi,rfl⟩:=List.getElem_of_mem hb;have:=h i hi;rw[List.getD_eq_getElem?_getD,List.getElem?_eq_getElem hi] at this;exact this
 .intro h i hi;rw[List.getD_eq_getElem?_getD,List.getElem?_eq_getElem hi];exact h _ (List.getElem_mem hi)
theorem range_any(bs:List Bool):(List.range bs.length).any (fun i=>bs.getD i false)=bs.any id:=by
 rw[Bool.eq_iff_iff];simp only[List.any_eq_true,List.mem_range,id];constructor
 .rintro⟨i,hi,h⟩;rw[List.getD_eq_getElem?_getD,List.getElem?_eq_getElem hi] at h;exact⟨_,List.getElem_mem hi,h⟩
 .rintro⟨b,hb,h⟩;obtain⟨i,hi,rfl⟩:=List.getElem_of_mem hb;exact⟨i,hi,by rw[List.getD_eq_getElem?_getD,List.getElem?_eq_getElem hi];exact h⟩
def Ov:List D->R D
 | [.lst ds]=>(match bls? ds with | some bs=> .ok (.bl (bs.all id)) | none=> .no)
 | _=> .no
def HL:List D->R D
 | [.lst ds]=>(match bls? ds with | some bs=> .ok (.bl (bs.any id)) | none=> .no)
 | _=> .no
theorem LG{bs:List Bool}{i:Nat}{v:Value}(h:((bs.map Value.bool).toArray)[i]? =some v):v= .bool (bs.getD i false):=by
 rw[List.getElem?_toArray,List.getElem?_map] at h;rw[List.getD_eq_getElem?_getD];cases e:bs[i]? with
 | none=>rw [e] at h;cases h
 | some b=>rw [e] at h;cases h;rfl
theorem Pu(hc:X.calm=true):gm X (.builtin "all") Ov:=by
 intro pins s σ H B ds d xs us I hb rx rs hg;unfold Ov at hg;split at hg
 .split at hg
  .rename_i es bs e;cases hg;obtain⟨x,rfl,r⟩:=rs.one;obtain⟨a,ys,rfl,l,r⟩:=Rep.lst.mp r;obtain⟨u,rfl,ru⟩:=vals1 rx;cases ru;obtain⟨its,n,rv,e1,hz⟩:=I.LM l;rw[vt r e] at rv;obtain rfl:=qb rv;have hl:s.heap.IsList a (bs.map Value.bool).toArray:=⟨_,e1,rfl,n,rfl⟩;have hlt:a < s.heap.objs.size:=Heap.lt_size e1;refine call_all_walk (wpAny_pyIter_list hl ?_);refine⟨_,_,_,_,_,_,fun i=>bs.getD i false,rfl,Walks.list (A:=X.A.in1) (I.ok.hd hc) _ a (Nat.ne_of_lt hlt) _,⟨⟨_,Heap.get?_push_size _ rfl,rfl,rfl⟩,hl.push _⟩,?_,fun h' tk hk=>?_⟩
   .intro i v s Q E hP hQ;rw[LG hP];exact wpAny_truthy_bool hQ
   .refine⟨.bl (bs.all id),H,I.kept (old_kept hk),?_,bg.refl H,Rep.bl.mpr rfl⟩;show Value.bool _=Value.bool _;rw[<-range_all];simp
  .cases hg
 .cases hg
theorem LV(hc:X.calm=true):gm X (.builtin "any") HL:=by
 intro pins s σ H B ds d xs us I hb rx rs hg;unfold HL at hg;split at hg
 .split at hg
  .rename_i es bs e;cases hg;obtain⟨x,rfl,r⟩:=rs.one;obtain⟨a,ys,rfl,l,r⟩:=Rep.lst.mp r;obtain⟨u,rfl,ru⟩:=vals1 rx;cases ru;obtain⟨its,n,rv,e1,hz⟩:=I.LM l;rw[vt r e] at rv;obtain rfl:=qb rv;have hl:s.heap.IsList a (bs.map Value.bool).toArray:=⟨_,e1,rfl,n,rfl⟩;have hlt:a < s.heap.objs.size:=Heap.lt_size e1;refine call_any_walk (wpAny_pyIter_list hl ?_);refine⟨_,_,_,_,_,_,fun i=>bs.getD i false,rfl,Walks.list (A:=X.A.in1) (I.ok.hd hc) _ a (Nat.ne_of_lt hlt) _,⟨⟨_,Heap.get?_push_size _ rfl,rfl,rfl⟩,hl.push _⟩,?_,fun h' tk hk=>?_⟩
   .intro i v s Q E hP hQ;rw[LG hP];exact wpAny_truthy_bool hQ
   .refine⟨.bl (bs.any id),H,I.kept (old_kept hk),?_,bg.refl H,Rep.bl.mpr rfl⟩;show Value.bool _=Value.bool _;rw[<-range_any];simp
  .cases hg
 .cases hg
end
end L2
end
section
namespace L2
open PySem PySem.Spec PyProof.Rows
section
variable {X:Cx}
def Yx:FS:=fun _=> .no
def UR(f:FD):FS:=fun δ=>(f δ).bind fun _=> .ok (.nx δ)
end
end L2
namespace L3
open PySem PySem.Spec PyProof.Rows L2
section
variable {X:Cx} {cl:Nat->Addr}
def Yp:FZ:=fun _ _=> .no
def DM(f:aw->R (List D)):FX:=fun δ S=>(R3.of (f (cO S δ)) S).bind fun ds S=>R3.bX (lh ds) (.ok (.loc S.length) (S++[.lst ds]))
theorem KL{K:W.Frag}{f:aw->R (List D)}{σ:L2.St}{Q:V->Hp->Prop}(h:tX K cl (DM f) σ H Q):tN K f σ H Q:=by
 obtain⟨ρ,S,δ,v,S',E,hf,q⟩:=h;obtain⟨ds,S1,h1,h2⟩:=R3.ak hf;obtain⟨h3,e3⟩:=R3.of_ok h1;obtain⟨ht,h4⟩:=R3.bp h2;cases h4;subst e3;refine⟨[],[],cO _ δ,ds,E.cO,h3,fun a xs H' s n e r=>?_⟩
 have r0:aG K [] H' ds xs:=r.bu fun b o e nb=>⟨e,by simp⟩
 have r':aG K (ρ.push a).b H' ds xs:=aG.yu (fun b hb ys hr=>by
  rcases P3.mem_push hb with z | z
  .exact(E.sw.same s).nt b z ys hr
  .subst z;rcases hr with y | ⟨ob,y⟩
   .rw [e] at y;cases y
   .rw [e] at y;cases y) ht r0
 obtain⟨w,p⟩:=E.sw.new (o:= .lst ds) s n ⟨xs,e,r'⟩;exact q _ _ H' p w (by unfold bh;exact⟨a,by show(ρ.r++[a])[_]? =_;rw [<-E.sw.len,List.getElem?_append_right (by omega),Nat.sub_self];rfl,rfl⟩)
theorem Bj{i:Nat}{x:Str}{pos' qO:Pos}{scope:Scope}{own:List Str}{kp:List Nat}{kn:List Str}{tg iter elt:Expr}{ifs:List Expr}{it:aw->R (List D)}{t:FT}{c:aw->R Bool}{f:FD}{pos:Pos}(hc:X.calm=true)
 (hN:X.N.Nodup) (hx:X.N[i]? =some x) (Md:X.env.scope.names.lookup x=some .local) (C:bO X scope own kp kn) (hi:Bu X tg iter it)
 (hg:∀fp s H,MV (bN X scope (own++kn) fp s H) tg t) (F4:∀fp s H,JM (bN X scope (own++kn) fp s H) ifs c) (he:∀fp s H,QD (bN X scope (own++kn) fp s H) elt f)
 (Br:swapsWith (.ListComp elt [⟨tg,iter,ifs,0⟩] scope pos) (some (.Name x pos')) qO.line X.env=pure true:=by rfl)
 (hs:∀x,foldedSetIterable iter X.env x=pure x:=by intro _;rfl):PZ X cl (.Assign [.Name x pos'] (.ListComp elt [⟨tg,iter,ifs,0⟩] scope pos) qO) (bB i (DM (dj it t c f own kp))):=
 ⟨(vv hc hN hx Md C hi.1 (fun fp s H=>(hg fp s H).1) (fun fp s H=>(F4 fp s H).1) (fun fp s H=>(he fp s H).1) Br hs).imp fun D σ H h=>Dz (KL (G2 h))⟩
theorem NJ{f:aw->R (List D)}{ds:List D}{δ:DE}{S:aH}{QV:V3->aH->Prop}(e:f (cO S δ)= .ok ds)(ht:lh ds=true)(h:QV (.loc S.length) (S++[.lst ds])):W3 (DM f δ S) QV:=W3.bind (W3.of e (W3.wh ht (W3.ok h)))
def Fo(i:Nat)(f:FX):FZ:=fun δ S=>match mP δ i with
 | none=> .no
 | some k=>match dh S k with
   | none=> .no
   | some _=>(f δ S).bind fun v S1=>match v with
     | .d (.lst es)=>(match dh S1 k with
       | some ds=>R3.bX (decide (ds.length+es.length<=sizeLine)) (.ok (.nx δ) (S1.set k (.lst (ds++es))))
       | none=> .no)
     | _=> .no
theorem GW{i:Nat}{x:Str}{e:Expr}{f:FX}{fP apos cB pos:Pos}(hN:X.N[i]? =some x)(hv:Hz X.env.scope x)(he:PX X cl e f)
 (hd:(x==("__debug__":Str))=false:=by decide) (tI:(x==("__classdict__":Str))=false:=by decide)
 (hs:starEach [e] X.env=(false,eval e X.env) ::starEach [] X.env:=by rfl) (mQ:(apos.endLine==cB.line)=true:=by rfl)
 (tV:((backTo cB (starEach [e] X.env)).all (fun x=>!x.1) && (backToKw cB (keywordEach [] X.env)).all (fun x=>x.1.isSome)
   && decide (([e]:List Expr).length+([]:List Keyword).length+(if([]:List Keyword).isEmpty then 0 else 1) < 30))=true:=by rfl)
 (Br:swapsWith (.Call (.Attribute (.Name x fP) "extend" apos) [e] [] cB) none pos.line X.env=pure false:=by rfl)
 (mR:attributeBase (.Name x fP) "extend" X.env (eval (.Name x fP) X.env)=eval (.Name x fP) X.env:=by rfl) :
 PZ X cl (.Expr (.Call (.Attribute (.Name x fP) "extend" apos) [e] [] cB) pos) (Fo i f):=by
 refine⟨(vg (Ea (X:=X) PySem.F.plainAttrs_list PySem.F.slot_list_extend PySem.F.type_list_extend BN (sU hN hv hd tI) (dF he.1 gI hs) mR tV mQ hs) Br).imp fun D σ H ⟨ρ,S,δ,o,S',E,hf,q⟩=>?_⟩
 unfold Fo at hf;split at hf
 .cases hf
 .rename_i k hk;split at hf
  .cases hf
  .rename_i ds0 h0;obtain⟨v,S1,h1,h2⟩:=R3.ak hf;split at h2
   .rename_i es;split at h2
    .rename_i ds h3;obtain⟨hl,h4⟩:=R3.bp h2;cases h4;obtain⟨u,u1,u2⟩:=E.val i _ (nq hk);unfold bh at u2;obtain⟨a,a1,rfl⟩:=u2;obtain⟨TU,x0,_⟩:=E.sw.ob k a _ a1 (dP h0);refine⟨.ref a,u1, .inl ⟨rfl,TU,pV.of x0⟩,⟨ρ,S,δ, .d (.lst es),S1,E,h1,fun y bY H1 p1 w1 r1=>?_⟩⟩
     have b1:=p1.ext k a a1;obtain⟨xs,x1,x2⟩:=w1.ob k a _ b1 (dP h3);unfold bh at r1;obtain⟨b,ys,rfl,l,r'⟩:=Rep.lst.mp r1;refine⟨a,b,xs,ys,rfl,rfl,x1,⟨_,l⟩,by rw[<-x2.length,<-r'.length];exact of_decide_eq_true hl,?_⟩
     obtain⟨w2,p2⟩:=w1.put (o:= .lst (ds++es)) (u:= .lst (xs++ys)) b1 (w1.fz k a b1 (by rw[dP h3];intro h;cases h)) ⟨xs++ys,rfl,x2.append r'⟩
     exact q σ bY _ (p1.trans p2) (E.to (p1.trans p2) w2)
    .cases h2
   .cases h2
theorem L1{i k:Nat}{f:FX}{δ:DE}{S:aH}{QO:Ou->aH->Prop}(hk:δ[i]? =some (some (.loc k)))(h0:∃ds,S[k]? =some (.lst ds))(h:W3 (f δ S) fun v S1=>∃es ds,v= .d (.lst es)/\S1[k]? =some (.lst ds)/\ds.length+es.length<=sizeLine/\QO (.nx δ) (S1.set k (.lst (ds++es)))):W3 (Fo i f δ S) QO:=by
 obtain⟨es,h0⟩:=h0;unfold Fo;have e1:mP δ i=some k:=by unfold mP;rw [hk]
 have e2:dh S k=some es:=by unfold dh;simp only[h0]
 rw[e1];show W3 (match dh S k with | none=>_ | some _=>_) _
 rw[e2];refine W3.bind (h.mono fun v S1 ⟨d,ds,e,h1,hl,q⟩=>?_)
 subst e;have e3:dh S1 k=some ds:=by unfold dh;simp only[h1]
 show W3 (match dh S1 k with | some ds=>_ | none=>_) _
 rw[e3];exact W3.wh (decide_eq_true hl) (W3.ok q)
end
end L3
end
section
namespace L2
open PySem PySem.Spec PyProof.Rows
section
variable {X:Cx}
theorem IH{prog:Program}{w:World}{A:Around}{E:Value->Shared->Prop}{s:Shared}{t b:Addr}{vs ws:List Value}{Q:Value->Shared->Prop}(ht:IsTup s.heap t vs.toArray)(hb:IsTup s.heap b ws.toArray)
 (h0:vs=[]->Q (.ref b) s) (h1:vs≠[]->ws=[]->Q (.ref t) s) (h2:vs≠[]->ws≠[]->Q (.ref s.heap.objs.size) {s with heap:=s.heap.push {cls:= .type "tuple",data:= .seq (vs++ws).toArray}})
 (hsz:vs.length+ws.length<=sizeLine):wpAny (model prog w) A (binaryOp .Add (.ref t) (.ref b)) Q E s:=by
 by_cases hv:vs=[]
 .obtain⟨⟨cls,dd,data,sl⟩,ho,hc,n,hd⟩:=id ht;obtain⟨⟨TX,RN,data2,Pd⟩,OJ,hc2,n2,hd2⟩:=id hb;simp only at hc hd hc2 hd2;subst hc hd hc2 hd2;exact concat_meets ⟨_,ho,rfl⟩ ⟨_,OJ,rfl⟩ noFill_tuple_add seq_tuple_add PySem.F.slot_tuple_add PySem.F.entry_tuple_add (PySem.F.args_tuple_add_2 _ _) (tuple_addW0 t b vs.toArray ws.toArray n n2 dd RN sl Pd (by simp [hv])) ⟨ho,OJ,h0 hv⟩
 .exact HT.Ls ht hb hv (h1 hv) (h2 hv) hsz
def oB(d e:D):R D:=match d,e with
 | .tup a, .tup b=>R.bX (decide (a.length+b.length<=sizeLine)) (.ok (.tup (a++b)))
 | d,e=>iX d e
theorem yJ.fresh{K:W.Frag}{B:List Addr}{H:Hp}{p:Addr}{xs:List V}(hb:∀a∈B,∃o,H a=some o)(hp:H p=none):yJ K B (upd H p (.tup xs)) p xs:= .inl ⟨fun ha=>(by obtain⟨o,ho⟩:=hb p ha;rw [hp] at ho;cases ho), .inl aV⟩
theorem sv:lG X (binaryOp .Add) oB:=by
 intro pins s σ H B da db d x y v u I hb rx ry ra rb hg;by_cases ht:∃a b,da= .tup a/\db= .tup b
 .obtain⟨a,b,rfl,rfl⟩:=ht;have hg:R.bX (decide (a.length+b.length<=sizeLine)) (.ok (.tup (a++b)))= .ok d:=hg;obtain⟨h1,h2⟩:=R.bp hg;cases h2;have h1:=of_decide_eq_true h1;have ra':=ra;have rb':=rb;obtain⟨a1,Uk,rfl,l1,r1⟩:=Rep.tup.mp ra;obtain⟨a2,T9,rfl,l2,r2⟩:=Rep.tup.mp rb;cases rx;cases ry;obtain⟨its,VI,p1,_⟩:=I.tuple l1.sq;obtain⟨rZ,RV,p2,_⟩:=I.tuple l2.sq;have e1:=VI.length;have e2:=RV.length;have e3:=r1.length;have e4:=r2.length;refine IH p1 p2 (fun z=>⟨.ref a2,H,I,rfl,bg.refl H,?_⟩) (fun _ z=>⟨.ref a1,H,I,rfl,bg.refl H,?_⟩) (fun _ _=>?_) (by omega)
  .obtain rfl:a=[]:=List.eq_nil_of_length_eq_zero (by rw[e3,e1,z];rfl)
   exact rb'
  .obtain rfl:b=[]:=List.eq_nil_of_length_eq_zero (by rw[e4,e2,z];rfl)
   rw[List.append_nil];exact ra'
  .have hp:H s.heap.objs.size=none:=I.hok.fresh (Nat.le_refl _);refine⟨.ref s.heap.objs.size,_,I.laid (t':=s.toks) (o:= .tup (Uk++T9)) (fun b ob q=>Heap.get?_push_of_some _ q) (Nat.le_refl _) ⟨by rw[List.length_append];omega,_,VI.append RV,IsTup.new _ _⟩,rfl,aP hp,Rep.tup.mpr ⟨_,_,rfl,yJ.fresh hb hp,(r1.append r2).same (aP hp)⟩⟩
 .have hg:iX da db= .ok d:=by
   unfold oB at hg;split at hg
   .exact absurd ⟨_,_,rfl,rfl⟩ ht
   .exact hg
  exact jw pins s σ H B da db d x y v u I hb rx ry ra rb hg
theorem Bu.or{F F1 F2:aw->R (List D)}(h1:Bu X tg e F1)(h2:Bu X tg e F2)(h:∀δ ds,F δ= .ok ds->F1 δ= .ok ds\/F2 δ= .ok ds):Bu X tg e F:=
 ⟨fun pins s σ H R I ⟨Z,B,δ,ds,E,hf,q⟩=>(h δ ds hf).elim (fun z=>h1.1 pins s σ H R I ⟨Z,B,δ,ds,E,z,q⟩) fun z=>h2.1 pins s σ H R I ⟨Z,B,δ,ds,E,z,q⟩⟩
def El(f:FD):aw->R (List D):=fun δ=>(f δ).bind fun d=>match d with | .lst ds=> .ok (cH ds) | .tup ds=> .ok (cH ds) | _=> .no
theorem BL{elts:List Expr}{k:Nat}{tP:Pos}{p pos:Pos}(h:QD X a f)(hg:Gl X "enumerate")(hm:X.mg "enumerate"=none)(hs:starEach [a] X.env=[(false,eval a X.env)]:=by rfl):Bu X (.Tuple elts k tP) (.Call (.Name "enumerate" p) [a] [] pos) (El f):=
 Bu.or (F1:=eO f) (F2:=yR f) ⟨z6 h.1 hg hm hs⟩ (CD h hg hm hs) fun δ ds hf=>by
  obtain⟨d,h1,h2⟩:=R.ak hf;cases d with
  | lst es=>cases h2;exact .inl (by unfold eO;rw [h1];rfl)
  | tup es=>cases h2;exact .inr (by unfold yR;rw [h1];rfl)
  | _=>cases h2
def V7(K:W.Frag)(a:Addr)(n:Nat):It:=
 ⟨fun i H=>∃xs x,pV K H a xs/\xs.length=n/\i < n/\xs[n - 1 - i]? =some x,fun i H v H'=>H'=H/\∀xs,pV K H a xs->xs[n - 1 - i]? =some v,fun i H=>(∃xs,pV K H a xs)/\i=n⟩
theorem HH{K:W.Frag}(a it:Addr)(n:Nat):Turn P w K tg (V7 K a n) [it] it (fun i h=>h.IsRevIter it a ((n:Int) - 1 - (i:Int))) where
 mem:=by simp
 obj:=fun i h st b hb=>by
  have e:b=it:=by simpa using hb
  subst e;obtain⟨o,e,c,d⟩:=st;exact⟨o,e,fun v z=>by rw[d] at z;cases z⟩
 keep:=fun i h h' st k=>st.at fun o e=>k it (by simp) o e
 item:=by
  intro X hP hw hK hc i pins s σ H E I hf st hg;subst hP hw hK;obtain⟨xs,x,hq,hn,hi,hx⟩:=hg;obtain⟨its,rv,p,hz⟩:=I.list hq;obtain⟨u,hu,ru⟩:=rv.get hx;obtain⟨f0,f1,f2,f3,f4,f5⟩:=hf it (by simp)
  have e0:(n:Int) - 1 - (i:Int)=((n - 1 - i:Nat):Int):=by omega
  rw[e0] at st;refine wpAny_pyNext_rev_item st p.isList (x:=u) (by simpa using hu) fun h' Je sb=>?_
  have I1:Inv X pins σ H {s with heap:=h'}:=I.turned (t':=s.toks) (fun b o hb e=>(sb.2 b hb).trans e) f0 f1 f3 f4 f5
  have Jy:h'.IsRevIter it a ((n:Int) - 1 - ((i+1:Nat):Int)):=by
   rw[show((n - 1 - i:Nat):Int) - 1=(n:Int) - 1 - ((i+1:Nat):Int) by omega] at Je;exact Je
  obtain⟨o,e,c,d⟩:=id Jy;exact⟨u,rfl,D9 (s:={s with heap:=h'}) e c d (by decide) ⟨x,H,I1,ru,⟨rfl,fun ys hy=>by rw[I.q9 hy hq];exact hx⟩,Jy,fun b hb=>(hf b hb).1⟩⟩
 done:=by
  intro X hP hw hK hc i pins s σ H E I hf st hg;subst hP hw hK;obtain⟨_,rfl⟩:=hg;obtain⟨f0,f1,f2,f3,f4,f5⟩:=hf it (by simp)
  rw[show(i:Int) - 1 - (i:Int)= -1 by omega] at st
  exact wpAny_pyNext_rev_end (I.ok.hd hc) st fun h' eb=>⟨rfl,I.turned (t':=s.toks) (fun b o hb e=>eb b o hb e) f0 f1 f3 f4 f5⟩
 self:=fun _ _ _ _ _ st h=>wpAny_pyIter_revIter st h
def LZ(f:FD):aw->R (List D):=fun δ=>(f δ).bind fun d=>match d with | .lst ds=> .ok ds.reverse | _=> .no
theorem Ho{tg a:Expr}{p pos:Pos}(h:QD X a f)(hg:Gl X "reversed")(hm:X.mg "reversed"=none)(hs:starEach [a] X.env=[(false,eval a X.env)]:=by rfl):Bu X tg (.Call (.Name "reversed" p) [a] [] pos) (LZ f):=by
 refine⟨?_⟩;intro pins s σ H RR I ⟨Z,B,δ,ds,E,hf,q⟩;obtain⟨d,h1,h2⟩:=R.ak hf;have hA:=dF h.1 gI hs pos pins s σ H (fun vs H1=>bg H H1/\∃v,vs=[v]/\Rep X.K B H1 d v) I ⟨Z,B,δ,d,E,h1,fun v H1 s1 r1=>⟨s1,v,rfl,r1⟩⟩
 refine Call_ (nA I hg hm boot_reversed (PyProof.Rows.callWith_type1 (dR hA fun us s1 ⟨vs,H1,I1,r1,ss,v,ev,rr⟩=>?_) hs rfl))
 subst ev;obtain⟨u,rfl,ru⟩:=vals1 r1;cases d with
 | lst es=>
   cases h2;obtain⟨b,xs,rfl,l,rs⟩:=Rep.lst.mp rr;cases ru;obtain⟨its,rv,pl,hz⟩:=I1.list l.sq;have e1:=rv.length;have e2:=rs.length;refine call_reversed_list pl.isList (wpAny_pyIter_revIter (i:=(its.toArray.size:Int) - 1) ⟨_,Heap.get?_push_size _ rfl,rfl,rfl⟩ ?_);refine⟨s1.heap.objs.size,[s1.heap.objs.size],_,_,H1,rfl,I1.kept (t':=s1.toks) fun b o e=>Heap.get?_push_of_some _ e,HH b _ es.length,?_,fun c hc=>?_,q _ H1 ss fun B' H' pr=>?_⟩
   .refine⟨_,Heap.get?_push_size _ rfl,rfl,?_⟩;show Data.fields #[.ref b,rawInt ((its.toArray.size:Int) - 1)]=Data.fields #[.ref b,rawInt ((es.length:Int) - 1 - ((0:Nat):Int))];rw[List.size_toArray,<-e1,<-e2,show((es.length:Nat):Int) - 1 - ((0:Nat):Int)=(es.length:Int) - 1 by omega]
   .have e:c=s1.heap.objs.size:=by simpa using hc
    subst e;exact I1.wJ (Nat.le_refl _) (I1.hok.fresh (Nat.le_refl _))
   .have l':wj X.K B' H' b xs:=l.bu pr;have rs':=rs.bu pr;refine⟨fun i d hd=>?_,⟨xs,l'.sq⟩,by rw[List.length_reverse]⟩
    have hi:i < es.length:=by have:=(List.getElem?_eq_some_iff.mp hd).1;rwa [List.length_reverse] at this
    rw[List.getElem?_reverse hi] at hd;obtain⟨x,hx,rx⟩:=rs'.get hd;refine⟨⟨xs,x,l'.sq,e2.symm,hi,hx⟩,fun v n_ yl Jc=>?_⟩
    obtain⟨rfl,hy⟩:=yl;have zM:=hy xs l'.sq;rw[hx] at zM;cases zM;exact⟨bg.refl _,rx⟩
 | _=>cases h2
def za(K:W.Frag)(C:Addr)(m qual:Str)(st:Stmt):Prop:=∃f fd,EA K m qual st f fd/\Meth K C m f
def ER(K:W.Frag)(C:Addr)(m qual:Str)(st:Stmt):Prop:=∃f fd,EA K m qual st f fd/\Mk K C f
end
end L2
namespace L3
open PySem PySem.Spec PyProof.Rows L2
section
variable {X:Cx} {cl:Nat->Addr}
theorem ox.p{K:W.Frag}{k c:Nat}{n:Nat}{N:List Str}(C:ox P w K mg base cl k c m n (n4 N F)):ox P w K mg base cl k c m n (n6 N F):=
 let⟨f,fd,ps,c1,c2,F,h⟩:=C;⟨f,fd,ps,c1,c2,F.imp fun _ _ _ _ h=>Cy h,h⟩
end
end L3
end
section
namespace L2
open PySem PySem.Spec PyProof.Rows
section
variable {X:Cx}
def Wk(f:FD):aw->R (List D):=fun δ=>(f δ).bind fun d=>match d with | .int j=>R.bX (decide (-(2 ^ 62)<=j/\j < 16777216)) (.ok (eY 0 j.toNat)) | _=> .no
def WI(f:FD):FD:=fun δ=>(f δ).bind fun d=>match d with | .lst ds=> .ok (.lst ds.reverse) | _=> .no
end
end L2
end
section
namespace L2
open PySem PySem.Spec PyProof.Rows
section
variable {X:Cx}
def WO(K:W.Frag)(n:Nat)(t:HV):TG:=fun v σ H Q=>∃a xs,v= .ref a/\pV K H a xs/\xs.length=n/\t xs σ H Q
end
end L2
namespace L3
open PySem PySem.Spec PyProof.Rows L2
section
variable {X:Cx} {cl:Nat->Addr}
def Yo(n:Nat)(t:KD):FG:=fun d δ=>match d with
 | .d (.lst ds)=>if ds.length=n then t (ds.map .d) δ else none
 | .lst vs=>if vs.length=n then t vs δ else none
 | _=>none
def Nc(f g:FX):FA:=fun δ S=>(av f (av g cn) δ S).bind fun vs S1=>match vs with
 | [.d d, .d e]=>(match seqD? d,seqD? e with | some ds,some es=> .ok ((sj ds es).map .d) S1 | _,_=> .no)
 | _=> .no
theorem Kj{elts:List Expr}{k:Nat}{tP:Pos}{p pos:Pos}(h:PX X cl a f)(h':PX X cl b g)(hg:Gl X "zip")(hm:X.mg "zip"=none)(hs:starEach [a,b] X.env=[(false,eval a X.env),(false,eval b X.env)]:=by rfl)(Ge:starEach [b] X.env=[(false,eval b X.env)]:=by rfl) :
 L7 X cl (.Tuple elts k tP) (.Call (.Name "zip" p) [a,b] [] pos) (Nc f g):=by
 refine⟨?_⟩;intro pins s σ H RR I ⟨ρ,S,δ,vs,S',E,hf,q⟩;obtain⟨ws,S1,h1,h2⟩:=R3.ak hf;have hA:=(ae h (ae h' aJ Ge) (by rw[hs,Ge])).1 pos pins s σ H (fun us H1=>∃bY,Pre ρ H bY H1/\SW X.K cl bY H1 S1/\aL X.K bY H1 ws us) I
  ⟨ρ,S,δ,ws,S1,E,h1,fun us bY H1 p1 w1 r1=>⟨bY,p1,w1,r1⟩⟩
 refine Call_ (nA I hg hm boot_zip (PyProof.Rows.callWith_type1 (dR hA fun us s1 ⟨xs,H1,I1,r1,bY,p1,w1,rr⟩=>?_) (by rw[hs,Ge]) (by rw[Ge];rfl)))
 rcases hsh:ws with _ | ⟨w0,_ | ⟨w2,_ | ⟨w3,wr⟩⟩⟩ <;> subst hsh
 .cases h2
 .cases w0 <;> cases h2
 .rcases w0 with d | _ | _ | _ <;> rcases w2 with e | _ | _ | _ <;> try (cases h2;done)
  have h2:(match seqD? d,seqD? e with | some ds,some es=>R3.ok ((sj ds es).map V3.d) S1 | _,_=> .no)= .ok vs S':=h2
  cases e1:seqD? d with
  | none=>rw [e1] at h2;cases h2
  | some ls=>
    cases e2:seqD? e with
    | none=>rw [e1,e2] at h2;cases h2
    | some ms=>
      rw[e1,e2] at h2;cases h2;obtain⟨v,ys,ev,ra,rr⟩:=rr.cx;obtain⟨v',zs,FV,rb,rr⟩:=rr.cx;unfold aL at rr;subst rr FV ev;obtain⟨u,u',rfl,ru,Rl⟩:=vals2 r1;unfold bh at ra rb;obtain⟨t,a,xs,rfl,k1⟩:=ra.Fg e1;obtain⟨w,b,ys,rfl,k2⟩:=rb.Fg e2;cases ru;cases Rl;obtain⟨its,rv,pp⟩:=I1.Fg (k1 bY.b H1 (dA.refl _ H1)).1;obtain⟨jts,FY,Rn⟩:=I1.Fg (k2 bY.b H1 (dA.refl _ H1)).1;have la:=pp.lt;have lb:=Rn.lt;refine yH pp Rn fun gR hz Bs Bz Ut UG kk=>wpAny_pyIter_zip hz ?_
      have I2:Inv X pins σ H1 {s1 with heap:=gR}:=I1.kept (t':=s1.toks) kk
      refine⟨s1.heap.objs.size+4,[s1.heap.objs.size+4,s1.heap.objs.size+2,s1.heap.objs.size+3,s1.heap.objs.size,s1.heap.objs.size+1],_,_,H1,rfl,I2,zU (t:=t) (u:=w) (zipApart_new la lb),⟨hz,Bs,⟨_,_,Bz⟩,Ut,UG⟩,fun c hc=>?_,q _ bY H1 p1 w1 (O9.of fun B' H' pr=>?_)⟩
      .have hle:s1.heap.objs.size<=c:=by
        simp only[List.mem_cons,List.not_mem_nil,or_false] at hc;rcases hc with rfl | rfl | rfl | rfl | rfl <;> omega
       exact I1.wJ hle (I1.hok.fresh hle)
      .obtain⟨l1,Mb⟩:=k1 B' H' pr;obtain⟨l2,Mf⟩:=k2 B' H' pr;refine⟨fun i d hd=>?_,⟨xs,ys,l1,l2,?_⟩⟩
       .unfold sj at hd;rw[List.getElem?_map] at hd;cases ez:(ls.zip ms)[i]? with
        | none=>rw [ez] at hd;cases hd
        | some pr'=>
          rw[ez] at hd;have hd:D.tup [pr'.1,pr'.2]=d:=Option.some.inj hd;obtain⟨ea,eb⟩:=List.getElem?_zip_eq_some.mp ez;obtain⟨x,hx,rx⟩:=Mb.get ea;obtain⟨y,hy,ry⟩:=Mf.get eb;refine⟨⟨xs,ys,x,y,l1,l2,hx,hy⟩,fun v n_ yl Jc=>?_⟩
          obtain⟨p,x2,y2,hp,rfl,F5,zM,rfl⟩:=yl;refine⟨aP hp,?_⟩;subst hd;have F5:=F5 xs l1;have zM:=zM ys l2;rw[hx] at F5;cases F5;rw[hy] at zM;cases zM;refine Rep.tup.mpr ⟨p,_,rfl, .inl ⟨fun ha=>?_, .inl aV⟩,aG.cons (rx.same (aP hp)) (aG.cons (ry.same (aP hp)) aG.nil)⟩
          obtain⟨o,ho⟩:=Jc p ha;rw[hp] at ho;cases ho
       .rw [<-Mb.length,<-Mf.length];unfold sj;rw[List.length_map,List.length_zip];omega
 .cases w0 <;> cases w2 <;> cases h2
theorem Qn{f g:FX}{δ:DE}{S:aH}{Q:List V3->aH->Prop}(h:W3 (f δ S) fun v S1=>W3 (g δ S1) fun w S2=>∃d e ds es,v= .d d/\w= .d e/\seqD? d=some ds/\seqD? e=some es/\Q ((sj ds es).map .d) S2):W3 (Nc f g δ S) Q:=
 W3.bind (W3.bind (h.mono fun v S1 h2=>W3.bind (W3.bind (h2.mono fun w S2 ⟨d,e,ds,es,e1,eW,e3,e4,q⟩=>by
  subst e1 eW;exact W3.bind (W3.ok (W3.ok (W3.ok (by simp only[e3,e4];exact W3.ok q))))))))
def lP(S:aH):Prop:=∀o∈S,pM S.length o=true
theorem Flat.V6{S:aH}(h:Flat S):lP S:=fun o ho=>h o ho _
theorem Px{N:List Str}{vs:List V3}{S:aH}{QV:V3->aH->Prop}(h:W3 (n4 N F vs S) fun v S1=>(∀o∈S1.take S.length,pM S.length o=true)/\gf S.length v=true/\∃d,res S1 v=some d/\QV (.d d) (S1.take S.length)):W3 (n6 N F vs S) QV:=
 W3.bind (h.mono fun v S1 ⟨hl,hg,d,e,q⟩=>by
  rw[e];exact W3.wh (by rw[List.all_eq_true.mpr hl,hg];rfl) (W3.ok q))
theorem kU{N:List Str}{vs:List V3}{S:aH}{QV:V3->aH->Prop}(hS:lP S)(h:W3 (n4 N F vs S) fun v S1=>gf S.length v=true/\(∃T,S1=S++T)/\∃d,res S1 v=some d/\QV (.d d) S):W3 (n6 N F vs S) QV:=
 Px (h.mono fun v S1 ⟨hg,⟨T,e1⟩,d,e,q⟩=>by
  subst e1;rw[List.take_append_of_le_length (Nat.le_refl _),List.take_length];exact⟨hS,hg,d,e,q⟩)
end
end L3
end
section
namespace L2
open PySem PySem.Spec PyProof.Rows
section
variable {X:Cx}
def ois?:List D->Option (List (Option Int))
 | []=>some []
 | .int i ::ds=>(ois? ds).map (some i ::·)
 | .cK ::ds=>(ois? ds).map (none ::·)
 | _ ::_=>none
def Yt:Option Int->V | some i=> .int i | none=> .cK
def Wu(d e:D):R Bool:=match d,e with
 | .cK, .lst ds=>(match ois? ds with | some ss=> .ok (ss.any (·.isNone)) | none=> .no)
 | _,_=> .no
def WM(d e:D):R D:=(Wu d e).bind fun b=> .ok (.bl b)
end
end L2
end
section
namespace L2
open PySem PySem.Spec PyProof.Rows
section
variable {X:Cx}
def SA(d:D)(ds:List D):R D:=match d,ds with
 | .lst es,[.int k]=>(match ints? es with | some ss=> .ok (.int (ss.count k:Nat)) | none=> .no)
 | _,_=> .no
end
end L2
end
section
namespace L2
open PySem PySem.Spec PyProof.Rows
section
variable {X:Cx}
abbrev Fj:D->D->R D:=Ak (fun i j=>decide (0<=j/\j < 1000/\ -1000 < i/\i < 1000)) fun i j=>i*2 ^ j.toNat
theorem Ee:lG X (binaryOp .LShift) Fj:=AO N_ fun i j h=>by
 have:=of_decide_eq_true h;exact⟨this.1,by omega,by omega⟩
def Vm(d e:D):R D:=match d,e with | .bl a, .bl b=> .ok (.bl (a !=b)) | _,_=> .no
end
end L2
namespace L3
open PySem PySem.Spec PyProof.Rows L2
section
variable {X:Cx} {cl:Nat->Addr}
def Vc(fo f:FX):FZ:=fun δ S=>(fo δ S).bind fun o S0=>match o with
 | .loc k=>(match dh S0 k with
   | none=> .no
   | some _=>(f δ S0).bind fun v S1=>match v with
     | .d d=>(match dh S1 k with | some ds=>R3.bX (decide (ds.length < sizeLine)) (.ok (.nx δ) (S1.set k (.lst (ds++[d])))) | none=> .no)
     | _=> .no)
 | _=> .no
def Vg(f:FX):FA:=fun δ S=>(av f cn δ S).bind fun vs S1=>match vs with
 | [.d (.lst ds)]=> .ok ((cH ds).map .d) S1
 | _=> .no
end
end L3
end
section
namespace L2
open PySem PySem.Spec PyProof.Rows
section
variable {X:Cx}
end
end L2
end
section
namespace L3
open PySem PySem.Spec PyProof.Rows L2
section
variable {cl:Nat->Addr}
def RW(it:FA)(t:FG)(c:FB)(f:FX)(own:List Str)(kp:List Nat):FX:=fun δ S=>(it δ S).bind fun vs S1=>R3.bX (decide (vs.length<=sizeLine)) ((oy t c f (mh own kp δ) vs S1).bind fun ys S2=>match uQ ys with | some ds=> .ok (.loc S2.length) (S2++[.lst ds]) | none=> .no)
end
section
variable {X:Cx} {cl:Nat->Addr}
end
end L3
end
section
namespace L3
open PySem PySem.Spec PyProof.Rows L2
section
variable {X:Cx} {cl:Nat->Addr}
def Sf(g:List D->R D)(fs:FA):FX:=fun δ S=>(fs δ S).bind fun vs S1=>match z_ S1 vs with
 | some ds=>(R3.of (g ds) S1).bind fun d S=>R3.bX (rH d) (.ok (.d d) S)
 | none=> .no
end
end L3
end
section
namespace L2
open PySem PySem.Spec PyProof.Rows
section
variable {X:Cx}
def N7(f:FD):FD:=fun δ=>(f δ).bind fun d=>match d with | .int i=> .ok (.int (-i - 1)) | _=> .no
theorem JP(h:QD X a f):QD X (.UnaryOp .Invert a pos) (N7 f):=⟨(LR MJ h.1).imp fun σ H Q ⟨Z,B,δ,d,E,hf,q⟩=>by
 obtain⟨d1,h1,h2⟩:=R.ak hf
 match d1,h1,h2 with
 | .int i,h1,h2=>
   cases h2;exact⟨Z,B,δ, .int i,E,h1,fun v H1 s1 r1=>⟨i,Rep.int.mp r1,q _ H1 s1 (Rep.int.mpr rfl)⟩⟩
 | .cK,_,h2=>cases h2
 | .bl _,_,h2=>cases h2
 | .str _,_,h2=>cases h2
 | .lst _,_,h2=>cases h2
 | .tup _,_,h2=>cases h2
 | .dct _ _,_,h2=>cases h2⟩
def R5(d:D)(lo hi:Option Int):R D:=match d with
 | .tup ds=>R.bX (decide (¬(HT.iA ds.length 0 lo=0/\HT.iA ds.length ds.length hi=ds.length))) (.ok (.tup (cutD ds lo hi)))
 | _=> .no
def KN(f:FD)(fl fh:FO):FD:=fun δ=>(f δ).bind fun d=>(fl δ).bind fun lo=>(fh δ).bind fun hi=>R5 d lo hi
theorem JC{lo hi:Option Expr}{fl fh:FO}(he:QD X e f)(hl:QP X lo fl)(hh:QP X hi fh):QD X (.Subscript e (.Slice lo hi none p2) pos) (KN f fl fh):=by
 refine⟨(Al N2 he.1 hl.1 hh.1).imp fun σ H Q ⟨Z,B,δ,d,E,hf,q⟩=>?_⟩
 obtain⟨d1,h1,h2⟩:=R.ak hf;obtain⟨l,h3,h4⟩:=R.ak h2;obtain⟨h,h5,h6⟩:=R.ak h4;refine⟨Z,B,δ,d1,E,h1,fun v1 H1 s1 r1=>⟨Z,B,δ,l,E.same s1,h3,fun H2 s2=>⟨Z,B,δ,h,(E.same s1).same s2,h5,fun H3 s3=>?_⟩⟩⟩
 have sA:bg H H3:=s1.trans (s2.trans s3);have r6:=r1.same (s2.trans s3);unfold R5 at h6;split at h6
 .obtain⟨hz,h7⟩:=R.bp h6;cases h7;obtain⟨a,xs,rfl,ls,rs⟩:=Rep.tup.mp r6;have hz:=of_decide_eq_true hz;rw[rs.length] at hz;refine⟨a,xs,rfl,ls.sq,hz,fun p hp=>q _ _ (sA.trans (aP hp)) (Rep.tup.mpr ⟨p,_,rfl, .inl ⟨fun ha=>?_,?_⟩,(zT rs l h).same (aP hp)⟩)⟩
  .obtain⟨o,ho⟩:=(E.same sA).bs p ha;rw[hp] at ho;cases ho
  .exact .of aV
 .cases h6
end
end L2
namespace L3
open PySem PySem.Spec PyProof.Rows L2
section
variable {X:Cx} {cl:Nat->Addr}
structure Rt (X:Cx) (cl:Nat->Addr) (st:List Stmt) (F:FZ):Prop where
 go:y7 X st (fun D σ H=>D.ct=D.nx/\sX X.K cl F D σ H)
theorem NG{st:List Stmt}(h:EL X cl st F):Rt X cl st F:=⟨h.1.imp fun D σ H z=>z.2⟩
theorem GN{rest:List Stmt}(hc:D4 X cl c fc)(h2:Rt X cl rest G):Rt X cl (.If c [.Continue Ul] [] pos ::rest) (n9 fc gy G):=
 ⟨(vG (GH hc.1 (yX AY) zh) h2.1).imp fun D σ H ⟨ec,ρ,S,δ,o,S',E,hf,q⟩=>by
   obtain⟨k,S1,h1,h2⟩:=R3.ak hf;refine⟨ρ,S,δ,k,S1,E,h1,fun bY H1 p1 w1=>?_⟩
   cases k with
   | true=>
     rw[if_pos rfl] at h2;cases h2;refine FU ?_;show D.ct σ H1;rw[ec];exact q σ bY H1 p1 (E.to p1 w1)
   | false=>rw [if_neg (by decide)] at h2;exact Fi ⟨ec,bY,S1,δ,o,S',E.to p1 w1,h2,q.pre p1⟩⟩
theorem K0{tg iter:Expr}{body:List Stmt}{it:FA}{t:FG}{F:FZ}{pos:Pos}(hp:PassesOwn (model X.prog X.w) X.A X.env X.xe)(hc:X.calm=true)(hi:L7 X cl tg iter it)(hg:LF X cl tg t)(hb:Rt X cl body F)
 (hs:∀x,foldedSetIterable iter X.env x=pure x:=by intro _;rfl):PZ X cl (.For tg iter body [] pos) (iC it t F):=⟨(CJ hp hc hi.1 hg.1 hb.1 hs).imp fun D σ H ⟨ρ,S,δ,o,S',E,hf,q⟩=>by
 obtain⟨ds,S0,h1,h2⟩:=R3.ak hf;refine⟨ρ,S,δ,ds,S0,E,h1,fun J bY H1 p1 w1 ir=>?_⟩
 refine⟨fun i m c0 H'=>m=ds.length - i/\i<=ds.length/\∃cV S1 eg,Pre bY H1 cV H'/\fN X.K cl cV H' S1 c0 eg/\jU t F (ds.drop i) eg S1= .ok o S',⟨ds.length,rfl,Nat.zero_le _,bY,S0,δ,Pre.refl bY H1,E.to p1 w1,by simpa using h2⟩,?_⟩
 rintro i m c0 H' ⟨rfl,hi,cV,S1,eg,pv,E',hl⟩;obtain⟨go,stop⟩:=ir cV H' pv.pw E'.sw.bs;by_cases hlt:i < ds.length
 .have hd:ds[i]? =some ds[i]:=List.getElem?_eq_getElem hlt;have hdrop:ds.drop i=ds[i] ::ds.drop (i+1):=List.drop_eq_getElem_cons hlt;rw[hdrop] at hl;unfold jU at hl;split at hl
  .cases hl
  .rename_i δ1 h3;obtain⟨o1,S2,h5,h6⟩:=R3.ak hl;obtain⟨g1,g2⟩:=go i _ hd;refine .inr ⟨g1,fun xl H2=>∃n5 S2 du,Pre bY H1 n5 H2/\fN X.K cl n5 H2 S2 xl du/\jU t F (ds.drop (i+1)) du S2= .ok o S',fun xl H2 n=>⟨ds.length - (i+1),by omega,rfl,hlt,n⟩,fun x n_ y=>?_⟩
   obtain⟨ss,rr⟩:=g2 x n_ y;refine⟨cV,S1,eg,ds[i],δ1,E'.same ss,rr,h3,fun xl H2 s2 E2=>⟨rfl,cV,S1,δ1,o1,S2,E2,h5,?_⟩⟩
   have pv2:Pre bY H1 cV H2:=pv.trans (Pre.same (ss.trans s2));cases o1 with
   | nx du=>exact fun Bo zH H3 p3 E3=>⟨zH,S2,du,pv2.trans p3,E3,h6⟩
   | rt d=>
     cases h6;exact fun v zH H3 p3 w r=>q v zH H3 (p1.trans (pv2.trans p3)) w r
 .have e:i=ds.length:=by omega
  subst e;rw[List.drop_length] at hl;cases hl;exact .inl ⟨stop,q c0 cV H' (p1.trans pv) E'⟩⟩
end
end L3
end
section
namespace L2
open PySem PySem.Spec PyProof.Rows
end L2
namespace L3
open PySem PySem.Spec PyProof.Rows L2
section
variable {X:Cx} {cl:Nat->Addr}
def Wb(i:Nat)(f:FX):FX:=fun δ S=>match mP δ i with
 | none=> .no
 | some k=>match dh S k with
   | none=> .no
   | some _=>(f δ S).bind fun v S1=>match v with
     | .d (.int j)=>(match dh S1 k with
       | some ds=>(match Bw ds.length j with
         | some p=>(match ds[p]? with | some d=>R3.bX (decide (-(2 ^ 63)<=j/\j < 2 ^ 63)) (.ok (.d d) (S1.set k (.lst (ds.eraseIdx p)))) | none=> .no)
         | none=> .no)
       | none=> .no)
     | _=> .no
end
end L3
end
section
namespace L3
open PySem PySem.Spec PyProof.Rows L2
section
variable {X:Cx} {cl:Nat->Addr}
def V5(f:FX)(fl fh:O1):FX:=fun δ S=>(f δ S).bind fun v S1=>(fl δ S1).bind fun lo S2=>(fh δ S2).bind fun hi S3=>match v with
 | .lst vs=> .ok (.lst (L2.cutD vs lo hi)) S3
 | _=> .no
end
end L3
end
section
namespace L2
open PySem PySem.Spec PyProof.Rows
section
variable {X:Cx}
theorem KO{n:Int}{v:Value}(h:(cW P w).is (.inl n) v=true):∃t,v= .int n t:=by
 have h:wo (.inl n) v=true:=h;rcases dk h with⟨i,t,e1,e2⟩ | ⟨x,t,e1,_⟩
 .cases e1;exact⟨t,e2⟩
 .cases e1
theorem Am:∀{ns:List Int} {us:List Value},us.length=ns.length->(∀(j:Nat) (v:Value) (n:Int),us[j]? =some v->ns[j]? =some n->∃t,v=Value.int n t)->Vals (ns.map V.int) us
 | [],[],_,_=> .nil
 | [],_ ::_,h,_=>by simp at h
 | _ ::_,[],h,_=>by simp at h
 | n ::ns,u ::us,h,hv=> .cons (hv 0 u n rfl rfl) (Am (by simpa using h) fun j v m h1 h2=>hv (j+1) v m h1 h2)
theorem IY{κ:Type}:∀{kvs:List (κ × V)} {vs:List (κ × Value)},KV kvs vs->vs.map (·.1)=kvs.map (·.1)
 | [],_, .nil=>rfl
 | _ ::_,_, .cons h t=>by rw[List.map_cons,List.map_cons,IY t,h.1]
theorem gather{P:Program}{w:World}{B:Around}{E:Value->Shared->Prop}{z:Shared}{ty:String}{src own:Addr}{len:Nat}{it:Nat->Value->Prop}{ok:Heap->Prop}{Y:List Value->Shared->Prop}(G:PySem.W.KdlSrc P w ty src own len it ok)(nh:B.handled=none)(o0:ok z.heap)(few:len<=sizeLine)
 (fin:∀(g:Heap) (tk:Nat) (xs:Array Value),z.heap.objs.size < g.objs.size->(∀b o,z.heap.get? b=some o->g.get? b=some o)->ItemsOf it xs len->Y xs.toList {z with heap:=g,toks:=tk}):wpAny (model P w) B (collect (.ref src)) Y E z:=by
 obtain⟨l1,l2⟩:=G.there _ o0
 let z1:Shared:={z with heap:=z.heap.push {cls:= .type "list",data:= .seq ([]:List Value).toArray}}
 let Fn:Result->Shared->Prop:=fun q y=>∃g tk xs c,q= .ok (.ret (.ref z.heap.objs.size))/\y={z with heap:=g,toks:=tk}/\(∀b o,z.heap.get? b=some o->g.get? b=some o)/\g.get? z.heap.objs.size=some {cls:= .type "list",dict:=none,data:= .seq xs c,slots:=#[]}/\ItemsOf it xs len
 have mid:wpAny (model P w) B.in1 (Builtin.List.listExtendWith (.ref z.heap.objs.size) (.ref src) (.ref z.heap.objs.size)) (fun q y=>match q with | .done f=>Fn (.ok f) y | .again c=>c.quiet=true/\codeAny (model P w) B c Fn y) (fun e y=>Fn (.error e) y) z1:=
  PySem.W.kdl_extend (s:=z1) (R:=Fn) G nh (G.keep _ _ o0 fun b _ o e=>Heap.get?_push_of_some _ e) _ (Nat.ne_of_gt l1) (Nat.ne_of_gt l2) _ 0 (Heap.get?_push_size _ rfl)
   (fun g tk xs c hk hg hi=>⟨g,tk,xs,c,rfl,rfl,fun b o e=>hk b o (Nat.ne_of_lt (Heap.lt_size e)) (Heap.get?_push_of_some _ e),hg,hi⟩) few
 have out:∀q y,Fn q y->q= .ok (.ret (.ref z.heap.objs.size))/\∃g tk xs c,y={z with heap:=g,toks:=tk}/\g.get? z.heap.objs.size=some {cls:= .type "list",dict:=none,data:= .seq xs c,slots:=#[]}/\Y xs.toList {z with heap:=g,toks:=tk}:=fun q y ⟨g,tk,xs,c,e1,e2,hk,hg,hi⟩=>⟨e1,g,tk,xs,c,e2,hg,fin g tk xs (Heap.lt_size hg) hk hi⟩
 unfold collect;refine wpAny_bind (wpAny_runValue (codeAny_builtin entry_proto_collect' ?_));rw[Around.under_plainId PySem.F.plain_proto_collect _];refine wpAny_bind (m:=newList []) (wpAny_newObj_type (wpAny_pure ⟨plainId_quiet PySem.F.plain_list_iadd _,codeAny_builtin entry_list_iadd' ?_⟩));rw[Around.under_plainId PySem.F.plain_list_iadd _];refine wpAny_mono mid (fun q y hq=>?_) fun e y he=>?_
 .cases q with
  | done f=>
    obtain⟨e1,g,tk,xs,c,rfl,hg,hy⟩:=out _ _ hq;cases e1;exact wpAny_bind (wpAny_load hg (wpAny_pure hy))
  | again c=>
    refine⟨hq.1,codeAny_mono hq.2 fun q y hq=>?_⟩
    obtain⟨rfl,g,tk,xs,c,rfl,hg,hy⟩:=out _ _ hq;exact wpAny_bind (wpAny_load hg (wpAny_pure hy))
 .obtain⟨e1,_⟩:=out _ _ he;cases e1
def M3:List V->Hp->VK->Prop:=fun xs H Q=>∃a kvs ns,xs=[V.ref a]/\H a=some (.dK kvs)/\kvs.map (·.1)=ns.map Sum.inl/\ns.length < 64/\∀p,H p=none->Q (.ref p) (upd H p (.lst ((uq ns).map V.int)))
theorem CK(hc:X.calm=true):p9 X (.builtin "sorted") M3:=by
 intro pins s σ H xs us Q I r h;obtain⟨a,kvs,ns,rfl,e,hk,YR,q⟩:=h;obtain⟨u,rfl,ru⟩:=vals1 r;cases ru;obtain⟨hz,lo,vs,rel,dd⟩:=Iu I.hok e;obtain⟨ep,hat⟩:=dd.dictAt;have Ml:=IY rel;rw[hk] at Ml;have hvl:vs.length=ns.length:=by
  have h2:=congrArg List.length Ml;rw[List.length_map,List.length_map] at h2;exact h2
 have hzz:sizeLine=16777216:=sizeLine_eq;refine Calls.call_function_entry kind_sorted plain_sorted entry_sorted (args_sorted1 _) ?_;unfold Builtin.«sorted»;refine wpAny_bind (m:=checkCount "sorted" 1 1 _) (wpAny_pure ?_);refine wpAny_bind (gather (PySem.W.kdl_dict (knd:=cW X.prog X.w) (kvs:=vs) (ep:=ep) lo) (I.ok.hd hc) hat (by omega) fun h' tk acc T7 Jb Rm=>?_)
 have hal:acc.toList.length=ns.length:=by rw[Array.length_toList];exact Rm.1.trans hvl
 have hI:IntsAre acc.toList ns:=by
  refine AG (Am hal fun j v n h1 h2=>?_)
  obtain⟨k,x,h3,h4⟩:=Rm.2 j v (by rw[<-Array.getElem?_toList];exact h1)
  have h5:(vs.map (·.1))[j]? =some k:=by rw[List.getElem?_map,h3];rfl
  rw[Ml,List.getElem?_map,h2] at h5;have h6:(Sum.inl n:Key)=k:=Option.some.inj h5;rw[<-h6] at h4;exact KO h4
 refine wpAny_bind (wpAny_newList ?_ (by rw[hal];omega))
 have hoL:(h'.push (seqObj "list" acc.toList.toArray 0)).get? h'.objs.size=some (seqObj "list" acc.toList.toArray 0):=Heap.get?_push_size _ rfl;show wpAny _ _ _ _ _ {s with heap:=h'.push (seqObj "list" acc.toList.toArray 0),toks:=tk}
 refine wpAny_bind (wpAny_holding (wpAny_call_entry slot_list_sort ⟨_,hoL,rfl⟩ entry_list_sort (list_sort_tree hoL hI (by omega) fun out YW a1 a2 a3=>⟨_,rfl,?_⟩) (args_list_sort _)))
 refine wpAny_pure ⟨_,rfl,?_⟩;have hs:=AK a2 a3;subst hs;have RV:=IP a1;have hle:((uq ns).map V.int).length<=sizeLine:=by
  have h1:=a2.length_eq;rw[List.length_map];omega
 obtain⟨Q8,UE⟩:=sortedHeap_at (out:=out) hoL;have hbig:s.heap.objs.size<=h'.objs.size:=Nat.le_of_lt T7;have hn:H h'.objs.size=none:=I.hok.fresh hbig;have I2:=I.laid (a:=h'.objs.size) (o:= .lst ((uq ns).map V.int)) (h':=sortedHeap (h'.push (seqObj "list" acc.toList.toArray 0)) h'.objs.size acc.toList out) (t':=tk) (fun b o hb=>by
  have hlt:=Heap.lt_size (Jb b o hb);rw[sortedHeap_old (Nat.ne_of_lt hlt) (by rw[size_push'];exact Nat.lt_succ_of_lt hlt)]
  exact Heap.get?_push_of_some _ (Jb b o hb)) hbig (show dQ X.prog X.w _ _ _ (.lst _) from⟨hle,out.toList,Q8,RV,by simpa [seqObj] using UE⟩)
 exact⟨.ref h'.objs.size,_,I2,rfl,q _ hn⟩
end
end L2
end
section
namespace L3
open PySem PySem.Spec PyProof.Rows L2
section
variable {X:Cx} {cl:Nat->Addr}
def Bh(kvs:List (Key × D))(k:Key)(d:D):List (Key × D):=if(kvs.any fun kv=>decide (kv.1=k))=true then kvs.map (fun kv=>if kv.1=k then(kv.1,d) else kv) else kvs++[(k,d)]
def oF(S:aH)(k:Nat):Option (List (Key × D)):=match S[k]? with | some (.dct kvs)=>some kvs | _=>none
theorem nE{S:aH}{k:Nat}{kvs:List (Key × D)}(h:oF S k=some kvs):S[k]? =some (.dct kvs):=by
 unfold oF at h;split at h
 .rename_i e;cases h;exact e
 .cases h
theorem zc{α β:Type}(k:Key):∀{a:List (Key × α)} {b:List (Key × β)},a.map (·.1)=b.map (·.1)->(a.any fun kv=>decide (kv.1=k))=b.any fun kv=>decide (kv.1=k)
 | [],[],_=>rfl
 | [],_ ::_,h=>by simp at h
 | _ ::_,[],h=>by simp at h
 | x ::a,y ::b,h=>by
   rw[List.map_cons,List.map_cons] at h;obtain⟨h1,h2⟩:=List.cons.inj h;rw[List.any_cons,List.any_cons,zc k h2,h1]
theorem D5{K:W.Frag}{B:List Addr}{k:Key}{d:D}{v:V}(rv:Rep K B H d v):∀{kvs:List (Key × D)} {ys:List (Key × V)},ys.map (·.1)=kvs.map (·.1)->aG K B H (kvs.map (·.2)) (ys.map (·.2))->
 (ys.map fun kv=>if kv.1=k then(kv.1,v) else kv).map (·.1)=(kvs.map fun kv=>if kv.1=k then(kv.1,d) else kv).map (·.1)/\aG K B H ((kvs.map fun kv=>if kv.1=k then(kv.1,d) else kv).map (·.2)) ((ys.map fun kv=>if kv.1=k then(kv.1,v) else kv).map (·.2))
 | [],[],_,_=>⟨rfl,aG.nil⟩
 | [],_ ::_,h,_=>by simp at h
 | _ ::_,[],h,_=>by simp at h
 | (k1,d1) ::kvs,(k2,v2) ::ys,h,r=>by
   obtain⟨h1,h2⟩:=List.cons.inj h;have h1:k2=k1:=h1;subst h1;obtain⟨x,r',e,q1,q2⟩:=aG.cx r;cases e;obtain⟨i1,i2⟩:=D5 rv h2 q2;simp only[List.map_cons];by_cases hk:k2=k
   .rw [if_pos hk,if_pos hk];exact⟨by rw[i1],aG.cons rv i2⟩
   .rw [if_neg hk,if_neg hk];exact⟨by rw[i1],aG.cons q1 i2⟩
theorem P2{K:W.Frag}{B:List Addr}{k:Key}{d:D}{v:V}(rv:Rep K B H d v){kvs:List (Key × D)}{ys:List (Key × V)}(h:ys.map (·.1)=kvs.map (·.1))(r:aG K B H (kvs.map (·.2)) (ys.map (·.2))) :
 (putK ys k v).map (·.1)=(Bh kvs k d).map (·.1)/\aG K B H ((Bh kvs k d).map (·.2)) ((putK ys k v).map (·.2)):=by
 unfold putK Bh;rw[zc k h];split
 .exact D5 rv h r
 .rw [List.map_append,List.map_append,List.map_append,List.map_append,h];exact⟨rfl,r.append (aG.cons rv aG.nil)⟩
def Dv:FX:=fun δ S=> .ok (.loc S.length) (S++[.dct []])
theorem Dj:PX X cl (.Dict [] [] pos) Dv:=⟨HE.imp fun σ H Q ⟨ρ,S,δ,v,S',E,hf,q⟩=>by
 cases hf;intro p hp;obtain⟨w,pr⟩:=E.sw.new (a:=p) (o:= .dct []) (aP (o:= .dK []) hp) hp ⟨[],aV,rfl,aG.nil⟩;exact q _ _ _ pr w (by unfold bh;exact⟨p,by show(ρ.r++[p])[_]? =_;rw [<-E.sw.len,List.getElem?_append_right (by omega),Nat.sub_self];rfl,rfl⟩)⟩
def D8(fo fi fe:FX):FZ:=fun δ S=>(fe δ S).bind fun v S1=>(fo δ S1).bind fun o S2=>(fi δ S2).bind fun j S3=>match v,o,j with
 | .d d, .loc k, .d (.int n)=>(match oF S3 k with | some kvs=>R3.bX (decide (kvs.length < sizeLine)) (.ok (.nx δ) (S3.set k (.dct (Bh kvs (Sum.inl n) d)))) | none=> .no)
 | _,_,_=> .no
theorem DB{pos pos':Pos}(hu:X.A.units+1 < cLine)(hv:PX X cl value fe)(ho:PX X cl o fo)(hi:PX X cl i fi)(hs:swapsWith value (some (.Subscript o i pos')) pos.line X.env=pure false:=by rfl):PZ X cl (.Assign [.Subscript o i pos'] value pos) (D8 fo fi fe):=
 ⟨(KR hu ho.1 hi.1 hv.1 hs).imp fun D σ H ⟨ρ,S,δ,ou,S',E,hf,q⟩=>by
   obtain⟨v,S1,h1,h2⟩:=R3.ak hf;obtain⟨o,S2,h3,h4⟩:=R3.ak h2;obtain⟨j,S3,h5,h6⟩:=R3.ak h4;refine⟨ρ,S,δ,v,S1,E,h1,fun u1 bY H1 p1 w1 r1=>⟨bY,S1,δ,o,S2,E.to p1 w1,h3,fun u2 n5 H2 p2 w2 r2=>⟨n5,S2,δ,j,S3,(E.to p1 w1).to p2 w2,h5,fun u3 zH H3 p3 w3 r3=>?_⟩⟩⟩
   split at h6
   .rename_i d k n;split at h6
    .rename_i kvs hd;obtain⟨hl,h7⟩:=R3.bp h6;cases h7;have r2':=r2.pre p3;unfold bh at r2';obtain⟨a,a1,rfl⟩:=r2';unfold bh Rep at r3;subst r3;obtain⟨ys,y1,y2,y3⟩:=w3.ob k a _ a1 (nE hd);have r6:=(r1.pre p2).pre p3;unfold bh at r6;obtain⟨e1,eW⟩:=P2 (k:=Sum.inl n) r6 y2 y3;have Ph:ys.length=kvs.length:=by have:=congrArg List.length y2;simpa using this
     refine⟨a,_,rfl,E9.k (k:=Sum.inl n) y1 (by rw[Ph];exact of_decide_eq_true hl),?_⟩
     obtain⟨w4,p4⟩:=w3.put (o:= .dct (Bh kvs (Sum.inl n) d)) (u:= .dK (putK ys (Sum.inl n) u1)) a1 (w3.fz k a a1 (by rw[nE hd];intro h;cases h)) ⟨_,rfl,e1,eW⟩
     exact q σ zH _ (p1.trans (p2.trans (p3.trans p4))) (E.to (p1.trans (p2.trans (p3.trans p4))) w4)
    .cases h6
   .cases h6⟩
def NN(fa fo:FX):FX:=fun δ S=>(fa δ S).bind fun j S1=>(fo δ S1).bind fun o S2=>match j,o with
 | .d (.int n), .loc k=>(match oF S2 k with | some kvs=> .ok (.d (.bl (kvs.any fun kv=>decide (kv.1=Sum.inl n)))) S2 | none=> .no)
 | _,_=> .no
theorem JO{κ:Type} [DecidableEq κ](kvs:List (κ × V))(k:κ):(lM kvs k).isSome=kvs.any fun kv=>decide (kv.1=k):=by
 unfold lM;rw[Option.isSome_map,Bool.eq_iff_iff,List.find?_isSome,List.any_eq_true]
theorem Ol(hu:X.A.units+1 < cLine)(ha:PX X cl a fa)(hb:PX X cl b fb)(hm:behindInMarks .In b=false):PX X cl (.Compare a [.In] [b] pos) (NN fa fb):=
 ⟨(Nr (M_ hu ha.1 hb.1) hm).imp fun σ H Q ⟨ρ,S,δ,v,S',E,hf,q⟩=>by
   obtain⟨j,S1,h1,h2⟩:=R3.ak hf;obtain⟨o,S2,h3,h4⟩:=R3.ak h2;refine⟨ρ,S,δ,j,S1,E,h1,fun u1 bY H1 p1 w1 r1=>⟨bY,S1,δ,o,S2,E.to p1 w1,h3,fun u2 n5 H2 p2 w2 r2=>?_⟩⟩
   split at h4
   .rename_i n k;split at h4
    .rename_i kvs hd;cases h4;unfold bh at r2;obtain⟨ad,a1,rfl⟩:=r2;unfold bh Rep at r1;subst r1;obtain⟨ys,y1,y2,y3⟩:=w2.ob k ad _ a1 (nE hd);refine⟨ad,lM ys (Sum.inl n),rfl,uC.k (k:=Sum.inl n) y1,?_⟩;refine q _ n5 H2 (p1.trans p2) w2 ?_;unfold bh Rep;rw[JO,zc (Sum.inl n) y2]
    .cases h4
   .cases h4⟩
def intK?:List Key->Option (List Int)
 | []=>some []
 | .inl n ::ks=>(intK? ks).map (n ::·)
 | .inr _ ::_=>none
theorem zS:∀{ks:List Key} {ns:List Int},intK? ks=some ns->ks=ns.map Sum.inl
 | [],ns,h=>by cases h;rfl
 | .inl n ::ks,ns,h=>by
   obtain⟨ms,h1,rfl⟩:=pG (show(intK? ks).map (n ::·)=some ns from h)
   rw[List.map_cons,<-zS h1]
 | .inr x ::ks,ns,h=>by cases h
theorem Dt:∀ns:List Int,intK? (ns.map Sum.inl)=some ns
 | []=>rfl
 | n ::ns=>by show(intK? (ns.map Sum.inl)).map (n ::·)=_;rw [Dt ns];rfl
def Cu(f:FX):FX:=fun δ S=>(f δ S).bind fun o S1=>match o with
 | .loc k=>(match oF S1 k with
   | some kvs=>(match intK? (kvs.map (·.1)) with | some ns=>R3.bX (decide (ns.length < 64)) (.ok (.d (.lst ((uq ns).map .int))) S1) | none=> .no)
   | none=> .no)
 | _=> .no
theorem Hv{p pos:Pos}(hc:X.calm=true)(h:PX X cl e f)(hg:Gl X "sorted")(hm:X.mg "sorted"=none)(he:starEach [e] X.env=(false,eval e X.env) ::starEach [] X.env:=by rfl):PX X cl (.Call (.Name "sorted" p) [e] [] pos) (Cu f):=
 ⟨(rO (CK hc) hg hm PyProof.Rows.boot_sorted (dF h.1 gI he) (he:=he)).imp fun σ H Q ⟨ρ,S,δ,v,S',E,hf,q⟩=>by
   obtain⟨o,S1,h1,h2⟩:=R3.ak hf;refine⟨ρ,S,δ,o,S1,E,h1,fun u1 bY H1 p1 w1 r1=>?_⟩
   split at h2
   .rename_i k;split at h2
    .rename_i kvs hd;split at h2
     .rename_i ns hn;obtain⟨hl,h3⟩:=R3.bp h2;cases h3;unfold bh at r1;obtain⟨a,a1,rfl⟩:=r1;obtain⟨ys,y1,y2,y3⟩:=w1.ob k a _ a1 (nE hd);refine⟨a,ys,ns,rfl,y1,by rw[y2];exact zS hn,of_decide_eq_true hl,fun p hp=>q _ bY _ (p1.trans (rG hp)) (w1.same (aP hp)) ?_⟩
      unfold bh;refine Rep.lst.mpr ⟨p,_,rfl, .vj aV fun ha=>?_,ints_rep _⟩
      obtain⟨o,ho⟩:=w1.bs p ha;rw[hp] at ho;cases ho
     .cases h2
    .cases h2
   .cases h2⟩
theorem Ob{K:W.Frag}{k n:Nat}{f:Addr}{fd:FuncData}{ps:List Str}:jI P w K mg base xn k f fd ps (F8 K cl n fun _ _=> .no):=
 ⟨fun vs H Q E h=>(by obtain⟨_,_,_,_,_,_,_,_,h,_⟩:=h;cases h),fun A outer s H args us vs Q E _ _ _ _ h=>(by obtain⟨_,_,_,_,_,_,_,_,h,_⟩:=h;cases h)⟩
theorem GX{δ:DE}{S:aH}{QV:V3->aH->Prop}(h:QV (.loc S.length) (S++[.dct []])):W3 (Dv δ S) QV:=W3.ok h
theorem HQ{fo fi fe:FX}{δ:DE}{S:aH}{QO:Ou->aH->Prop}(h:W3 (fe δ S) fun v S1=>W3 (fo δ S1) fun o S2=>W3 (fi δ S2) fun j S3=>∃d k n kvs,v= .d d/\o= .loc k/\j= .d (.int n)/\S3[k]? =some (.dct kvs)/\kvs.length < sizeLine/\QO (.nx δ) (S3.set k (.dct (Bh kvs (Sum.inl n) d)))):W3 (D8 fo fi fe δ S) QO:=
 W3.bind (h.mono fun _ _ h=>W3.bind (h.mono fun _ _ h=>W3.bind (h.mono fun _ S3 ⟨d,k,n,kvs,e1,e2,e3,e4,hl,q⟩=>by
  subst e1 e2 e3;have e5:oF S3 k=some kvs:=by unfold oF;simp only[e4]
  simp only[e5];exact W3.wh (decide_eq_true hl) (W3.ok q))))
theorem QL{fa fb:FX}{δ:DE}{S:aH}{QV:V3->aH->Prop}(h:W3 (fa δ S) fun j S1=>W3 (fb δ S1) fun o S2=>∃n k kvs,j= .d (.int n)/\o= .loc k/\S2[k]? =some (.dct kvs)/\QV (.d (.bl (kvs.any fun kv=>decide (kv.1=Sum.inl n)))) S2):W3 (NN fa fb δ S) QV:=
 W3.bind (h.mono fun _ _ h=>W3.bind (h.mono fun _ S2 ⟨n,k,kvs,e1,e2,e3,q⟩=>by
  subst e1 e2;have e4:oF S2 k=some kvs:=by unfold oF;simp only[e3]
  simp only[e4];exact W3.ok q))
theorem JE{f:FX}{δ:DE}{S:aH}{QV:V3->aH->Prop}(h:W3 (f δ S) fun o S1=>∃k kvs ns,o= .loc k/\S1[k]? =some (.dct kvs)/\kvs.map (·.1)=ns.map Sum.inl/\ns.length < 64/\QV (.d (.lst ((uq ns).map .int))) S1):W3 (Cu f δ S) QV:=
 W3.bind (h.mono fun _ S1 ⟨k,kvs,ns,e1,e2,e3,hl,q⟩=>by
  subst e1;have e4:oF S1 k=some kvs:=by unfold oF;simp only[e2]
  simp only[e4,e3,Dt];exact W3.wh (decide_eq_true hl) (W3.ok q))
end
end L3
end
section
namespace NT
def mx(f:Nat->Nat)(w:List Nat):Nat:=(w.map f).foldl max 0
structure BA (f:Nat->Nat) (M:Nat) (bs:List Int):Prop where
 a:∀(z:Nat) (v:Int),bs[z]? =some v->v= -1\/(0<=v/\v+f z<=M)
def BB(f:Nat->Nat)(M:Nat)(bs:List Int)(n:Nat):Prop:=∃(z:Nat) (v:Int),z < n/\bs[z]? =some v/\0<=v/\(M:Int)<=v+f z
def Up(bs VE:List Int):Prop:=VE.length=bs.length/\∀(z:Nat) (v:Int),bs[z]? =some v->∃v',VE[z]? =some v'/\v<=v'
end NT
namespace NT
open PySem PySem.Spec PyProof.Rows L2 L3
structure Gt where
 k:Str
 w:List Nat
 s:Bool
def nN(z:Nat):D:= .int z
def wN(w:List Nat):D:= .tup (w.map nN)
def gN(g:Gt):D:= .tup [.str g.k,wN g.w, .bl g.s]
def iN(x:Str × Nat):D:= .tup [.str x.1, .int x.2]
def oN(x:Str × List Nat):D:= .tup [.str x.1,wN x.2]
structure Net where
 i:List (Str × Nat)
 g:List Gt
 o:List (Str × List Nat)
def Net.d(n:Net):D:= .tup [.lst (n.i.map iN), .lst (n.g.map gN), .lst (n.o.map oN)]
def Net.first(n:Net):Nat:=(n.i.map (·.2)).sum
structure UU (n:Nat) (w:List Nat):Prop where
 ne:w≠[]
 le:w.length<=3
 lt:∀z∈w,z < n
structure Net.Ok (n:Net):Prop where
 i1:1<=n.i.length
 i6:n.i.length<=6
 iw:∀x∈n.i,1<=x.2/\x.2<=3
 is:∀x∈n.i,eu 0 (.str x.1)
 g60:n.g.length<=60
 gw:∀(p:Nat) (g:Gt),n.g[p]? =some g->UU (n.first+p) g.w
 gs:∀g∈n.g,eu 0 (.str g.k)
 o1:1<=n.o.length
 o6:n.o.length<=6
 ow:∀x∈n.o,UU (n.first+n.g.length) x.2
 os:∀x∈n.o,eu 0 (.str x.1)
theorem Hd:∀{l:List (Str × Nat)},(∀x∈l,1<=x.2/\x.2<=3)->l.length<=(l.map (·.2)).sum/\(l.map (·.2)).sum<=3*l.length
 | [],_=>by simp
 | x ::l,h=>by
   have ih:=Hd (l:=l) fun y hy=>h y (List.mem_cons_of_mem _ hy)
   have:=h x List.mem_cons_self;rw[List.map_cons,List.sum_cons,List.length_cons];omega
theorem eq_self{n:Nat}{ds:List D}(h:eu n (.tup ds))(hn:n<=64):jm (.tup ds) (.tup ds)= .ok (.bl true):=by unfold jm;rw [h.eqT hn];rfl
inductive Sm:Nat->D->Prop where
 | int (n:Nat) (i:Int):Sm n (.int i)
 | bl (n:Nat) (b:Bool):Sm n (.bl b)
 | str (n:Nat) (s:Str):Sm n (.str s)
 | lst {n:Nat} {ds:List D} (h:∀d∈ds,Sm n d) (hl:ds.length<=1000000):Sm (n+1) (.lst ds)
 | tup {n:Nat} {ds:List D} (h:∀d∈ds,Sm n d) (hl:ds.length<=1000000):Sm (n+1) (.tup ds)
theorem pF{F G:FS}{δ:aw}{d:D}(h:F δ= .ok (.rt d)):iV F G δ= .ok (.rt d):=by unfold iV;rw [h];rfl
theorem nG{m i:Nat}{v:V3}(h:((eY 0 m).map V3.d)[i]? =some v):i < m/\v= .d (.int i):=by
 rw[List.getElem?_map,eY,List.getElem?_map] at h;cases q:(List.range m)[i]? with
 | none=>rw [q] at h;cases h
 | some j=>
   rw[q] at h;cases h;obtain⟨q1,q2⟩:=List.getElem?_eq_some_iff.mp q;rw[List.getElem_range] at q2;rw[List.length_range] at q1;subst q2;exact⟨q1,by simp⟩
theorem Ef(lo:Int)(m:Nat):(eY lo m).length=m:=by rw[eY,List.length_map,List.length_range]
theorem kz(lo:Int)(m:Nat):((eY lo m).map V3.d).length=m:=by rw[List.length_map,Ef]
theorem f6{α:Type}{l:List α}{f:α->D}{i:Nat}{v:V3}(h:((l.map f).map V3.d)[i]? =some v):∃x,l[i]? =some x/\v= .d (f x):=by
 rw[List.getElem?_map,List.getElem?_map] at h;cases q:l[i]? with
 | none=>rw [q] at h;cases h
 | some x=>rw [q] at h;cases h;exact⟨x,rfl,rfl⟩
theorem pB{α:Type}{l:List α}{f:α->D}{i:Nat}{v:D}(h:(l.map f)[i]? =some v):∃x,l[i]? =some x/\v=f x:=by
 rw[List.getElem?_map] at h;cases q:l[i]? with
 | none=>rw [q] at h;cases h
 | some x=>rw [q] at h;cases h;exact⟨x,rfl,rfl⟩
theorem er{α:Type}{t:FT}{c:aw->R Bool}{f:FD}{δ:aw}(a b:α->D):∀{xs:List α},(∀x∈xs,∃δ1,t (a x) δ= .ok δ1/\c δ1= .ok true/\f δ1= .ok (b x))->rC t c f δ (xs.map a)= .ok (xs.map b)
 | [],_=>rfl
 | x ::xs,h=>by
   obtain⟨δ1,h1,h2,h3⟩:=h x List.mem_cons_self;have ih:=er (t:=t) (c:=c) (f:=f) (δ:=δ) a b (xs:=xs) fun y hy=>h y (List.mem_cons_of_mem _ hy)
   rw[List.map_cons];unfold rC;rw[h1,R.bj,h2,R.bj,if_pos rfl,h3,R.bj,ih];rfl
theorem dN{α:Type}{t:FT}{c:aw->R Bool}{f:FD}{δ:aw}(p:α->Bool)(a b:α->D):∀{xs:List α},(∀x∈xs,∃δ1,t (a x) δ= .ok δ1/\c δ1= .ok (p x)/\(p x=true->f δ1= .ok (b x)))->rC t c f δ (xs.map a)= .ok ((xs.filter p).map b)
 | [],_=>rfl
 | x ::xs,h=>by
   obtain⟨δ1,h1,h2,h3⟩:=h x List.mem_cons_self;have ih:=dN (t:=t) (c:=c) (f:=f) (δ:=δ) p a b (xs:=xs) fun y hy=>h y (List.mem_cons_of_mem _ hy)
   rw[List.map_cons];unfold rC;rw[h1,R.bj,h2,R.bj];cases e:p x with
   | true=>rw [if_pos rfl,h3 e,R.bj,ih,List.filter_cons,if_pos e];rfl
   | false=>rw [if_neg (by decide),ih,List.filter_cons,if_neg (by rw[e];decide)]
theorem Ln{n z:Nat}(h:z < n):Bw n (z:Int)=some z:=by
 unfold Bw;rw[if_pos (by omega),if_pos (by omega)]
 simp
theorem G6{α:Type}{xs:List α}{z:Nat}{x:α}(h:xs[z]? =some x):sR xs (z:Int)=some x:=by
 have hl:=(List.getElem?_eq_some_iff.mp h).1;unfold sR;rw[Ln hl];exact h
theorem lC{ds:List D}{z:Nat}{x:D}(h:ds[z]? =some x):cb (.lst ds) (.int z)= .ok x:=wy (G6 h)
end NT
end
section
namespace MT
open PySem PySem.Spec PyProof.Rows L2 L3
abbrev M:=Nat->Bool
theorem QS{N:List Str}{F:FZ}{vs:List V3}{δ:DE}{S:aH}{QV:V3->aH->Prop}(e:cv N vs=δ)(h:W3 (F δ S) fun o S1=>∃eg,o= .nx eg/\QV (.d .cK) S1):W3 (n4 N F vs S) QV:=by
 subst e;exact W3.bind (h.mono fun _ _ ⟨_,e,q⟩=>by subst e;exact W3.ok q)
def eJ:Nat->M->Nat
 | 0,_=>0
 | N+1,f=>(if f 0 then 1 else 0)+2*eJ N (fun i=>f (i+1))
theorem jW:∀(N:Nat) (f:M) (i:Nat),(eJ N f).testBit i=(decide (i < N) && f i)
 | 0,f,i=>by unfold eJ;simp
 | N+1,f,0=>by
   unfold eJ;rw[Nat.testBit_zero];cases f 0 <;> simp <;> omega
 | N+1,f,i+1=>by
   unfold eJ;rw[Nat.testBit_succ];have:((if f 0=true then 1 else 0)+2*eJ N fun i=>f (i+1)) / 2=eJ N fun i=>f (i+1):=by split <;> omega
   rw[this,jW N _ i];simp
theorem pC:∀{N:Nat} {f g:M},(∀i,i < N->f i=g i)->eJ N f=eJ N g
 | 0,_,_,_=>rfl
 | N+1,f,g,h=>by
   unfold eJ;rw[h 0 (by omega),pC (N:=N) fun i hi=>h (i+1) (by omega)]
theorem zu(N:Nat)(f g:M):eJ N f &&& eJ N g=eJ N fun i=>f i && g i:=by
 refine Nat.eq_of_testBit_eq fun i=>?_
 rw[Nat.testBit_and,jW,jW,jW];cases decide (i < N) <;> simp
theorem IG(N:Nat)(f g:M):eJ N f ||| eJ N g=eJ N fun i=>f i || g i:=by
 refine Nat.eq_of_testBit_eq fun i=>?_
 rw[Nat.testBit_or,jW,jW,jW];cases decide (i < N) <;> simp
theorem En:∀(N:Nat) (f g:M),((eJ N fun i=>f i || g i:Nat):Int) - (eJ N fun i=>f i && g i:Nat)=(eJ N fun i=>f i !=g i:Nat)
 | 0,f,g=>rfl
 | N+1,f,g=>by
   have ih:=En N (fun i=>f (i+1)) (fun i=>g (i+1))
   have e:∀h:M,eJ (N+1) h=(if h 0 then 1 else 0)+2*eJ N (fun i=>h (i+1)):=fun _=>rfl
   rw[e,e,e];generalize eJ N (fun i=>f (i+1) || g (i+1))=a at ih ⊢
   generalize eJ N (fun i=>f (i+1) && g (i+1))=b at ih ⊢
   generalize eJ N (fun i=>f (i+1) !=g (i+1))=c at ih ⊢
   show(((if(f 0 || g 0) then 1 else 0)+2*a:Nat):Int) - ((if(f 0 && g 0) then 1 else 0)+2*b:Nat)=((if(f 0 !=g 0) then 1 else 0)+2*c:Nat)
   cases f 0 <;> cases g 0 <;> simp <;> omega
theorem vP(x y:Nat):Builtin.bitAnd (x:Int) (y:Int)=((x &&& y:Nat):Int):=by
 unfold Builtin.bitAnd;rw[decide_eq_true (by omega:(0:Int)<=x),decide_eq_true (by omega:(0:Int)<=y)]
 simp
theorem Ek(x y:Nat):Builtin.bitOr (x:Int) (y:Int)=((x ||| y:Nat):Int):=by
 unfold Builtin.bitOr Builtin.bitAnd Builtin.bitNot;rw[decide_eq_false (by omega:¬(0:Int)<= -(x:Int) - 1),decide_eq_false (by omega:¬(0:Int)<= -(y:Int) - 1)]
 show -(-(((-(-(x:Int) - 1) - 1).toNat ||| (-(-(y:Int) - 1) - 1).toNat:Nat):Int) - 1) - 1=_
 rw[show(-(-(x:Int) - 1) - 1).toNat=x by omega,show(-(-(y:Int) - 1) - 1).toNat=y by omega]
 omega
def mI(N:Nat)(f:M):D:= .int (eJ N f:Nat)
theorem fK{N:Nat}{f g:M}(h:∀i,i < N->f i=g i):mI N f=mI N g:=by unfold mI;rw [pC h]
theorem kJ(N:Nat)(f g:M):u0 (mI N f) (mI N g)= .ok (mI N fun i=>f i && g i):=by
 show R.ok (D.int (Builtin.bitAnd (eJ N f:Int) (eJ N g:Int)))=_;rw[vP,zu];rfl
theorem pL(N:Nat)(f g:M):xx (mI N f) (mI N g)= .ok (mI N fun i=>f i || g i):=by
 show R.ok (D.int (Builtin.bitOr (eJ N f:Int) (eJ N g:Int)))=_;rw[Ek,IG];rfl
theorem t6(N:Nat)(f g:M):yM (mI N f) (mI N g)= .ok (mI N fun i=>f i !=g i):=by
 show R.ok (D.int (Builtin.bitOr (eJ N f:Int) (eJ N g:Int) - Builtin.bitAnd (eJ N f:Int) (eJ N g:Int)))=_;rw[Ek,vP,IG,zu,En];rfl
def one:M:=fun _=>true
theorem x9(N:Nat)(f:M):yM (mI N one) (mI N f)= .ok (mI N fun i=>!f i):=by
 rw[t6];have:(fun i=>one i !=f i)=fun i=>!f i:=by funext i;unfold one;simp
 rw[this]
theorem Cz(N:Nat)(f:M)(c:Bool):(if c then yM (mI N one) (mI N f) else .ok (mI N f))= .ok (mI N fun i=>f i !=c):=by
 cases c with
 | true=>
   rw[if_pos rfl,x9];have:(fun i=>!f i)=fun i=>f i !=true:=by funext i;cases f i <;> rfl
   rw[this]
 | false=>
   rw[if_neg (by decide)]
   have:f=fun i=>f i !=false:=by funext i;cases f i <;> rfl
   rw[<-this]
theorem wW{N:Nat}{f:M}:eJ N f=0↔∀i,i < N->f i=false:=by
 constructor
 .intro h i hi;have:=jW N f i;rw[h,Nat.zero_testBit,decide_eq_true hi,Bool.true_and] at this;exact this.symm
 .intro h;refine Nat.eq_of_testBit_eq fun i=>?_
  rw[jW,Nat.zero_testBit];by_cases q:i < N
  .rw [h i q];simp
  .rw [decide_eq_false q];rfl
def bI(b:Bool):D:= .int (if b then 1 else 0)
def Jt:List Bool->Nat
 | []=>0
 | b ::bs=>(if b then 1 else 0)+2*Jt bs
theorem HG:∀bs:List Bool,Jt bs=eJ bs.length fun i=>bs.getD i false
 | []=>rfl
 | b ::bs=>by
   unfold Jt;rw[HG bs];rfl
def nI(n:Nat):D:= .int (n:Int)
def kS:Nat->Str | 0=>"not" | 1=>"and" | 2=>"or" | 3=>"xor" | _=>"vote"
def ar:Nat->Nat | 0=>1 | 4=>3 | _=>2
theorem Df(k:Nat):ar k<=3:=by unfold ar;split <;> omega
def gv:Nat->List Bool->Bool
 | 0,[a]=>!a
 | 1,[a,b]=>a && b
 | 2,[a,b]=>a || b
 | 3,[a,b]=>a !=b
 | 4,[a,b,c]=>(a && b) || (a && c) || (b && c)
 | _,_=>false
def c_(ws:List M)(n:Nat):M:=ws.getD n fun _=>false
theorem yU{ws:List M}{b:M}{n:Nat}(h:n < ws.length):c_ (ws++[b]) n=c_ ws n:=by
 unfold c_;rw[List.getD_eq_getElem?_getD,List.getElem?_append_left h,List.getD_eq_getElem?_getD]
theorem AN(ws:List M)(b:M):c_ (ws++[b]) ws.length=b:=by
 unfold c_;rw[List.getD_eq_getElem?_getD,List.getElem?_append_right (Nat.le_refl _),Nat.sub_self];rfl
abbrev Gt:=Nat × List Nat × Bool
def mT(g:Gt):D:= .tup [.str (kS g.1), .tup (g.2.1.map nI), .bl g.2.2]
def zP(n:Nat)(g:Gt):Prop:=g.1<=4/\g.2.1.length=ar g.1/\∀w∈g.2.1,w < n
def inD(x:Str × Nat):D:= .tup [.str x.1,nI x.2]
def Bv(x:Str × List Nat):D:= .tup [.str x.1, .tup (x.2.map nI)]
def bG(ins:List (Str × Nat))(gs:List Gt)(os:List (Str × List Nat)):D:= .tup [.lst (ins.map inD), .lst (gs.map mT), .lst (os.map Bv)]
def iY(ins:List (Str × Nat)):Nat:=(ins.map (·.2)).sum
def gF(g:Gt)(ws:List M):M:=fun p=>gv g.1 (g.2.1.map fun n=>c_ ws n p)
def g6(bad:List Int)(b:M):Nat->List M->List M
 | 0,ws=>ws
 | n+1,ws=>g6 bad b n ws++[fun p=>b p !=bad.contains ((g6 bad b n ws).length:Int)]
theorem iI(bad:List Int)(b:M):∀n ws,(g6 bad b n ws).length=ws.length+n
 | 0,ws=>rfl
 | n+1,ws=>by unfold g6;rw [List.length_append,iI bad b n ws];rfl
def cM(ins:List (Str × Nat))(bits:List M)(bad:List Int):Nat->List M
 | 0=>[]
 | i+1=>match ins[i]?,bits[i]? with | some x,some b=>g6 bad b x.2 (cM ins bits bad i) | _,_=>cM ins bits bad i
theorem mO{ins:List (Str × Nat)}{bits:List M}{bad:List Int}(hb:bits.length=ins.length):∀i,i<=ins.length->(cM ins bits bad i).length=iY (ins.take i)
 | 0,_=>rfl
 | i+1,hi=>by
   have h1:ins[i]? =some ins[i]:=List.getElem?_eq_getElem (by omega)
   have h2:bits[i]? =some bits[i]:=List.getElem?_eq_getElem (by omega)
   unfold cM;rw[h1,h2];show(g6 bad bits[i] ins[i].2 (cM ins bits bad i)).length=_;rw[iI,mO hb i (by omega),List.take_add_one,h1]
   unfold iY;simp only[Option.toList_some,List.map_append,List.sum_append,List.map_cons,List.map_nil,List.sum_cons,List.sum_nil];omega
def pQ(gs:List Gt)(turned:List Int)(w0:List M):Nat->List M
 | 0=>w0
 | i+1=>match gs[i]? with | some g=>pQ gs turned w0 i++[fun p=>gF g (pQ gs turned w0 i) p !=turned.contains (i:Int)] | none=>pQ gs turned w0 i
theorem px{gs:List Gt}{turned:List Int}{w0:List M}:∀i,i<=gs.length->(pQ gs turned w0 i).length=w0.length+i
 | 0,_=>rfl
 | i+1,hi=>by
   have h1:gs[i]? =some gs[i]:=List.getElem?_eq_getElem (by omega)
   unfold pQ;rw[h1];show(pQ gs turned w0 i++[_]).length=_;rw[List.length_append,px i (by omega)]
   rfl
structure ke (ins:List (Str × Nat)) (gs:List Gt) (os:List (Str × List Nat)):Prop where
 hi:ins.length < 100
 hw:∀x∈ins,x.2 < 100
 hg:gs.length < 1000
 g:∀(i:Nat) (x:Gt),gs[i]? =some x->zP (iY ins+i) x
 ho:os.length < 1000
 o:∀x∈os,x.2.length < 1000/\∀w∈x.2,w < iY ins+gs.length
def KW(ins:List (Str × Nat))(gs:List Gt)(bits:List M)(turned bad:List Int):List M:=pQ gs turned (cM ins bits bad ins.length) gs.length
theorem sV:∀{l:List (Str × Nat)},(∀x∈l,x.2 < 100)->iY l<=100*l.length
 | [],_=>by simp [iY]
 | x ::l,h=>by
   have ih:=sV (l:=l) fun y hy=>h y (List.mem_cons_of_mem _ hy)
   have:=h x List.mem_cons_self;unfold iY at ih ⊢;rw[List.map_cons,List.sum_cons,List.length_cons];omega
theorem zQ{ins:List (Str × Nat)}{gs:List Gt}{bits:List M}{turned bad:List Int}(hb:bits.length=ins.length):(KW ins gs bits turned bad).length=iY ins+gs.length:=by unfold KW;rw [px _ (Nat.le_refl _),mO hb _ (Nat.le_refl _),List.take_length]
def tell(ws:List M)(x:Str × List Nat):List M:=x.2.map (c_ ws)
def M5:List Bool->Bool × Bool
 | [a]=>(!a,a)
 | [a,b]=>(!(a || b),a && b)
 | [a,b,c]=>let v:=(a && b) || (a && c) || (b && c);(!v,v)
 | _=>(false,false)
def brk(safe:Bool)(x y:Bool × Bool):Bool:=if safe then(x.1 && y.2) || (x.2 && y.1) else(x.1 !=y.1) || (x.2 !=y.2)
theorem u_(i:Int)(ps:List Int):Ep (.int i) (.tup (ps.map .int))= .ok (.bl (ps.contains i)):=by
 show((match ints? (ps.map D.int) with | some ss=>R.ok (ss.contains i) | none=> .no)).bind (fun b=>R.ok (D.bl b))=_
 rw[L2.ints_map];rfl
theorem pE{ds:List D}{i:Nat}{v:V3}(h:((cH ds).map V3.d)[i]? =some v):∃d,ds[i]? =some d/\v= .d (.tup [.int i,d]):=by
 rw[List.getElem?_map,cH,List.getElem?_map,List.getElem?_zipIdx] at h;cases q:ds[i]? with
 | none=>rw [q] at h;cases h
 | some d=>
   rw[q] at h;simp at h;exact⟨d,rfl,h.symm⟩
theorem yO{c:aw->R Bool}{δ:aw}{b:Bool}{r:R D}(h:c δ= .ok b)(h2:(if b then f δ else g δ)=r):MZ c f g δ=r:=by unfold MZ;rw [h,R.bj];exact h2
theorem dg(S:aH)(x y:SO):(S++[x]).set S.length y=S++[y]:=by
 rw[List.set_append_right _ _ (Nat.le_refl _),Nat.sub_self];rfl
theorem ba(S:aH)(x:SO):(S++[x])[S.length]? =some x:=by rw[List.getElem?_append_right (Nat.le_refl _),Nat.sub_self];rfl
theorem BR{N:Nat}{ws:List M}{n:Nat}(h:n < ws.length):cb (.lst (ws.map (mI N))) (nI n)= .ok (mI N (c_ ws n)):=by
 refine NT.lC ?_;rw[List.getElem?_map,List.getElem?_eq_getElem h];unfold c_;rw[List.getD_eq_getElem?_getD,List.getElem?_eq_getElem h];rfl
theorem w9{α:Type}{t:FG}{body:FZ}{S:aH}(g:α->V3)(f:α->Option V3)(E:DE->Prop):∀{xs:List α} {δ:DE},E δ->
 (∀x∈xs,∀δ,E δ->∃δ1,t (g x) δ=some δ1/\W3 (body δ1 S) fun o S1=>S1=S/\(match f x with | some v=>o= .rt v | none=>∃du,o= .nx du/\E du))->
 W3 (jU t body (xs.map g) δ S) fun o S1=>S1=S/\(match xs.findSome? f with | some v=>o= .rt v | none=>∃du,o= .nx du/\E du)
 | [],δ,h0,_=>W3.ok ⟨rfl,δ,rfl,h0⟩
 | x ::xs,δ,h0,hs=>by
   obtain⟨δ1,e1,o,S1,e2,rfl,h2⟩:=hs x List.mem_cons_self δ h0;rw[List.map_cons];unfold jU;rw[e1];refine W3.bind ⟨_,_,e2,?_⟩;rw[List.findSome?_cons];cases hf:f x with
   | some v=>rw [hf] at h2;subst h2;exact W3.ok ⟨rfl,rfl⟩
   | none=>
     rw[hf] at h2;obtain⟨du,rfl,h2⟩:=h2;exact w9 g f E h2 fun y hy=>hs y (List.mem_cons_of_mem _ hy)
def gn:List Nat->Nat->List (List Nat)
 | _,0=>[[]]
 | ps,s+1=>(List.range ps.length).flatMap fun a=>(gn (ps.drop (a+1)) s).map (ps.getD a 0 ::·)
theorem g9:∀{s:Nat} {ps T:List Nat},T∈gn ps s->T.length=s/\∀x∈T,x∈ps
 | 0,ps,T,h=>by unfold gn at h;rw [List.mem_singleton.mp h];simp
 | s+1,ps,T,h=>by
   unfold gn at h;obtain⟨a,ha,h⟩:=List.mem_flatMap.mp h;obtain⟨R,hR,rfl⟩:=List.mem_map.mp h;rw[List.mem_range] at ha;obtain⟨h1,h2⟩:=g9 hR;refine⟨by simp [h1],fun x hx=>?_⟩
   rcases List.mem_cons.mp hx with rfl | hx
   .rw [List.getD_eq_getElem?_getD,List.getElem?_eq_getElem ha];exact List.getElem_mem ha
   .exact List.mem_of_mem_drop (h2 x hx)
theorem Cc:∀{l:List Nat} {m:Nat},(∀x∈l,x<=m)->l.sum<=l.length*m
 | [],_,_=>by simp
 | x ::l,m,h=>by
   have:=Cc (l:=l) (m:=m) fun y hy=>h y (List.mem_cons_of_mem _ hy)
   have h0:=h x List.mem_cons_self;rw[List.sum_cons,List.length_cons,Nat.add_mul];omega
theorem vf:∀{s:Nat} {ps:List Nat} {n:Nat},ps.length<=n->(gn ps s).length<=n ^ s
 | 0,ps,n,_=>by unfold gn;simp
 | s+1,ps,n,h=>by
   unfold gn;rw[List.length_flatMap,Nat.pow_succ];refine Nat.le_trans (Cc (m:=n ^ s) fun x hx=>?_) ?_
   .obtain⟨a,_,rfl⟩:=List.mem_map.mp hx;rw[List.length_map];exact vf (by rw[List.length_drop];omega)
   .rw [List.length_map,List.length_range,Nat.mul_comm];exact Nat.mul_le_mul_left _ h
theorem vQ{F G:FZ}{δ:DE}{S:aH}{QO:Ou->aH->Prop}(h:W3 (F δ S) fun o S1=>match o with | .nx δ1=>W3 (G δ1 S1) QO | .rt v=>QO (.rt v) S1):W3 (aU F G δ S) QO:=
 W3.bind (h.mono fun o S1 q=>by cases o with | nx δ1=>exact q | rt v=>exact W3.ok q)
end MT
end
section
namespace K22
open PySem PySem.Spec PyProof.Rows L2 L3
variable {P:Program} {w:World} {K:W.Frag} {mg:Str->Option Value} {base:Heap} {cl:Nat->Addr}
def top(i:Nat):Stmt:=PySem.Challenge.pw_bearfaults_k22_surest_by_trial.main.body.getD i (.Pass ⟨0,0,0,0⟩)
structure Tp (K:W.Frag) (mg:Str->Option Value) (cl:Nat->Addr):Prop where
 z_enumerate:mg "enumerate"=none
 z_range:mg "range"=none
 z_len:mg "len"=none
 z_tuple:mg "tuple"=none
 z_reversed:mg "reversed"=none
 z_all:mg "all"=none
 z_zip:mg "zip"=none
 z_any:mg "any"=none
 z_min:mg "min"=none
 z_sorted:mg "sorted"=none
 z_list:mg "list"=none
 z_isinstance:mg "isinstance"=none
 z_bool:mg "bool"=none
 z_int:mg "int"=none
 C_Bench:zJ K (cl 0)
 N_Bench_net:dn K (cl 0) "net"
 N_Bench_many_inputs:dn K (cl 0) "many_inputs"
 N_Bench_full:dn K (cl 0) "full"
 N_Bench_in_masks:dn K (cl 0) "in_masks"
 M_Bench:mg "Bench"=some (.ref (cl 0))
 C_Trial:zJ K (cl 1)
 N_Trial_bench:dn K (cl 1) "bench"
 N_Trial_plain:dn K (cl 1) "plain"
 N_Trial_unsure:dn K (cl 1) "unsure"
 M_Trial:mg "Trial"=some (.ref (cl 1))
abbrev l0:Stmt:=top 2
noncomputable abbrev yn:List Str:=["masks"]
noncomputable def CM:{b:List Stmt // aM l0=b}:=⟨_,by conv=>lhs;whnf⟩
noncomputable def wU:{b:Scope // aC l0=b}:=⟨_,by conv=>lhs;whnf⟩
theorem Fv:aW yn ["masks"] wU.1:=⟨rfl,rfl,rfl,by decide+kernel,rfl,by decide+kernel,by decide+kernel⟩
def yI:FS:=(jy (e2 xx (e2 xx (e2 u0 (e2 cb (ab 0) (eC (.int 0))) (e2 cb (ab 0) (eC (.int 1)))) (e2 u0 (e2 cb (ab 0) (eC (.int 0))) (e2 cb (ab 0) (eC (.int 2))))) (e2 u0 (e2 cb (ab 0) (eC (.int 1))) (e2 cb (ab 0) (eC (.int 2))))))
def iS:List D->R D:=xp yn yI
theorem Fc(T:Tp K mg cl)(h:Def K mg "vote_of" l0):Callee P w K mg base 1 "vote_of" 1 iS:=by
 obtain⟨f,fd,F,hm⟩:=h;exact⟨f,fd,_,cN (k:=0) CM.2 wU.2 F Fv (fun dJ A outer s H E hr=>(bA (cu (aD pK (aD pK (aD oR (aF (aa 0) aj (fun _ _=>rfl)) (aF (aa 0) aj (fun _ _=>rfl))) (aD oR (aF (aa 0) aj (fun _ _=>rfl)) (aF (aa 0) aj (fun _ _=>rfl)))) (aD oR (aF (aa 0) aj (fun _ _=>rfl)) (aF (aa 0) aj (fun _ _=>rfl))))))),hm,F.kp,F.binds fun _ _ _ _ _ _ us hl=>match us,hl with | [_],_=>rfl⟩
abbrev jv:Stmt:=top 3
noncomputable abbrev oA:List Str:=["kind","masks","full"]
noncomputable def zl:{b:List Stmt // aM jv=b}:=⟨_,by conv=>lhs;whnf⟩
noncomputable def q_:{b:Scope // aC jv=b}:=⟨_,by conv=>lhs;whnf⟩
theorem z7:aW oA ["kind","masks","full"] q_.1:=⟨rfl,rfl,rfl,by decide+kernel,rfl,by decide+kernel,by decide+kernel⟩
def ug:FS:=(iV (Dx (b2 jm (ab 0) (eC (.str "not"))) (jy (e2 yM (ab 2) (e2 cb (ab 1) (eC (.int 0))))) zp) (iV (Dx (b2 jm (ab 0) (eC (.str "and"))) (jy (e2 u0 (e2 cb (ab 1) (eC (.int 0))) (e2 cb (ab 1) (eC (.int 1))))) zp) (iV (Dx (b2 jm (ab 0) (eC (.str "or"))) (jy (e2 xx (e2 cb (ab 1) (eC (.int 0))) (e2 cb (ab 1) (eC (.int 1))))) zp) (iV (Dx (b2 jm (ab 0) (eC (.str "xor"))) (jy (e2 yM (e2 cb (ab 1) (eC (.int 0))) (e2 cb (ab 1) (eC (.int 1))))) zp) (jy (bw iS (az (ab 1) bb)))))))
def jr:List D->R D:=xp oA ug
theorem AS(T:Tp K mg cl)(h:Def K mg "gate_mask" jv)(j8:Callee P w K mg base 1 "vote_of" 1 iS):Callee P w K mg base 2 "gate_mask" 3 jr:=by
 obtain⟨f,fd,F,hm⟩:=h;exact⟨f,fd,_,cN (k:=1) zl.2 q_.2 F z7 (fun dJ A outer s H E hr=>(b3 (lu (bt (gJ hr.units) (aa 0) bS (bH _)) (bA (cu (aD rP (aa 2) (aF (aa 1) aj (fun _ _=>rfl))))) kB) (b3 (lu (bt (gJ hr.units) (aa 0) bS (bH _)) (bA (cu (aD oR (aF (aa 1) aj (fun _ _=>rfl)) (aF (aa 1) aj (fun _ _=>rfl))))) kB) (b3 (lu (bt (gJ hr.units) (aa 0) bS (bH _)) (bA (cu (aD pK (aF (aa 1) aj (fun _ _=>rfl)) (aF (aa 1) aj (fun _ _=>rfl))))) kB) (b3 (lu (bt (gJ hr.units) (aa 0) bS (bH _)) (bA (cu (aD rP (aF (aa 1) aj (fun _ _=>rfl)) (aF (aa 1) aj (fun _ _=>rfl))))) kB) (bA (cu (cA j8 hr (by decide) rfl (af (aa 1) aq) (bz cU))))))))),hm,F.kp,F.binds fun _ _ _ _ _ _ us hl=>match us,hl with | [_,_,_],_=>rfl⟩
abbrev eA:Stmt:=top 4
noncomputable abbrev gG:List Str:=["ins","in_masks","full","bad","wires","place","mask","figure"]
noncomputable def sS:{b:List Stmt // aM eA=b}:=⟨_,by conv=>lhs;whnf⟩
noncomputable def mr:{b:Scope // aC eA=b}:=⟨_,by conv=>lhs;whnf⟩
theorem eG:aW gG ["ins","in_masks","full","bad"] mr.1:=⟨rfl,rfl,rfl,by decide+kernel,rfl,by decide+kernel,by decide+kernel⟩
def g7:FZ:=(mq 4 (xT (MZ (b2 Ep (bw iW (az (ab 4) bb)) (ab 3)) (e2 yM (ab 2) (ab 6)) (ab 6))))
def lx:FZ:=(iC (iP (kD (e2 cb (e2 cb (ab 0) (ab 5)) (eC (.int 1))))) (jH 7) g7)
def jC:FZ:=(aU (bB 4 (ng (eB bb))) (aU (iC (iP (El (ab 1))) (F_ 2 (xo (jH 5) (xo (jH 6) GL))) lx) (fZ (bQ 4))))
def dX:List V3->aH->R3 V3:=n4 gG jC
def Fp:List V3->aH->R3 V3:=n6 gG jC
theorem uw(T:Tp K mg cl)(h:Def K mg "in_wire_masks" eA):aX P w K mg base cl 1 "in_wire_masks" 4 dX:=by
 obtain⟨f,fd,F,hm⟩:=h;exact⟨f,fd,_,bL (k:=0) sS.2 mr.2 F eG (fun dJ A outer s H E hr=>(ao (aN eG.nd rfl (Or.inl rfl) (ft (bK aq))) (ao (dr PassesOwn.never rfl (cw (BL (aa 1) rfl T.z_enumerate)) (jl rfl (bU (aQ eG.nd rfl (Or.inl rfl)) (bU (aQ eG.nd rfl (Or.inl rfl)) f7))) (ay (dr PassesOwn.never rfl (cw (fI (aF (aF (aa 0) (aa 5) (fun _ _=>rfl)) aj (fun _ _=>rfl)) rfl T.z_range)) (aQ eG.nd rfl (Or.inl rfl)) (ay (gZ rfl (Or.inl rfl) (dS (BK (bt ID (bx fY rfl T.z_len PySem.boot_len (af (aa 4) aq)) (aa 3) (by with_unfolding_all rfl)) (aD rP (aa 2) (aa 6)) (aa 6)))))))) (ay (cy (aO 4)))))),hm,F.kp,F.binds fun _ _ _ _ _ _ us hl=>match us,hl with | [_,_,_,_],_=>rfl⟩
abbrev ka:Stmt:=top 5
noncomputable abbrev qh:List Str:=["wires","numbers"]
noncomputable def AU:{b:List Stmt // aM ka=b}:=⟨_,by conv=>lhs;whnf⟩
noncomputable def oP:{b:Scope // aC ka=b}:=⟨_,by conv=>lhs;whnf⟩
theorem CV:aW qh ["wires","numbers"] oP.1:=⟨rfl,rfl,rfl,by decide+kernel,rfl,by decide+kernel,by decide+kernel⟩
def wC:FS:=(jy (bw vZ (az (eNew (dj (cI (ab 1)) (aS 0) sM (e2 cb (ab 1) (ab 0)) ["number"] [0])) bb)))
def gL:List D->R D:=xp qh wC
theorem B0(T:Tp K mg cl)(h:Def K mg "masks_at" ka):Callee P w K mg base 1 "masks_at" 2 gL:=by
 obtain⟨f,fd,F,hm⟩:=h;exact⟨f,fd,_,cN (k:=0) AU.2 oP.2 F CV (fun dJ A outer s H E hr=>(bA (cu (iJ yZ rfl T.z_tuple PyProof.Rows.boot_tuple (af (bR (cR rfl (bO.of (own:=["number"]) (kp:=[0]) (kn:=["wires"]) (sc:=oP.1) (N:=qh) rfl rfl (by decide+kernel)) (bF (aa 1)) (fun _ _ _=>(aT (show List.Nodup [(Str.ofString "number"),"wires"] from by decide+kernel) rfl (Or.inl rfl))) (fun _ _ _=>gP) (fun _ _ _=>(aF (aa 1) (aa 0) (fun _ _=>rfl))))) aq))))),hm,F.kp,F.binds fun _ _ _ _ _ _ us hl=>match us,hl with | [_,_],_=>rfl⟩
abbrev h_:Stmt:=top 6
noncomputable abbrev jY:List Str:=["net","in_masks","full","turned","bad","wires","place","gate","mask"]
noncomputable def xv:{b:List Stmt // aM h_=b}:=⟨_,by conv=>lhs;whnf⟩
noncomputable def p6:{b:Scope // aC h_=b}:=⟨_,by conv=>lhs;whnf⟩
theorem ia:aW jY ["net","in_masks","full","turned","bad"] p6.1:=⟨rfl,rfl,rfl,by decide+kernel,rfl,by decide+kernel,by decide+kernel⟩
def kI:FZ:=(aU (bB 8 (xT (bw jr (az (e2 cb (ab 7) (eC (.int 0))) (az (bw gL (az (ab 5) (az (e2 cb (ab 7) (eC (.int 1))) bb))) (az (ab 2) bb)))))) (mq 5 (xP (MZ (b2 Ep (ab 6) (ab 3)) (e2 yM (ab 2) (ab 8)) (ab 8)))))
def ny:FZ:=(aU (bB 5 (b9 dX (av (xP (e2 cb (ab 0) (eC (.int 0)))) (av (xP (ab 1)) (av (xP (ab 2)) (av (xP (ab 4)) cn)))))) (aU (iC (iP (eO (e2 cb (ab 0) (eC (.int 1))))) (F_ 2 (xo (jH 6) (xo (jH 7) GL))) kI) (fZ (bQ 5))))
def xI:List V3->aH->R3 V3:=n4 jY ny
def jj:List V3->aH->R3 V3:=n6 jY ny
theorem zd(T:Tp K mg cl)(h:Def K mg "wire_masks" h_)(i8:Callee P w K mg base 1 "masks_at" 2 gL)(pf:Callee P w K mg base 2 "gate_mask" 3 jr)(fX:aX P w K mg base cl 1 "in_wire_masks" 4 dX):aX P w K mg base cl 3 "wire_masks" 5 xI:=by
 obtain⟨f,fd,F,hm⟩:=h;exact⟨f,fd,_,bL (k:=2) xv.2 p6.2 F ia (fun dJ A outer s H E hr=>(ao (aN ia.nd rfl (Or.inl rfl) (bo fX hr (by decide) rfl (ae (ai (aF (aa 0) aj (fun _ _=>rfl))) (ae (ai (aa 1)) (ae (ai (aa 2)) (ae (ai (aa 4)) aJ)))) (ag (ag (ag (ag aI)))))) (ao (dr PassesOwn.never rfl (cw (iL (aF (aa 0) aj (fun _ _=>rfl)) rfl T.z_enumerate)) (jl rfl (bU (aQ ia.nd rfl (Or.inl rfl)) (bU (aQ ia.nd rfl (Or.inl rfl)) f7))) (ao (aN ia.nd rfl (Or.inl rfl) (dS (cA pf hr (by decide) rfl (af (aF (aa 7) aj (fun _ _=>rfl)) (af (cA i8 hr (by decide) rfl (af (aa 5) (af (aF (aa 7) aj (fun _ _=>rfl)) aq)) (bz (bz cU))) (af (aa 2) aq))) (bz (bz (bz cU)))))) (ay (gZ rfl (Or.inl rfl) (ai (BK (bt ID (aa 6) (aa 3) (by with_unfolding_all rfl)) (aD rP (aa 2) (aa 8)) (aa 8))))))) (ay (cy (aO 5)))))),hm,F.kp,F.binds fun _ _ _ _ _ _ us hl=>match us,hl with | [_,_,_,_,_],_=>rfl⟩
abbrev jA:Stmt:=top 7
noncomputable abbrev jq:List Str:=["net","wires"]
noncomputable def zj:{b:List Stmt // aM jA=b}:=⟨_,by conv=>lhs;whnf⟩
noncomputable def m4:{b:Scope // aC jA=b}:=⟨_,by conv=>lhs;whnf⟩
theorem A6:aW jq ["net","wires"] m4.1:=⟨rfl,rfl,rfl,by decide+kernel,rfl,by decide+kernel,by decide+kernel⟩
def oV:FZ:=(fZ (ng (dj (cI (e2 cb (ab 0) (eC (.int 2)))) (gb 2 (bJ (aS 0) (bJ (aS 1) gp))) sM (bw gL (az (ab 2) (az (ab 1) bb))) ["name","numbers"] [1])))
def zm:List V3->aH->R3 V3:=n4 jq oV
def jZ:List V3->aH->R3 V3:=n6 jq oV
theorem Be(T:Tp K mg cl)(h:Def K mg "out_masks" jA)(i8:Callee P w K mg base 1 "masks_at" 2 gL):aX P w K mg base cl 2 "out_masks" 2 zm:=by
 obtain⟨f,fd,F,hm⟩:=h;exact⟨f,fd,_,bL (k:=1) zj.2 m4.2 F A6 (fun dJ A outer s H E hr=>(ay (cy (ft (cR rfl (bO.of (own:=["name","numbers"]) (kp:=[1]) (kn:=["wires"]) (sc:=m4.1) (N:=jq) rfl rfl (by decide+kernel)) (bF (aF (aa 0) aj (fun _ _=>rfl))) (fun _ _ _=>(gd rfl (bC (aT (show List.Nodup [(Str.ofString "name"),"numbers","wires"] from by decide+kernel) rfl (Or.inl rfl)) (bC (aT (show List.Nodup [(Str.ofString "name"),"numbers","wires"] from by decide+kernel) rfl (Or.inl rfl)) eN)))) (fun _ _ _=>gP) (fun _ _ _=>(cA i8 hr (by decide) rfl (af (aa 2) (af (aa 1) aq)) (bz (bz cU))))))))),hm,F.kp,F.binds fun _ _ _ _ _ _ us hl=>match us,hl with | [_,_],_=>rfl⟩
abbrev my:Stmt:=top 8
noncomputable abbrev pA:List Str:=["masks","full","ones"]
noncomputable def Cw:{b:List Stmt // aM my=b}:=⟨_,by conv=>lhs;whnf⟩
noncomputable def we:{b:Scope // aC my=b}:=⟨_,by conv=>lhs;whnf⟩
theorem yx:aW pA ["masks","full"] we.1:=⟨rfl,rfl,rfl,by decide+kernel,rfl,by decide+kernel,by decide+kernel⟩
def yj:FS:=(iV (Dx (b2 jm (bw iW (az (ab 0) bb)) (eC (.int 2))) (jy (il (az (e2 yM (ab 1) (e2 xx (e2 cb (ab 0) (eC (.int 0))) (e2 cb (ab 0) (eC (.int 1))))) (az (e2 u0 (e2 cb (ab 0) (eC (.int 0))) (e2 cb (ab 0) (eC (.int 1)))) bb)))) zp) (iV (rp 2 (MZ (b2 jm (bw iW (az (ab 0) bb)) (eC (.int 1))) (e2 cb (ab 0) (eC (.int 0))) (bw iS (az (ab 0) bb)))) (jy (il (az (e2 yM (ab 1) (ab 2)) (az (ab 2) bb))))))
def md:List D->R D:=xp pA yj
theorem Ff(T:Tp K mg cl)(h:Def K mg "reading" my)(j8:Callee P w K mg base 1 "vote_of" 1 iS):Callee P w K mg base 2 "reading" 2 md:=by
 obtain⟨f,fd,F,hm⟩:=h;exact⟨f,fd,_,cN (k:=1) Cw.2 we.2 F yx (fun dJ A outer s H E hr=>(b3 (lu (bt (gJ hr.units) (bx fY rfl T.z_len PySem.boot_len (af (aa 0) aq)) aj (bH _)) (bA (cu (cG (af (aD rP (aa 1) (aD pK (aF (aa 0) aj (fun _ _=>rfl)) (aF (aa 0) aj (fun _ _=>rfl)))) (af (aD oR (aF (aa 0) aj (fun _ _=>rfl)) (aF (aa 0) aj (fun _ _=>rfl))) aq))))) kB) (b3 (ie yx.nd rfl (Or.inl rfl) (BK (bt (gJ hr.units) (bx fY rfl T.z_len PySem.boot_len (af (aa 0) aq)) aj (bH _)) (aF (aa 0) aj (fun _ _=>rfl)) (cA j8 hr (by decide) rfl (af (aa 0) aq) (bz cU)))) (bA (cu (cG (af (aD rP (aa 1) (aa 2)) (af (aa 2) aq)))))))),hm,F.kp,F.binds fun _ _ _ _ _ _ us hl=>match us,hl with | [_,_],_=>rfl⟩
abbrev gS:Stmt:=top 11
noncomputable abbrev jX:List Str:=["count","inputs","place","longer","bits"]
noncomputable def xJ:{b:List Stmt // aM gS=b}:=⟨_,by conv=>lhs;whnf⟩
noncomputable def pY:{b:Scope // aC gS=b}:=⟨_,by conv=>lhs;whnf⟩
theorem fS:aW jX ["count"] pY.1:=⟨rfl,rfl,rfl,by decide+kernel,rfl,by decide+kernel,by decide+kernel⟩
def oS:FZ:=(aU (mq 3 (xP (e2 oB (ab 4) (il (az (eC (.int 0)) bb))))) (mq 3 (xP (e2 oB (ab 4) (il (az (eC (.int 1)) bb))))))
def og:FZ:=(Fh 1 (aU (bB 3 (ng (eB bb))) (aU (iC (iP (cI (ab 1))) (jH 4) oS) (bB 1 (bQ 3)))))
def nC:FZ:=(aU (bB 1 (ng (eB (az (il bb) bb)))) (aU (iC (iP (kD (ab 0))) (jH 2) og) (fZ (bQ 1))))
def xy:List V3->aH->R3 V3:=n4 jX nC
def jk:List V3->aH->R3 V3:=n6 jX nC
theorem zg(T:Tp K mg cl)(h:Def K mg "all_inputs" gS):aX P w K mg base cl 1 "all_inputs" 1 xy:=by
 obtain⟨f,fd,F,hm⟩:=h;exact⟨f,fd,_,bL (k:=0) xJ.2 pY.2 F fS (fun dJ A outer s H E hr=>(ao (aN fS.nd rfl (Or.inl rfl) (ft (bK (af (cG aq) aq)))) (ao (dr PassesOwn.never rfl (cw (fI (aa 0) rfl T.z_range)) (aQ fS.nd rfl (Or.inl rfl)) (Eb 1 (ao (aN fS.nd rfl (Or.inl rfl) (ft (bK aq))) (ao (dr PassesOwn.never rfl (cw (bF (aa 1))) (aQ fS.nd rfl (Or.inl rfl)) (ao (gZ rfl (Or.inl rfl) (ai (aD sv (aa 4) (cG (af aj aq))))) (ay (gZ rfl (Or.inl rfl) (ai (aD sv (aa 4) (cG (af aj aq)))))))) (ay (aN fS.nd rfl (Or.inl rfl) (aO 3))))))) (ay (cy (aO 1)))))),hm,F.kp,F.binds fun _ _ _ _ _ _ us hl=>match us,hl with | [_],_=>rfl⟩
abbrev mf:Stmt:=top 12
noncomputable abbrev s_:List Str:=["bits","mask","bit"]
noncomputable def B6:{b:List Stmt // aM mf=b}:=⟨_,by conv=>lhs;whnf⟩
noncomputable def wF:{b:Scope // aC mf=b}:=⟨_,by conv=>lhs;whnf⟩
theorem pk:aW s_ ["bits"] wF.1:=⟨rfl,rfl,rfl,by decide+kernel,rfl,by decide+kernel,by decide+kernel⟩
def oq:FS:=(rp 1 (e2 iX (e2 qr (ab 1) (eC (.int 2))) (ab 2)))
def yd:FS:=(iV (rp 1 (eC (.int 0))) (iV (xr (LZ (ab 0)) (aS 2) oq) (jy (ab 1))))
def iM:List D->R D:=xp s_ yd
theorem EW(T:Tp K mg cl)(h:Def K mg "mask_of" mf):Callee P w K mg base 1 "mask_of" 1 iM:=by
 obtain⟨f,fd,F,hm⟩:=h;exact⟨f,fd,_,cN (k:=0) B6.2 wF.2 F pk (fun dJ A outer s H E hr=>(b3 (ie pk.nd rfl (Or.inl rfl) aj) (b3 (mG PassesOwn.never rfl (Ho (aa 0) rfl T.z_reversed) (aT pk.nd rfl (Or.inl rfl)) (bA (ie pk.nd rfl (Or.inl rfl) (aD jw (aD yL (aa 1) aj) (aa 2))))) (bA (cu (aa 1)))))),hm,F.kp,F.binds fun _ _ _ _ _ _ us hl=>match us,hl with | [_],_=>rfl⟩
abbrev mz:Stmt:=top 13
noncomputable abbrev sH:List Str:=["inputs","place"]
noncomputable def CN:{b:List Stmt // aM mz=b}:=⟨_,by conv=>lhs;whnf⟩
noncomputable def qm:{b:Scope // aC mz=b}:=⟨_,by conv=>lhs;whnf⟩
theorem FH:aW sH ["inputs","place"] qm.1:=⟨rfl,rfl,rfl,by decide+kernel,rfl,by decide+kernel,by decide+kernel⟩
def yA:FS:=(jy (bw iM (az (eNew (dj (cI (ab 0)) (aS 0) sM (e2 cb (ab 0) (ab 1)) ["bits"] [1])) bb)))
def l_:List D->R D:=xp sH yA
theorem Fx(T:Tp K mg cl)(h:Def K mg "in_mask" mz)(j7:Callee P w K mg base 1 "mask_of" 1 iM):Callee P w K mg base 2 "in_mask" 2 l_:=by
 obtain⟨f,fd,F,hm⟩:=h;exact⟨f,fd,_,cN (k:=1) CN.2 qm.2 F FH (fun dJ A outer s H E hr=>(bA (cu (cA j7 hr (by decide) rfl (af (bR (cR rfl (bO.of (own:=["bits"]) (kp:=[1]) (kn:=["place"]) (sc:=qm.1) (N:=sH) rfl rfl (by decide+kernel)) (bF (aa 0)) (fun _ _ _=>(aT (show List.Nodup [(Str.ofString "bits"),"place"] from by decide+kernel) rfl (Or.inl rfl))) (fun _ _ _=>gP) (fun _ _ _=>(aF (aa 0) (aa 1) (fun _ _=>rfl))))) aq) (bz cU))))),hm,F.kp,F.binds fun _ _ _ _ _ _ us hl=>match us,hl with | [_,_],_=>rfl⟩
abbrev mM:Stmt:=top 16
noncomputable abbrev mi:List Str:=["places","size","found","ahead","place","rest"]
noncomputable def BG:{b:List Stmt // aM mM=b}:=⟨_,by conv=>lhs;whnf⟩
noncomputable def wk:{b:Scope // aC mM=b}:=⟨_,by conv=>lhs;whnf⟩
theorem mN:aW mi ["places","size"] wk.1:=⟨rfl,rfl,rfl,by decide+kernel,rfl,by decide+kernel,by decide+kernel⟩
def oO(self:List D->R D):FS:=(Hi 2 (e2 oB (il (az (ab 4) bb)) (ab 5)))
def oU(self:List D->R D):FS:=(xr (cI (bw self (az (My (ab 0) (qT (e2 oB (ab 3) (eC (.int 1)))) wY) (az (e2 xt (ab 1) (eC (.int 1))) bb)))) (aS 5) (oO self))
def ml(self:List D->R D):FS:=(iV (Dx (b2 jm (ab 1) (eC (.int 0))) (jy (eNew (eB (az (il bb) bb)))) zp) (iV (B8 2 (eB bb)) (iV (xr (eO (ab 0)) (gb 2 (bJ (aS 3) (bJ (aS 4) gp))) (oU self)) (CY 2 (jy (ab 2))))))
def eM:Nat->List D->R D
 | 0=>fun _=> .no
 | n+1=>xp mi (ml (eM n))
theorem xY(T:Tp K mg cl)(h:Def K mg "choices" mM):∀n,Callee P w K mg base (1+n) "choices" 2 (eM n)
 | 0=>by
   obtain⟨f,fd,F,hm⟩:=h;exact⟨f,fd,["places","size"],PV,hm,F.kp,F.binds fun _ _ _ _ _ _ us hl=>match us,hl with | [_,_],_=>rfl⟩
 | n+1=>by
   have OP:=xY T h n;obtain⟨f,fd,F,hm⟩:=h;exact⟨f,fd,_,cN (k:=1+n) BG.2 wk.2 F mN (fun dJ A outer s H E hr=>(b3 (lu (bt (gJ hr.units) (aa 1) aj (bH _)) (bA (cu (bR (bK (af (cG aq) aq))))) kB) (b3 (A7 mN.nd rfl (Or.inl rfl) (bK aq)) (b3 (mG PassesOwn.never rfl (iL (aa 0) rfl T.z_enumerate) (gd rfl (bC (aT mN.nd rfl (Or.inl rfl)) (bC (aT mN.nd rfl (Or.inl rfl)) eN))) (bA (mG PassesOwn.never rfl (bF (cA OP hr (by omega) rfl (af (C4 (aa 0) (rV (aD sv (aa 3) aj)) rQ) (af (aD rJ (aa 1) aj) aq)) (bz (bz cU)))) (aT mN.nd rfl (Or.inl rfl)) (bA (H_ rfl (Or.inl rfl) (aD sv (cG (af (aa 4) aq)) (aa 5))))))) (Ap 2 (bA (cu (aa 2)))))))),hm,F.kp,F.binds fun _ _ _ _ _ _ us hl=>match us,hl with | [_,_],_=>rfl⟩
abbrev mK:Stmt:=top 19
noncomputable abbrev sf:List Str:=["places","others"]
noncomputable def Cq:{b:List Stmt // aM mK=b}:=⟨_,by conv=>lhs;whnf⟩
noncomputable def qo:{b:Scope // aC mK=b}:=⟨_,by conv=>lhs;whnf⟩
theorem Fw:aW sf ["places","others"] qo.1:=⟨rfl,rfl,rfl,by decide+kernel,rfl,by decide+kernel,by decide+kernel⟩
def yg:FS:=(jy (bw Ov (az (eNew (dj (cI (ab 1)) (aS 0) sM (e2 Ep (ab 0) (ab 1)) ["place"] [0])) bb)))
def j4:List D->R D:=xp sf yg
theorem EH(T:Tp K mg cl)(h:Def K mg "has_all" mK):Callee P w K mg base 1 "has_all" 2 j4:=by
 obtain⟨f,fd,F,hm⟩:=h;exact⟨f,fd,_,cN (k:=0) Cq.2 qo.2 F Fw (fun dJ A outer s H E hr=>(bA (cu (bx (Pu rfl) rfl T.z_all PyProof.Rows.boot_all (af (bR (cR rfl (bO.of (own:=["place"]) (kp:=[0]) (kn:=["places"]) (sc:=qo.1) (N:=sf) rfl rfl (by decide+kernel)) (bF (aa 1)) (fun _ _ _=>(aT (show List.Nodup [(Str.ofString "place"),"places"] from by decide+kernel) rfl (Or.inl rfl))) (fun _ _ _=>gP) (fun _ _ _=>(zt ID (aa 0) (aa 1) (by with_unfolding_all rfl))))) aq))))),hm,F.kp,F.binds fun _ _ _ _ _ _ us hl=>match us,hl with | [_,_],_=>rfl⟩
abbrev cj:Stmt:=inClass (top 14) 0
noncomputable abbrev dm:List Str:=["self","net","inputs"]
noncomputable def qS:{b:List Stmt // aM cj=b}:=⟨_,by conv=>lhs;whnf⟩
noncomputable def eU:{b:Scope // aC cj=b}:=⟨_,by conv=>lhs;whnf⟩
theorem ma:aW dm ["self","net"] eU.1:=⟨rfl,rfl,rfl,by decide+kernel,rfl,by decide+kernel,by decide+kernel⟩
def iQ:FZ:=(aU (bB 2 (b9 jk (av (xP (bw iW (az (e2 cb (ab 1) (eC (.int 0))) bb))) cn))) (aU (yY 0 "net" (bQ 0) (xP (ab 1))) (aU (yY 0 "many_inputs" (bQ 0) (xP (bw iW (az (ab 2) bb)))) (aU (yY 0 "full" (bQ 0) (xP (bw iM (az (eNew (dj (cI (ab 2)) (aS 0) sM (eC (.int 1)) ["bits"] [])) bb)))) (yY 0 "in_masks" (bQ 0) (xP (eNew (dj (kD (bw iW (az (e2 cb (ab 1) (eC (.int 0))) bb))) (aS 0) sM (bw l_ (az (ab 1) (az (ab 0) bb))) ["place"] [2]))))))))
def dH:List V3->aH->R3 V3:=n4 dm iQ
def Du:List V3->aH->R3 V3:=n6 dm iQ
theorem dW(T:Tp K mg cl)(h:ER K (cl 0) "__init__" "Bench.__init__" cj)(j7:Callee P w K mg base 1 "mask_of" 1 iM)(tM:Callee P w K mg base 2 "in_mask" 2 l_)(lZ:aX P w K mg base cl 1 "all_inputs" 1 jk):Ad P w K mg base cl 3 0 "Bench" 1 dH:=by
 obtain⟨f,fd,F,hm⟩:=h;exact⟨f,fd,_,hm,bL (k:=2) qS.2 eU.2 F ma (fun dJ A outer s H E hr=>(ao (aN ma.nd rfl (Or.inr rfl) (bo lZ hr (by decide) rfl (ae (ai (bx fY rfl T.z_len PySem.boot_len (af (aF (aa 1) aj (fun _ _=>rfl)) aq))) aJ) (ag aI))) (ao (qz T.C_Bench T.N_Bench_net (aO 0) (ai (aa 1))) (ao (qz T.C_Bench T.N_Bench_many_inputs (aO 0) (ai (bx fY rfl T.z_len PySem.boot_len (af (aa 2) aq)))) (ao (qz T.C_Bench T.N_Bench_full (aO 0) (ai (cA j7 hr (by decide) rfl (af (bR (cR rfl (bO.of (own:=["bits"]) (kp:=[]) (kn:=[]) (sc:=eU.1) (N:=dm) rfl rfl (by decide+kernel)) (bF (aa 2)) (fun _ _ _=>(aT (show List.Nodup [(Str.ofString "bits")] from by decide+kernel) rfl (Or.inl rfl))) (fun _ _ _=>gP) (fun _ _ _=>aj))) aq) (bz cU)))) (ay (qz T.C_Bench T.N_Bench_in_masks (aO 0) (ai (bR (cR rfl (bO.of (own:=["place"]) (kp:=[2]) (kn:=["inputs"]) (sc:=eU.1) (N:=dm) rfl rfl (by decide+kernel)) (fI (bx fY rfl T.z_len PySem.boot_len (af (aF (aa 1) aj (fun _ _=>rfl)) aq)) rfl T.z_range) (fun _ _ _=>(aT (show List.Nodup [(Str.ofString "place"),"inputs"] from by decide+kernel) rfl (Or.inl rfl))) (fun _ _ _=>gP) (fun _ _ _=>(cA tM hr (by decide) rfl (af (aa 1) (af (aa 0) aq)) (bz (bz cU)))))))))))))),T.M_Bench,F.binds fun _ _ _ _ _ _ us hl=>match us,hl with | [_,_],_=>rfl⟩
abbrev cQ:Stmt:=inClass (top 14) 1
noncomputable abbrev jh:List Str:=["self","turned","bad"]
noncomputable def wd:{b:List Stmt // aM cQ=b}:=⟨_,by conv=>lhs;whnf⟩
noncomputable def oz:{b:Scope // aC cQ=b}:=⟨_,by conv=>lhs;whnf⟩
theorem xC:aW jh ["self","turned","bad"] oz.1:=⟨rfl,rfl,rfl,by decide+kernel,rfl,by decide+kernel,by decide+kernel⟩
def lL:FZ:=(fZ (b9 jZ (av (vq 0 "net" (bQ 0)) (av (b9 jj (av (vq 0 "net" (bQ 0)) (av (vq 0 "in_masks" (bQ 0)) (av (vq 0 "full" (bQ 0)) (av (xP (ab 1)) (av (xP (ab 2)) cn)))))) cn))))
def wD:List V3->aH->R3 V3:=n4 jh lL
def ij:List V3->aH->R3 V3:=n6 jh lL
theorem f_(T:Tp K mg cl)(h:za K (cl 0) "tells" "Bench.tells" cQ)(lU:aX P w K mg base cl 3 "wire_masks" 5 jj)(nO:aX P w K mg base cl 2 "out_masks" 2 jZ):ox P w K mg base cl 4 0 "tells" 2 wD:=by
 obtain⟨f,fd,F,hm⟩:=h;exact⟨f,fd,_,T.C_Bench,hm,bL (k:=3) wd.2 oz.2 F xC (fun dJ A outer s H E hr=>(ay (cy (bo nO hr (by decide) rfl (ae (m8 T.C_Bench T.N_Bench_net (aO 0)) (ae (bo lU hr (by decide) rfl (ae (m8 T.C_Bench T.N_Bench_net (aO 0)) (ae (m8 T.C_Bench T.N_Bench_in_masks (aO 0)) (ae (m8 T.C_Bench T.N_Bench_full (aO 0)) (ae (ai (aa 1)) (ae (ai (aa 2)) aJ))))) (ag (ag (ag (ag (ag aI)))))) aJ)) (ag (ag aI)))))),F.binds fun _ _ _ _ _ _ us hl=>match us,hl with | [_,_,_],_=>rfl⟩
abbrev cg:Stmt:=inClass (top 14) 2
noncomputable abbrev dZ:List Str:=["self","turned"]
noncomputable def qU:{b:List Stmt // aM cg=b}:=⟨_,by conv=>lhs;whnf⟩
noncomputable def g_:{b:Scope // aC cg=b}:=⟨_,by conv=>lhs;whnf⟩
theorem tw:aW dZ ["self","turned"] g_.1:=⟨rfl,rfl,rfl,by decide+kernel,rfl,by decide+kernel,by decide+kernel⟩
def iO:FZ:=(fZ (jt (xF (yc 0 "tells" ij (bQ 0) (av (xP (ab 1)) (av (xP (il bb)) cn)))) (jH 0) uO (lO md (av (xP (ab 0)) (av (vq 0 "full" (bQ 1)) cn))) ["masks"] [0]))
def rn:List V3->aH->R3 V3:=n4 dZ iO
def cZ:List V3->aH->R3 V3:=n6 dZ iO
theorem d7(T:Tp K mg cl)(h:za K (cl 0) "readings" "Bench.readings" cg)(tS:Callee P w K mg base 2 "reading" 2 md)(k5:ox P w K mg base cl 4 0 "tells" 2 ij):ox P w K mg base cl 5 0 "readings" 1 rn:=by
 obtain⟨f,fd,F,hm⟩:=h;exact⟨f,fd,_,T.C_Bench,hm,bL (k:=4) qU.2 g_.2 F tw (fun dJ A outer s H E hr=>(ay (cy (u7 rfl (bO.of (own:=["masks"]) (kp:=[0]) (kn:=["self"]) (sc:=g_.1) (N:=dZ) rfl rfl (by decide+kernel)) (nB (vb k5 hr (by decide) (aO 0) (ae (ai (aa 1)) (ae (ai (cG aq)) aJ)) (ag (ag aI)))) (fun _ _ _=>(aQ (show List.Nodup [(Str.ofString "masks"),"self"] from by decide+kernel) rfl (Or.inl rfl))) (fun _ _ _=>gO) (fun _ _ _=>(vN tS hr (by decide) rfl (ae (ai (aa 0)) (ae (m8 T.C_Bench T.N_Bench_full (aO 1)) aJ)) (ag (ag aI)))))))),F.binds fun _ _ _ _ _ _ us hl=>match us,hl with | [_,_],_=>rfl⟩
abbrev cq:Stmt:=inClass (top 17) 0
noncomputable abbrev d9:List Str:=["self","net"]
noncomputable def rf:{b:List Stmt // aM cq=b}:=⟨_,by conv=>lhs;whnf⟩
noncomputable def gY:{b:Scope // aC cq=b}:=⟨_,by conv=>lhs;whnf⟩
theorem sT:aW d9 ["self","net"] gY.1:=⟨rfl,rfl,rfl,by decide+kernel,rfl,by decide+kernel,by decide+kernel⟩
def iF:FZ:=(aU (yY 1 "bench" (bQ 0) (DZ 0 dH (av (xP (ab 1)) cn))) (aU (yY 1 "plain" (bQ 0) (yc 0 "readings" cZ (vq 1 "bench" (bQ 0)) (av (xP (il bb)) cn))) (yY 1 "unsure" (bQ 0) (xP (eNew (dj (eO (e2 cb (ab 1) (eC (.int 1)))) (gb 2 (bJ (aS 0) (bJ (aS 1) gp))) (xw (rF (e2 cb (ab 1) (eC (.int 2))))) (ab 0) ["place","gate"] []))))))
def dE:List V3->aH->R3 V3:=n4 d9 iF
def Eo:List V3->aH->R3 V3:=n6 d9 iF
theorem d3(T:Tp K mg cl)(h:ER K (cl 1) "__init__" "Trial.__init__" cq)(iq:Ad P w K mg base cl 3 0 "Bench" 1 dH)(c9:ox P w K mg base cl 5 0 "readings" 1 cZ):Ad P w K mg base cl 6 1 "Trial" 1 dE:=by
 obtain⟨f,fd,F,hm⟩:=h;exact⟨f,fd,_,hm,bL (k:=5) rf.2 gY.2 F sT (fun dJ A outer s H E hr=>(ao (qz T.C_Trial T.N_Trial_bench (aO 0) (Ej iq hr (by decide) rfl (ae (ai (aa 1)) aJ) (ag aI))) (ao (qz T.C_Trial T.N_Trial_plain (aO 0) (vb c9 hr (by decide) (m8 T.C_Trial T.N_Trial_bench (aO 0)) (ae (ai (cG aq)) aJ) (ag aI))) (ay (qz T.C_Trial T.N_Trial_unsure (aO 0) (ai (bR (cR rfl (bO.of (own:=["place","gate"]) (kp:=[]) (kn:=[]) (sc:=gY.1) (N:=d9) rfl rfl (by decide+kernel)) (iL (aF (aa 1) aj (fun _ _=>rfl)) rfl T.z_enumerate) (fun _ _ _=>(gd rfl (bC (aT (show List.Nodup [(Str.ofString "place"),"gate"] from by decide+kernel) rfl (Or.inl rfl)) (bC (aT (show List.Nodup [(Str.ofString "place"),"gate"] from by decide+kernel) rfl (Or.inl rfl)) eN)))) (fun _ _ _=>(gh (q8 (nu (aF (aa 1) aj (fun _ _=>rfl)))))) (fun _ _ _=>(aa 0)))))))))),T.M_Trial,F.binds fun _ _ _ _ _ _ us hl=>match us,hl with | [_,_],_=>rfl⟩
abbrev bW:Stmt:=inClass (top 17) 1
noncomputable abbrev eQ:List Str:=["self","turned","level","mask","before","after"]
noncomputable def qj:{b:List Stmt // aM bW=b}:=⟨_,by conv=>lhs;whnf⟩
noncomputable def kW:{b:Scope // aC bW=b}:=⟨_,by conv=>lhs;whnf⟩
theorem cY:aW eQ ["self","turned","level"] kW.1:=⟨rfl,rfl,rfl,by decide+kernel,rfl,by decide+kernel,by decide+kernel⟩
def jV:FZ:=(n9 (bP (b2 jm (ab 2) (eC (.str "safe")))) (bB 3 (xP (e2 xx (e2 xx (ab 3) (e2 u0 (e2 cb (ab 4) (eC (.int 0))) (e2 cb (ab 5) (eC (.int 1))))) (e2 u0 (e2 cb (ab 4) (eC (.int 1))) (e2 cb (ab 5) (eC (.int 0))))))) (bB 3 (xP (e2 xx (e2 xx (ab 3) (e2 yM (e2 cb (ab 4) (eC (.int 0))) (e2 cb (ab 5) (eC (.int 0))))) (e2 yM (e2 cb (ab 4) (eC (.int 1))) (e2 cb (ab 5) (eC (.int 1))))))))
def hJ:FZ:=(aU (bB 3 (xP (eC (.int 0)))) (aU (iC (Nc (vq 1 "plain" (bQ 0)) (yc 0 "readings" cZ (vq 1 "bench" (bQ 0)) (av (xP (ab 1)) cn))) (F_ 2 (xo (jH 4) (xo (jH 5) GL))) jV) (fZ (xP (ab 3)))))
def qg:List V3->aH->R3 V3:=n4 eQ hJ
def et:List V3->aH->R3 V3:=n6 eQ hJ
theorem dD(T:Tp K mg cl)(h:za K (cl 1) "breaks_at" "Trial.breaks_at" bW)(c9:ox P w K mg base cl 5 0 "readings" 1 cZ):ox P w K mg base cl 6 1 "breaks_at" 2 qg:=by
 obtain⟨f,fd,F,hm⟩:=h;exact⟨f,fd,_,T.C_Trial,hm,bL (k:=5) qj.2 kW.2 F cY (fun dJ A outer s H E hr=>(ao (aN cY.nd rfl (Or.inl rfl) (ai aj)) (ao (dr PassesOwn.never rfl (Kj (m8 T.C_Trial T.N_Trial_plain (aO 0)) (vb c9 hr (by decide) (m8 T.C_Trial T.N_Trial_bench (aO 0)) (ae (ai (aa 1)) aJ) (ag aI)) rfl T.z_zip) (jl rfl (bU (aQ cY.nd rfl (Or.inl rfl)) (bU (aQ cY.nd rfl (Or.inl rfl)) f7))) (ay (eR (cC (bt (gJ hr.units) (aa 2) bS (bH _))) (ay (aN cY.nd rfl (Or.inl rfl) (ai (aD pK (aD pK (aa 3) (aD oR (aF (aa 4) aj (fun _ _=>rfl)) (aF (aa 5) aj (fun _ _=>rfl)))) (aD oR (aF (aa 4) aj (fun _ _=>rfl)) (aF (aa 5) aj (fun _ _=>rfl))))))) (ay (aN cY.nd rfl (Or.inl rfl) (ai (aD pK (aD pK (aa 3) (aD rP (aF (aa 4) aj (fun _ _=>rfl)) (aF (aa 5) aj (fun _ _=>rfl)))) (aD rP (aF (aa 4) aj (fun _ _=>rfl)) (aF (aa 5) aj (fun _ _=>rfl)))))))))) (ay (cy (ai (aa 3))))))),F.binds fun _ _ _ _ _ _ us hl=>match us,hl with | [_,_,_],_=>rfl⟩
abbrev kg:Stmt:=top 20
noncomputable abbrev iT:List Str:=["net","many","level","trial","found","size","places"]
noncomputable def A2:{b:List Stmt // aM kg=b}:=⟨_,by conv=>lhs;whnf⟩
noncomputable def oj:{b:Scope // aC kg=b}:=⟨_,by conv=>lhs;whnf⟩
theorem kM:aW iT ["net","many","level"] oj.1:=⟨rfl,rfl,rfl,by decide+kernel,rfl,by decide+kernel,by decide+kernel⟩
def mU:FZ:=(n9 (bT (rF (bw HL (az (eNew (dj (cI (ab 4)) (aS 0) sM (bw j4 (az (ab 1) (az (ab 0) bb))) ["others"] [6])) bb)))) gy (n9 (O7 Pb (yc 1 "breaks_at" et (bQ 3) (av (xP (ab 6)) (av (xP (ab 2)) cn))) (xP (eC (.int 0)))) (mq 4 (xP (ab 6))) gy))
def rL:FZ:=(iC (xF (lO (eM 4) (av (vq 1 "unsure" (bQ 3)) (av (xP (ab 5)) cn)))) (jH 6) mU)
def nF:FZ:=(aU (bB 3 (DZ 1 dE (av (xP (ab 0)) cn))) (aU (bB 4 (ng (eB bb))) (aU (iC (iP (kD (e2 iX (ab 1) (eC (.int 1))))) (jH 5) rL) (fZ (bQ 4)))))
def o7:List V3->aH->R3 V3:=n4 iT nF
def lB:List V3->aH->R3 V3:=n6 iT nF
theorem BP(T:Tp K mg cl)(h:Def K mg "breaking" kg)(tO:Callee P w K mg base 5 "choices" 2 (eM 4))(tZ:Callee P w K mg base 1 "has_all" 2 j4)(ix:Ad P w K mg base cl 6 1 "Trial" 1 dE)(gM:ox P w K mg base cl 6 1 "breaks_at" 2 et):aX P w K mg base cl 8 "breaking" 3 o7:=by
 obtain⟨f,fd,F,hm⟩:=h;exact⟨f,fd,_,bL (k:=7) A2.2 oj.2 F kM (fun dJ A outer s H E hr=>(ao (aN kM.nd rfl (Or.inl rfl) (Ej ix hr (by decide) rfl (ae (ai (aa 0)) aJ) (ag aI))) (ao (aN kM.nd rfl (Or.inl rfl) (ft (bK aq))) (ao (dr PassesOwn.never rfl (cw (fI (aD jw (aa 1) aj) rfl T.z_range)) (aQ kM.nd rfl (Or.inl rfl)) (ay (K0 PassesOwn.never rfl (nB (vN tO hr (by decide) rfl (ae (m8 T.C_Trial T.N_Trial_unsure (aO 3)) (ae (ai (aa 5)) aJ)) (ag (ag aI)))) (aQ kM.nd rfl (Or.inr rfl)) (GN (rq (nu (bx (LV rfl) rfl T.z_any PyProof.Rows.boot_any (af (bR (cR rfl (bO.of (own:=["others"]) (kp:=[6]) (kn:=["places"]) (sc:=oj.1) (N:=iT) rfl rfl (by decide+kernel)) (bF (aa 4)) (fun _ _ _=>(aT (show List.Nodup [(Str.ofString "others"),"places"] from by decide+kernel) rfl (Or.inl rfl))) (fun _ _ _=>gP) (fun _ _ _=>(cA tZ hr (by decide) rfl (af (aa 1) (af (aa 0) aq)) (bz (bz cU)))))) aq)))) (NG (ay (eR (u6 (Ox hr.units) (vb gM hr (by decide) (aO 3) (ae (ai (aa 6)) (ae (ai (aa 2)) aJ)) (ag (ag aI))) (ai aj) (bH _)) (ay (gZ rfl (Or.inl rfl) (ai (aa 6)))) cP))))))) (ay (cy (aO 4))))))),hm,F.kp,F.binds fun _ _ _ _ _ _ us hl=>match us,hl with | [_,_,_],_=>rfl⟩
abbrev f9:Stmt:=top 21
noncomputable abbrev gx:List Str:=["groups","taken","count","group","place"]
noncomputable def wx:{b:List Stmt // aM f9=b}:=⟨_,by conv=>lhs;whnf⟩
noncomputable def j_:{b:Scope // aC f9=b}:=⟨_,by conv=>lhs;whnf⟩
theorem eK:aW gx ["groups"] j_.1:=⟨rfl,rfl,rfl,by decide+kernel,rfl,by decide+kernel,by decide+kernel⟩
def nP:FZ:=(D8 (bQ 1) (xP (ab 4)) (xP (eC (.bl true))))
def nX:FZ:=(n9 (Kf (GI (lO HL (av (jt (iP (cI (ab 3))) (jH 0) uO (NN (xP (ab 0)) (bQ 1)) ["place"] [1]) cn)))) (aU (bB 2 (xP (e2 iX (ab 2) (eC (.int 1))))) (iC (iP (cI (ab 3))) (jH 4) nP)) gy)
def lI:FZ:=(aU (bB 1 Dv) (aU (bB 2 (xP (eC (.int 0)))) (aU (iC (iP (cI (ab 0))) (jH 3) nX) (fZ (xP (ab 2))))))
def wQ:List V3->aH->R3 V3:=n4 gx lI
def ib:List V3->aH->R3 V3:=n6 gx lI
theorem xQ(T:Tp K mg cl)(h:Def K mg "count_apart" f9):aX P w K mg base cl 1 "count_apart" 1 wQ:=by
 obtain⟨f,fd,F,hm⟩:=h;exact⟨f,fd,_,bL (k:=0) wx.2 j_.2 F eK (fun dJ A outer s H E hr=>(ao (aN eK.nd rfl (Or.inr rfl) Dj) (ao (aN eK.nd rfl (Or.inl rfl) (ai aj)) (ao (dr PassesOwn.never rfl (cw (bF (aa 0))) (aQ eK.nd rfl (Or.inl rfl)) (ay (eR (DQ (AW (Hf (LV rfl) rfl T.z_any PyProof.Rows.boot_any (ae (u7 rfl (bO.of (own:=["place"]) (kp:=[1]) (kn:=["taken"]) (sc:=j_.1) (N:=gx) rfl rfl (by decide+kernel)) (cw (bF (aa 3))) (fun _ _ _=>(aQ (show List.Nodup [(Str.ofString "place"),"taken"] from by decide+kernel) rfl (Or.inl rfl))) (fun _ _ _=>gO) (fun _ _ _=>(Ol (Eg hr) (ai (aa 0)) (aO 1) (by with_unfolding_all rfl)))) aJ)))) (ao (aN eK.nd rfl (Or.inl rfl) (ai (aD jw (aa 2) aj))) (ay (dr PassesOwn.never rfl (cw (bF (aa 3))) (aQ eK.nd rfl (Or.inl rfl)) (ay (DB (Eg hr) (ai vT) (aO 1) (ai (aa 4))))))) cP))) (ay (cy (ai (aa 2)))))))),hm,F.kp,F.binds fun _ _ _ _ _ _ us hl=>match us,hl with | [_],_=>rfl⟩
abbrev oY:Stmt:=top 22
noncomputable abbrev wG:List Str:=["group","place"]
noncomputable def EJ:{b:List Stmt // aM oY=b}:=⟨_,by conv=>lhs;whnf⟩
noncomputable def r9:{b:Scope // aC oY=b}:=⟨_,by conv=>lhs;whnf⟩
theorem Gp:aW wG ["group","place"] r9.1:=⟨rfl,rfl,rfl,by decide+kernel,rfl,by decide+kernel,by decide+kernel⟩
def Bm:FS:=(jy (eNew (dj (cI (ab 0)) (aS 0) (b2 Pn (ab 0) (ab 1)) (ab 0) ["other"] [1])))
def oa:List D->R D:=xp wG Bm
theorem HY(T:Tp K mg cl)(h:Def K mg "behind" oY):Callee P w K mg base 1 "behind" 2 oa:=by
 obtain⟨f,fd,F,hm⟩:=h;exact⟨f,fd,_,cN (k:=0) EJ.2 r9.2 F Gp (fun dJ A outer s H E hr=>(bA (cu (bR (cR rfl (bO.of (own:=["other"]) (kp:=[1]) (kn:=["place"]) (sc:=r9.1) (N:=wG) rfl rfl (by decide+kernel)) (bF (aa 0)) (fun _ _ _=>(aT (show List.Nodup [(Str.ofString "other"),"place"] from by decide+kernel) rfl (Or.inl rfl))) (fun _ _ _=>(gh (bt N5 (aa 0) (aa 1) (bH _)))) (fun _ _ _=>(aa 0))))))),hm,F.kp,F.binds fun _ _ _ _ _ _ us hl=>match us,hl with | [_,_],_=>rfl⟩
abbrev gu:Stmt:=top 23
noncomputable abbrev lK:List Str:=["groups","place"]
noncomputable def vV:{b:List Stmt // aM gu=b}:=⟨_,by conv=>lhs;whnf⟩
noncomputable def ky:{b:Scope // aC gu=b}:=⟨_,by conv=>lhs;whnf⟩
theorem xM:aW lK ["groups","place"] ky.1:=⟨rfl,rfl,rfl,by decide+kernel,rfl,by decide+kernel,by decide+kernel⟩
def p7:FS:=(jy (eNew (dj (cI (ab 0)) (aS 0) (b2 tG (ab 1) (ab 0)) (bw oa (az (ab 0) (az (ab 1) bb))) ["group"] [1])))
def gc:List D->R D:=xp lK p7
theorem xK(T:Tp K mg cl)(h:Def K mg "groups_left" gu)(xk:Callee P w K mg base 1 "behind" 2 oa):Callee P w K mg base 2 "groups_left" 2 gc:=by
 obtain⟨f,fd,F,hm⟩:=h;exact⟨f,fd,_,cN (k:=1) vV.2 ky.2 F xM (fun dJ A outer s H E hr=>(bA (cu (bR (cR rfl (bO.of (own:=["group"]) (kp:=[1]) (kn:=["place"]) (sc:=ky.1) (N:=lK) rfl rfl (by decide+kernel)) (bF (aa 0)) (fun _ _ _=>(aT (show List.Nodup [(Str.ofString "group"),"place"] from by decide+kernel) rfl (Or.inl rfl))) (fun _ _ _=>(gh (bt Dk (aa 1) (aa 0) (by with_unfolding_all rfl)))) (fun _ _ _=>(cA xk hr (by decide) rfl (af (aa 0) (af (aa 1) aq)) (bz (bz cU))))))))),hm,F.kp,F.binds fun _ _ _ _ _ _ us hl=>match us,hl with | [_,_],_=>rfl⟩
abbrev fk:Stmt:=top 24
noncomputable abbrev fF:List Str:=["groups","most","last","tried","group","place","rest"]
noncomputable def uF:{b:List Stmt // aM fk=b}:=⟨_,by conv=>lhs;whnf⟩
noncomputable def jL:{b:Scope // aC fk=b}:=⟨_,by conv=>lhs;whnf⟩
theorem dq:aW fF ["groups","most"] jL.1:=⟨rfl,rfl,rfl,by decide+kernel,rfl,by decide+kernel,by decide+kernel⟩
def me(self:List V3->aH->R3 V3):FZ:=(n9 (bP (b2 SG (ab 5) (ab 2))) (D8 (bQ 3) (xP (ab 5)) (xP (eC (.bl true)))) gy)
def mL(self:List V3->aH->R3 V3):FZ:=(iC (iP (cI (ab 4))) (jH 5) (me self))
def mC(self:List V3->aH->R3 V3):FZ:=(aU (bB 6 (b9 self (av (xP (bw gc (az (ab 0) (az (ab 5) bb)))) (av (xP (e2 xt (ab 1) (eC (.int 1)))) cn)))) (n9 (bP (b2 Nt (ab 6) (eC .cK))) (fZ (xP (e2 oB (il (az (ab 5) bb)) (ab 6)))) gy))
def kK(self:List V3->aH->R3 V3):FZ:=(aU (n9 (O7 Pn (b9 ib (av (xP (ab 0)) cn)) (xP (ab 1))) (fZ (xP (eC .cK))) gy) (aU (n9 (bP (xw (rF (ab 0)))) (fZ (xP (il bb))) gy) (aU (bB 2 (xP (bw t7 (az (eNew (dj (cI (ab 0)) (aS 0) sM (e2 cb (ab 0) (GY (eC (.int 1)))) ["group"] [])) bb)))) (aU (bB 3 Dv) (aU (iC (iP (cI (ab 0))) (jH 4) (mL self)) (aU (iC (xF (Cu (bQ 3))) (jH 5) (mC self)) (fZ (xP (eC .cK)))))))))
def dc:Nat->List V3->aH->R3 V3
 | 0=>fun _ _=> .no
 | n+1=>n6 fF (kK (dc n))
theorem oi(T:Tp K mg cl)(h:Def K mg "first_places" fk)(jn:Callee P w K mg base 2 "groups_left" 2 gc)(iu:aX P w K mg base cl 1 "count_apart" 1 ib):∀n,aX P w K mg base cl (3+n) "first_places" 2 (dc n)
 | 0=>by
   obtain⟨f,fd,F,hm⟩:=h;exact⟨f,fd,["groups","most"],Ob,hm,F.kp,F.binds fun _ _ _ _ _ _ us hl=>match us,hl with | [_,_],_=>rfl⟩
 | n+1=>by
   have Ly:=oi T h jn iu n;obtain⟨f,fd,F,hm⟩:=h;exact aX.p ⟨f,fd,_,bL (k:=3+n) uF.2 jL.2 F dq (fun dJ A outer s H E hr=>(ao (eR (u6 N5 (bo iu hr (by omega) rfl (ae (ai (aa 0)) aJ) (ag aI)) (ai (aa 1)) (bH _)) (ay (cy (ai rB))) cP) (ao (eR (cC (q8 (nu (aa 0)))) (ay (cy (ai (cG aq)))) cP) (ao (aN dq.nd rfl (Or.inl rfl) (ai (bx (Ca rfl) rfl T.z_min PyProof.Rows.boot_min (af (bR (cR rfl (bO.of (own:=["group"]) (kp:=[]) (kn:=[]) (sc:=jL.1) (N:=fF) rfl rfl (by decide+kernel)) (bF (aa 0)) (fun _ _ _=>(aT (show List.Nodup [(Str.ofString "group")] from by decide+kernel) rfl (Or.inl rfl))) (fun _ _ _=>gP) (fun _ _ _=>(aF (aa 0) (DX aj) (fun _ _=>rfl))))) aq)))) (ao (aN dq.nd rfl (Or.inl rfl) Dj) (ao (dr PassesOwn.never rfl (cw (bF (aa 0))) (aQ dq.nd rfl (Or.inl rfl)) (ay (dr PassesOwn.never rfl (cw (bF (aa 4))) (aQ dq.nd rfl (Or.inl rfl)) (ay (eR (cC (bt SQ (aa 5) (aa 2) (bH _))) (ay (DB (Eg hr) (ai vT) (aO 3) (ai (aa 5)))) cP))))) (ao (dr PassesOwn.never rfl (nB (Hv rfl (aO 3) rfl T.z_sorted)) (aQ dq.nd rfl (Or.inl rfl)) (ao (aN dq.nd rfl (Or.inl rfl) (bo Ly hr (by omega) rfl (ae (ai (cA jn hr (by omega) rfl (af (aa 0) (af (aa 5) aq)) (bz (bz cU)))) (ae (ai (aD rJ (aa 1) aj)) aJ)) (ag (ag aI)))) (ay (eR (cC (bt PU (aa 6) rB (bH _))) (ay (cy (ai (aD sv (cG (af (aa 5) aq)) (aa 6))))) cP)))) (ay (cy (ai rB)))))))))),hm,F.kp,F.binds fun _ _ _ _ _ _ us hl=>match us,hl with | [_,_],_=>rfl⟩
abbrev oZ:Stmt:=top 25
noncomputable abbrev oH:List Str:=["net","many","level","groups","most","places"]
noncomputable def EI:{b:List Stmt // aM oZ=b}:=⟨_,by conv=>lhs;whnf⟩
noncomputable def tq:{b:Scope // aC oZ=b}:=⟨_,by conv=>lhs;whnf⟩
theorem mH:aW oH ["net","many","level"] tq.1:=⟨rfl,rfl,rfl,by decide+kernel,rfl,by decide+kernel,by decide+kernel⟩
def qv:FZ:=(aU (bB 4 (xP (e2 iX (ab 4) (eC (.int 1))))) (bB 5 (b9 (dc 12) (av (xP (ab 3)) (av (xP (ab 4)) cn)))))
def vR:FZ:=(aU (bB 3 (jt (xF (b9 lB (av (xP (ab 0)) (av (xP (ab 1)) (av (xP (ab 2)) cn))))) (jH 0) uO (xP (bw yi (az (ab 0) bb))) ["places"] [])) (aU (bB 4 (xP (eC (.int 0)))) (aU (bB 5 (b9 (dc 12) (av (xP (ab 3)) (av (xP (ab 4)) cn)))) (aU (B5 1000 (bP (b2 Rw (ab 5) (eC .cK))) qv) (fZ (xP (ab 5)))))))
def FL:List V3->aH->R3 V3:=n4 oH vR
def pj:List V3->aH->R3 V3:=n6 oH vR
theorem Hs(T:Tp K mg cl)(h:Def K mg "surest" oZ)(pe:aX P w K mg base cl 8 "breaking" 3 lB)(gH:aX P w K mg base cl 15 "first_places" 2 (dc 12)):aX P w K mg base cl 16 "surest" 3 FL:=by
 obtain⟨f,fd,F,hm⟩:=h;exact⟨f,fd,_,bL (k:=15) EI.2 tq.2 F mH (fun dJ A outer s H E hr=>(ao (ko rfl mH.nd rfl rfl (bO.of (own:=["places"]) (kp:=[]) (kn:=[]) (sc:=tq.1) (N:=oH) rfl rfl (by decide+kernel)) (nB (bo pe hr (by decide) rfl (ae (ai (aa 0)) (ae (ai (aa 1)) (ae (ai (aa 2)) aJ))) (ag (ag (ag aI))))) (fun _ _ _=>(aQ (show List.Nodup [(Str.ofString "places")] from by decide+kernel) rfl (Or.inl rfl))) (fun _ _ _=>gO) (fun _ _ _=>(ai (iJ zq rfl T.z_list PyProof.Rows.boot_list (af (aa 0) aq))))) (ao (aN mH.nd rfl (Or.inl rfl) (ai aj)) (ao (aN mH.nd rfl (Or.inl rfl) (bo gH hr (by decide) rfl (ae (ai (aa 3)) (ae (ai (aa 4)) aJ)) (ag (ag aI)))) (ao (Iv 1000 PassesOwn.never (cC (bt Sq (aa 5) rB (bH _))) (ao (aN mH.nd rfl (Or.inl rfl) (ai (aD jw (aa 4) aj))) (ay (aN mH.nd rfl (Or.inl rfl) (bo gH hr (by decide) rfl (ae (ai (aa 3)) (ae (ai (aa 4)) aJ)) (ag (ag aI))))))) (ay (cy (ai (aa 5))))))))),hm,F.kp,F.binds fun _ _ _ _ _ _ us hl=>match us,hl with | [_,_,_],_=>rfl⟩
abbrev kR:Stmt:=top 27
noncomputable abbrev mW:List Str:=["pot","many","cell","stir"]
noncomputable def zR:{b:List Stmt // aM kR=b}:=⟨_,by conv=>lhs;whnf⟩
noncomputable def ub:{b:Scope // aC kR=b}:=⟨_,by conv=>lhs;whnf⟩
theorem ni:aW mW ["pot","many"] ub.1:=⟨rfl,rfl,rfl,by decide+kernel,rfl,by decide+kernel,by decide+kernel⟩
def qp:FZ:=(aU (Kt (bQ 0) (xP (eC (.int 1))) (xT (e2 iX (e2 cb (ab 0) (eC (.int 1))) (eC (.int 1))))) (aU (bB 2 (xT (e2 cb (ab 0) (eC (.int 0))))) (aU (n9 (bP (b2 Vu (ab 2) (e2 Qz (eC (.int 10)) (eC (.int 18))))) (aU (Kt (bQ 0) (xP (eC (.int 0))) (xP (e2 Af (ab 2) (ab 1)))) (fZ (xP (e2 xD (ab 2) (ab 1))))) gy) (aU (bB 3 (xT (e2 xD (e2 iX (e2 iX (e2 qr (ab 2) (eC (.int 69621))) (e2 qr (e2 cb (ab 0) (eC (.int 1))) (eC (.int 7919)))) (eC (.int 13))) (eC (.int 2147483647))))) (aU (bB 3 (xP (e2 xD (e2 qr (ab 3) (ab 3)) (eC (.int 2147483629))))) (fZ (xT (e2 xD (e2 Af (e2 xD (e2 iX (e2 qr (ab 3) (eC (.int 48271))) (e2 qr (e2 cb (ab 0) (eC (.int 1))) (eC (.int 40692)))) (eC (.int 2147483587))) (eC (.int 8))) (ab 1)))))))))
def zV:List V3->aH->R3 V3:=n4 mW qp
def aY:List V3->aH->R3 V3:=n6 mW qp
theorem BH(T:Tp K mg cl)(h:Def K mg "_law_next" kR):aX P w K mg base cl 1 "_law_next" 2 zV:=by
 obtain⟨f,fd,F,hm⟩:=h;exact⟨f,fd,_,bL (k:=0) zR.2 ub.2 F ni (fun dJ A outer s H E hr=>(ao (HI (dS (aD jw (aF (aa 0) aj (fun _ _=>rfl)) aj)) (IL (PX.go (aO 0)) (PX.go (ai aj)) set_list)) (ao (aN ni.nd rfl (Or.inl rfl) (dS (aF (aa 0) aj (fun _ _=>rfl)))) (ao (eR (cC (bt R4 (aa 2) (aD QR aj aj) (bH _))) (ao (HI (ai (aD IT (aa 2) (aa 1))) (IL (PX.go (aO 0)) (PX.go (ai aj)) set_list)) (ay (cy (ai (aD vJ (aa 2) (aa 1)))))) cP) (ao (aN ni.nd rfl (Or.inl rfl) (dS (aD vJ (aD jw (aD jw (aD yL (aa 2) aj) (aD yL (aF (aa 0) aj (fun _ _=>rfl)) aj)) aj) aj))) (ao (aN ni.nd rfl (Or.inl rfl) (ai (aD vJ (aD yL (aa 3) (aa 3)) aj))) (ay (cy (dS (aD vJ (aD IT (aD vJ (aD jw (aD yL (aa 3) aj) (aD yL (aF (aa 0) aj (fun _ _=>rfl)) aj)) aj) aj) (aa 1))))))))))),hm,F.kp,F.binds fun _ _ _ _ _ _ us hl=>match us,hl with | [_,_],_=>rfl⟩
abbrev kO:Stmt:=top 28
noncomputable abbrev kr:List Str:=["script"]
noncomputable def A9:{b:List Stmt // aM kO=b}:=⟨_,by conv=>lhs;whnf⟩
noncomputable def oW:{b:Scope // aC kO=b}:=⟨_,by conv=>lhs;whnf⟩
theorem Cb:aW kr ["script"] oW.1:=⟨rfl,rfl,rfl,by decide+kernel,rfl,by decide+kernel,by decide+kernel⟩
def qf:FZ:=(aU (n9 (bP (b2 jm (bw iW (az (ab 0) bb)) (eC (.int 0)))) (fZ (M9 (av (ng (eB (az (eC (.int 0)) (az (eC (.int 0)) bb)))) cn))) gy) (fZ (jt (iP (cI (My (ab 0) wY (qT (eC (.int 63)))))) (jH 0) uO (ng (eB (az (ab 0) (az (eC (.int 0)) bb)))) ["cell"] [])))
def lr:List V3->aH->R3 V3:=n4 kr qf
def LY:List V3->aH->R3 V3:=n6 kr qf
theorem BW(T:Tp K mg cl)(h:Def K mg "_law_pots" kO):aX P w K mg base cl 1 "_law_pots" 1 lr:=by
 obtain⟨f,fd,F,hm⟩:=h;exact⟨f,fd,_,bL (k:=0) A9.2 oW.2 F Cb (fun dJ A outer s H E hr=>(ao (eR (cC (bt (gJ hr.units) (bx fY rfl T.z_len PySem.boot_len (af (aa 0) aq)) aj (bH _))) (ay (cy (Ms (ae (ft (bK (af aj (af aj aq)))) aJ)))) cP) (ay (cy (u7 rfl (bO.of (own:=["cell"]) (kp:=[]) (kn:=[]) (sc:=oW.1) (N:=kr) rfl rfl (by decide+kernel)) (cw (bF (C4 (aa 0) rQ (rV aj)))) (fun _ _ _=>(aQ (show List.Nodup [(Str.ofString "cell")] from by decide+kernel) rfl (Or.inl rfl))) (fun _ _ _=>gO) (fun _ _ _=>(ft (bK (af (aa 0) (af aj aq)))))))))),hm,F.kp,F.binds fun _ _ _ _ _ _ us hl=>match us,hl with | [_],_=>rfl⟩
abbrev fG:Stmt:=top 29
noncomputable abbrev gU:List Str:=["pot","most","wide","names","turn","found","k"]
noncomputable def uI:{b:List Stmt // aM fG=b}:=⟨_,by conv=>lhs;whnf⟩
noncomputable def nW:{b:Scope // aC fG=b}:=⟨_,by conv=>lhs;whnf⟩
theorem fu:aW gU ["pot","most","wide"] nW.1:=⟨rfl,rfl,rfl,by decide+kernel,rfl,by decide+kernel,by decide+kernel⟩
def mF:FZ:=(mq 5 (Au (av (xP (e2 cb (ab 3) (e2 xD (e2 iX (ab 4) (ab 6)) (eC (.int 6))))) (av (x2 iX (xP (eC (.int 1))) (b9 aY (av (bQ 0) (av (xP (ab 2)) cn)))) cn))))
def kF:FZ:=(aU (bB 3 (xP (eNew (eB (az (eC (.str "a")) (az (eC (.str "bb")) (az (eC (.str "signal")) (az (eC (.str "x")) (az (eC (.str "yes")) (az (eC (.str "abcdefgh")) bb)))))))))) (aU (bB 4 (b9 aY (av (bQ 0) (av (xP (eC (.int 6))) cn)))) (aU (bB 5 (ng (eB bb))) (aU (iC (uf (x2 iX (xP (eC (.int 1))) (b9 aY (av (bQ 0) (av (xP (ab 1)) cn))))) (jH 6) mF) (fZ (bQ 5))))))
def uS:List V3->aH->R3 V3:=n4 gU kF
def gA:List V3->aH->R3 V3:=n6 gU kF
theorem vI(T:Tp K mg cl)(h:Def K mg "_law_some_ins" fG)(aZ:aX P w K mg base cl 1 "_law_next" 2 aY):aX P w K mg base cl 2 "_law_some_ins" 3 uS:=by
 obtain⟨f,fd,F,hm⟩:=h;exact⟨f,fd,_,bL (k:=1) uI.2 nW.2 F fu (fun dJ A outer s H E hr=>(ao (aN fu.nd rfl (Or.inl rfl) (ai (bR (bK (af bS (af bS (af bS (af bS (af bS (af bS aq)))))))))) (ao (aN fu.nd rfl (Or.inl rfl) (bo aZ hr (by decide) rfl (ae (aO 0) (ae (ai aj) aJ)) (ag (ag aI)))) (ao (aN fu.nd rfl (Or.inl rfl) (ft (bK aq))) (ao (dr PassesOwn.never rfl (mV (AB jw (ai aj) (bo aZ hr (by decide) rfl (ae (aO 0) (ae (ai (aa 1)) aJ)) (ag (ag aI)))) rfl T.z_range) (aQ fu.nd rfl (Or.inl rfl)) (ay (gZ rfl (Or.inl rfl) (su (ae (ai (aF (aa 3) (aD vJ (aD jw (aa 4) (aa 6)) aj) (fun _ _=>rfl))) (ae (AB jw (ai aj) (bo aZ hr (by decide) rfl (ae (aO 0) (ae (ai (aa 2)) aJ)) (ag (ag aI)))) aJ)))))) (ay (cy (aO 5)))))))),hm,F.kp,F.binds fun _ _ _ _ _ _ us hl=>match us,hl with | [_,_,_],_=>rfl⟩
abbrev kq:Stmt:=top 30
noncomputable abbrev kP:List Str:=["pot","many","kind","count","wires"]
noncomputable def AJ:{b:List Stmt // aM kq=b}:=⟨_,by conv=>lhs;whnf⟩
noncomputable def oT:{b:Scope // aC kq=b}:=⟨_,by conv=>lhs;whnf⟩
theorem nj:aW kP ["pot","many"] oT.1:=⟨rfl,rfl,rfl,by decide+kernel,rfl,by decide+kernel,by decide+kernel⟩
def qw:FZ:=(aU (bB 2 (O6 (xP (eNew (eB (az (eC (.str "not")) (az (eC (.str "and")) (az (eC (.str "or")) (az (eC (.str "xor")) (az (eC (.str "vote")) (az (eC (.str "and")) (az (eC (.str "or")) (az (eC (.str "xor")) bb))))))))))) (b9 aY (av (bQ 0) (av (xP (eC (.int 8))) cn))))) (aU (bB 3 (xP (M0 [((Sum.inr "not":Key),V.int 1),((Sum.inr "vote":Key),V.int 3)] (ab 2) (eC (.int 2))))) (aU (bB 4 (jt (iP (kD (ab 3))) (jH 0) uO (x2 xt (xP (e2 xt (ab 2) (eC (.int 1)))) (b9 aY (av (bQ 1) (av (xP (e2 cb (eNew (eB (az (ab 2) (az (bw t7 (az (ab 2) (az (eC (.int 4)) bb))) bb)))) (e2 xD (ab 0) (eC (.int 2))))) cn)))) ["k"] [0,1])) (fZ (xP (il (az (ab 2) (az (bw vZ (az (ab 4) bb)) bb))))))))
def AV:List V3->aH->R3 V3:=n4 kP qw
def lD:List V3->aH->R3 V3:=n6 kP qw
theorem Cv(T:Tp K mg cl)(h:Def K mg "_law_gate" kq)(aZ:aX P w K mg base cl 1 "_law_next" 2 aY):aX P w K mg base cl 2 "_law_gate" 2 AV:=by
 obtain⟨f,fd,F,hm⟩:=h;exact⟨f,fd,_,bL (k:=1) AJ.2 oT.2 F nj (fun dJ A outer s H E hr=>(ao (aN nj.nd rfl (Or.inl rfl) (G5 (ai (bR (bK (af bS (af bS (af bS (af bS (af bS (af bS (af bS (af bS aq))))))))))) (bo aZ hr (by decide) rfl (ae (aO 0) (ae (ai aj) aJ)) (ag (ag aI))) (fun _ _=>rfl))) (ao (aN nj.nd rfl (Or.inl rfl) (ai (JV (Eg hr) (qX wb vF (qX wb vF Et)) rfl rfl (by simp) (fun _ _ _ h=>h) (by decide) (aa 2) aj ⟨rfl,rfl,rfl,rfl⟩ (JB (qX wb vF (qX wb vF Et)) rfl rfl (by simp) (by decide))))) (ao (ko rfl nj.nd rfl rfl (bO.of (own:=["k"]) (kp:=[0,1]) (kn:=["pot","many"]) (sc:=oT.1) (N:=kP) rfl rfl (by decide+kernel)) (cw (fI (aa 3) rfl T.z_range)) (fun _ _ _=>(aQ (show List.Nodup [(Str.ofString "k"),"pot","many"] from by decide+kernel) rfl (Or.inl rfl))) (fun _ _ _=>gO) (fun _ _ _=>(AB rJ (ai (aD rJ (aa 2) aj)) (bo aZ hr (by decide) rfl (ae (aO 1) (ae (ai (aF (bR (bK (af (aa 2) (af (bx (Ca rfl) rfl T.z_min PyProof.Rows.boot_min (af (aa 2) (af aj aq))) aq)))) (aD vJ (aa 0) aj) (fun _ _=>rfl))) aJ)) (ag (ag aI)))))) (ay (cy (ai (cG (af (aa 2) (af (iJ yZ rfl T.z_tuple PyProof.Rows.boot_tuple (af (aa 4) aq)) aq)))))))))),hm,F.kp,F.binds fun _ _ _ _ _ _ us hl=>match us,hl with | [_,_],_=>rfl⟩
abbrev kA:Stmt:=top 31
noncomputable abbrev kG:List Str:=["pot","like","wire","same"]
noncomputable def zZ:{b:List Stmt // aM kA=b}:=⟨_,by conv=>lhs;whnf⟩
noncomputable def ot:{b:Scope // aC kA=b}:=⟨_,by conv=>lhs;whnf⟩
theorem vm:aW kG ["pot","like","wire"] ot.1:=⟨rfl,rfl,rfl,by decide+kernel,rfl,by decide+kernel,by decide+kernel⟩
def qe:FZ:=(aU (bB 3 (jt (uf (xT (bw iW (az (ab 1) bb)))) (jH 0) (bT (b2 jm (e2 cb (ab 1) (ab 0)) (e2 cb (ab 1) (ab 2)))) (xP (ab 0)) ["one"] [1,2])) (fZ (O6 (xP (ab 3)) (b9 aY (av (bQ 0) (av (xP (bw iW (az (ab 3) bb))) cn))))))
def Ae:List V3->aH->R3 V3:=n4 kG qe
def eh:List V3->aH->R3 V3:=n6 kG qe
theorem BF(T:Tp K mg cl)(h:Def K mg "_law_twin" kA)(aZ:aX P w K mg base cl 1 "_law_next" 2 aY):aX P w K mg base cl 2 "_law_twin" 3 Ae:=by
 obtain⟨f,fd,F,hm⟩:=h;exact⟨f,fd,_,bL (k:=1) zZ.2 ot.2 F vm (fun dJ A outer s H E hr=>(ao (ko rfl vm.nd rfl rfl (bO.of (own:=["one"]) (kp:=[1,2]) (kn:=["like","wire"]) (sc:=ot.1) (N:=kG) rfl rfl (by decide+kernel)) (mV (dS (bx fY rfl T.z_len PySem.boot_len (af (aa 1) aq))) rfl T.z_range) (fun _ _ _=>(aQ (show List.Nodup [(Str.ofString "one"),"like","wire"] from by decide+kernel) rfl (Or.inl rfl))) (fun _ _ _=>(GO (rq (bt (gJ hr.units) (aF (aa 1) (aa 0) (fun _ _=>rfl)) (aF (aa 1) (aa 2) (fun _ _=>rfl)) (bH _))))) (fun _ _ _=>(ai (aa 0)))) (ay (cy (G5 (ai (aa 3)) (bo aZ hr (by decide) rfl (ae (aO 0) (ae (ai (bx fY rfl T.z_len PySem.boot_len (af (aa 3) aq))) aJ)) (ag (ag aI))) (fun _ _=>rfl)))))),hm,F.kp,F.binds fun _ _ _ _ _ _ us hl=>match us,hl with | [_,_,_],_=>rfl⟩
abbrev fg:Stmt:=top 32
noncomputable abbrev fM:List Str:=["pot","most","gates","wide","ins","like","k","name","width","heard","first","kind","wires","mark","place","outs","wire"]
noncomputable def uD:{b:List Stmt // aM fg=b}:=⟨_,by conv=>lhs;whnf⟩
noncomputable def jF:{b:Scope // aC fg=b}:=⟨_,by conv=>lhs;whnf⟩
theorem aK:aW fM ["pot","most","gates","wide"] jF.1:=⟨rfl,rfl,rfl,by decide+kernel,rfl,by decide+kernel,by decide+kernel⟩
def l7:FZ:=(Fo 5 (xP (eNew (Hr (eB (az (ab 6) bb)) (ab 8)))))
def iG:FZ:=(aU (J8 (b9 lD (av (bQ 0) (av (xT (bw iW (az (ab 5) bb))) cn))) (F_ 2 (xo (jH 11) (xo (jH 12) GL)))) (aU (bB 13 (xP (e2 iX (bw iW (az (ab 4) bb)) (ab 6)))) (aU (n9 (Le (bT (b2 Pb (ab 9) (eNew (eB bb)))) (O7 jm (b9 aY (av (bQ 0) (av (xP (eC (.int 3))) cn))) (xP (eC (.int 0))))) (aU (bB 14 (b9 aY (av (bQ 0) (av (xT (bw iW (az (ab 9) bb))) cn)))) (aU (J8 (xT (KN (e2 cb (ab 9) (ab 14)) wY (qT (eC (.int 2))))) (F_ 2 (xo (jH 11) (xo (jH 12) GL)))) (aU (bB 12 (lO vZ (av (jt (iP (cI (ab 12))) (jH 0) uO (b9 eh (av (bQ 1) (av (bQ 2) (av (xP (ab 0)) cn)))) ["wire"] [0,5]) cn))) (bB 13 (xT (e2 cb (ab 5) (e2 iX (ab 10) (ab 14)))))))) gy) (aU (mq 9 (Au (av (xP (ab 11)) (av (xP (ab 12)) (av (x2 jm (b9 aY (av (bQ 0) (av (xP (eC (.int 6))) cn))) (xP (eC (.int 0)))) cn))))) (mq 5 (xP (ab 13)))))))
def iU:FZ:=(aU (bB 16 (x2 xt (xT (e2 xt (bw iW (az (ab 5) bb)) (eC (.int 1)))) (b9 aY (av (bQ 0) (av (xT (bw t7 (az (bw iW (az (ab 5) bb)) (az (eC (.int 5)) bb)))) cn))))) (aU (bB 12 (xP (il (az (ab 16) bb)))) (aU (bB 8 (b9 aY (av (bQ 0) (av (xP (eC (.int 4))) cn)))) (aU (n9 (bP (b2 jm (ab 8) (eC (.int 1)))) (bB 12 (Au (av (xP (ab 16)) (av (b9 eh (av (bQ 0) (av (bQ 5) (av (xP (ab 16)) cn)))) cn)))) gy) (aU (n9 (bP (b2 jm (ab 8) (eC (.int 2)))) (bB 12 (Au (av (xP (ab 16)) (av (b9 eh (av (bQ 0) (av (bQ 5) (av (xP (ab 16)) cn)))) (av (b9 aY (av (bQ 0) (av (xT (bw iW (az (ab 5) bb))) cn))) cn))))) gy) (aU (n9 (bP (b2 jm (ab 8) (eC (.int 3)))) (bB 12 (Au (av (xP (ab 16)) (av (b9 eh (av (bQ 0) (av (bQ 5) (av (xP (ab 16)) cn)))) (av (b9 eh (av (bQ 0) (av (bQ 5) (av (xP (ab 16)) cn)))) cn))))) gy) (mq 15 (xP (il (az (e2 cb (eNew (eB (az (eC (.str "p")) (az (eC (.str "ou")) (az (eC (.str "result")) bb))))) (ab 6)) (az (ab 12) bb)))))))))))
def kx:FZ:=(aU (bB 4 (b9 gA (av (bQ 0) (av (xP (ab 1)) (av (xP (ab 3)) cn))))) (aU (bB 5 (ng (eB bb))) (aU (iC (iP (eO (ab 4))) (F_ 2 (xo (jH 6) (xo (F_ 2 (xo (jH 7) (xo (jH 8) GL))) GL))) l7) (aU (bB 9 (ng (eB bb))) (aU (bB 10 (xT (bw iW (az (ab 5) bb)))) (aU (iC (uf (b9 aY (av (bQ 0) (av (xP (e2 iX (ab 2) (eC (.int 1)))) cn)))) (jH 6) iG) (aU (bB 15 (ng (eB bb))) (aU (iC (uf (x2 iX (xP (eC (.int 1))) (b9 aY (av (bQ 0) (av (xP (eC (.int 3))) cn))))) (jH 6) iU) (fZ (Au (av (bQ 4) (av (bQ 9) (av (bQ 15) cn)))))))))))))
def uW:List V3->aH->R3 V3:=n4 fM kx
def gC:List V3->aH->R3 V3:=n6 fM kx
theorem vO(T:Tp K mg cl)(h:Def K mg "_law_some_net" fg)(jO:aX P w K mg base cl 2 "_law_some_ins" 3 gA)(aZ:aX P w K mg base cl 1 "_law_next" 2 aY)(ph:aX P w K mg base cl 2 "_law_gate" 2 lD)(fQ:aX P w K mg base cl 2 "_law_twin" 3 eh):aX P w K mg base cl 3 "_law_some_net" 4 uW:=by
 obtain⟨f,fd,F,hm⟩:=h;exact⟨f,fd,_,bL (k:=2) uD.2 jF.2 F aK (fun dJ A outer s H E hr=>(ao (aN aK.nd rfl (Or.inl rfl) (bo jO hr (by decide) rfl (ae (aO 0) (ae (ai (aa 1)) (ae (ai (aa 3)) aJ))) (ag (ag (ag aI))))) (ao (aN aK.nd rfl (Or.inr rfl) (ft (bK aq))) (ao (dr PassesOwn.never rfl (cw (iL (aa 4) rfl T.z_enumerate)) (jl rfl (bU (aQ aK.nd rfl (Or.inl rfl)) (bU (jl rfl (bU (aQ aK.nd rfl (Or.inl rfl)) (bU (aQ aK.nd rfl (Or.inl rfl)) f7))) f7))) (ay (GW rfl (Or.inr (Or.inl rfl)) (ai (bR (Dp (bK (af (aa 6) aq)) (aa 8))))))) (ao (aN aK.nd rfl (Or.inl rfl) (ft (bK aq))) (ao (aN aK.nd rfl (Or.inl rfl) (dS (bx fY rfl T.z_len PySem.boot_len (af (aa 5) aq)))) (ao (dr PassesOwn.never rfl (mV (bo aZ hr (by decide) rfl (ae (aO 0) (ae (ai (aD jw (aa 2) aj)) aJ)) (ag (ag aI))) rfl T.z_range) (aQ aK.nd rfl (Or.inl rfl)) (ao (IC (bo ph hr (by decide) rfl (ae (aO 0) (ae (dS (bx fY rfl T.z_len PySem.boot_len (af (aa 5) aq))) aJ)) (ag (ag aI))) (jl rfl (bU (aQ aK.nd rfl (Or.inl rfl)) (bU (aQ aK.nd rfl (Or.inl rfl)) f7)))) (ao (aN aK.nd rfl (Or.inl rfl) (ai (aD jw (bx fY rfl T.z_len PySem.boot_len (af (aa 4) aq)) (aa 6)))) (ao (eR (Ot.pb (Eu (rq (bt (Ox hr.units) (aa 9) (bR (bK aq)) (bH _))) (zO (u6 (gJ hr.units) (bo aZ hr (by decide) rfl (ae (aO 0) (ae (ai aj) aJ)) (ag (ag aI))) (ai aj) (bH _))))) (ao (aN aK.nd rfl (Or.inl rfl) (bo aZ hr (by decide) rfl (ae (aO 0) (ae (dS (bx fY rfl T.z_len PySem.boot_len (af (aa 9) aq))) aJ)) (ag (ag aI)))) (ao (IC (dS (JC (aF (aa 9) (aa 14) (fun _ _=>rfl)) rQ (rV aj))) (jl rfl (bU (aQ aK.nd rfl (Or.inl rfl)) (bU (aQ aK.nd rfl (Or.inl rfl)) f7)))) (ao (aN aK.nd rfl (Or.inl rfl) (EX yZ rfl T.z_tuple PyProof.Rows.boot_tuple (ae (u7 rfl (bO.of (own:=["wire"]) (kp:=[0,5]) (kn:=["pot","like"]) (sc:=jF.1) (N:=fM) rfl rfl (by decide+kernel)) (cw (bF (aa 12))) (fun _ _ _=>(aQ (show List.Nodup [(Str.ofString "wire"),"pot","like"] from by decide+kernel) rfl (Or.inl rfl))) (fun _ _ _=>gO) (fun _ _ _=>(bo fQ hr (by decide) rfl (ae (aO 1) (ae (aO 2) (ae (ai (aa 0)) aJ))) (ag (ag (ag aI)))))) aJ))) (ay (aN aK.nd rfl (Or.inl rfl) (dS (aF (aa 5) (aD jw (aa 10) (aa 14)) (fun _ _=>rfl)))))))) cP) (ao (gZ rfl (Or.inl rfl) (su (ae (ai (aa 11)) (ae (ai (aa 12)) (ae (HJ (gJ hr.units) (bo aZ hr (by decide) rfl (ae (aO 0) (ae (ai aj) aJ)) (ag (ag aI))) (ai aj) (bH _)) aJ))))) (ay (gZ rfl (Or.inr (Or.inl rfl)) (ai (aa 13))))))))) (ao (aN aK.nd rfl (Or.inl rfl) (ft (bK aq))) (ao (dr PassesOwn.never rfl (mV (AB jw (ai aj) (bo aZ hr (by decide) rfl (ae (aO 0) (ae (ai aj) aJ)) (ag (ag aI)))) rfl T.z_range) (aQ aK.nd rfl (Or.inl rfl)) (ao (aN aK.nd rfl (Or.inl rfl) (AB rJ (dS (aD rJ (bx fY rfl T.z_len PySem.boot_len (af (aa 5) aq)) aj)) (bo aZ hr (by decide) rfl (ae (aO 0) (ae (dS (bx (Ca rfl) rfl T.z_min PyProof.Rows.boot_min (af (bx fY rfl T.z_len PySem.boot_len (af (aa 5) aq)) (af aj aq)))) aJ)) (ag (ag aI))))) (ao (aN aK.nd rfl (Or.inl rfl) (ai (cG (af (aa 16) aq)))) (ao (aN aK.nd rfl (Or.inl rfl) (bo aZ hr (by decide) rfl (ae (aO 0) (ae (ai aj) aJ)) (ag (ag aI)))) (ao (eR (cC (bt (gJ hr.units) (aa 8) aj (bH _))) (ay (aN aK.nd rfl (Or.inl rfl) (su (ae (ai (aa 16)) (ae (bo fQ hr (by decide) rfl (ae (aO 0) (ae (aO 5) (ae (ai (aa 16)) aJ))) (ag (ag (ag aI)))) aJ))))) cP) (ao (eR (cC (bt (gJ hr.units) (aa 8) aj (bH _))) (ay (aN aK.nd rfl (Or.inl rfl) (su (ae (ai (aa 16)) (ae (bo fQ hr (by decide) rfl (ae (aO 0) (ae (aO 5) (ae (ai (aa 16)) aJ))) (ag (ag (ag aI)))) (ae (bo aZ hr (by decide) rfl (ae (aO 0) (ae (dS (bx fY rfl T.z_len PySem.boot_len (af (aa 5) aq))) aJ)) (ag (ag aI))) aJ)))))) cP) (ao (eR (cC (bt (gJ hr.units) (aa 8) aj (bH _))) (ay (aN aK.nd rfl (Or.inl rfl) (su (ae (ai (aa 16)) (ae (bo fQ hr (by decide) rfl (ae (aO 0) (ae (aO 5) (ae (ai (aa 16)) aJ))) (ag (ag (ag aI)))) (ae (bo fQ hr (by decide) rfl (ae (aO 0) (ae (aO 5) (ae (ai (aa 16)) aJ))) (ag (ag (ag aI)))) aJ)))))) cP) (ay (gZ rfl (Or.inl rfl) (ai (cG (af (aF (bR (bK (af bS (af bS (af bS aq))))) (aa 6) (fun _ _=>rfl)) (af (aa 12) aq))))))))))))) (ay (cy (su (ae (aO 4) (ae (aO 9) (ae (aO 15) aJ))))))))))))))),hm,F.kp,F.binds fun _ _ _ _ _ _ us hl=>match us,hl with | [_,_,_,_],_=>rfl⟩
abbrev fq:Stmt:=top 33
noncomputable abbrev ik:List Str:=["net","ins","found","k","name","width","column","number"]
noncomputable def uL:{b:List Stmt // aM fq=b}:=⟨_,by conv=>lhs;whnf⟩
noncomputable def nS:{b:Scope // aC fq=b}:=⟨_,by conv=>lhs;whnf⟩
theorem cD:aW ik ["net"] nS.1:=⟨rfl,rfl,rfl,by decide+kernel,rfl,by decide+kernel,by decide+kernel⟩
def fV:FS:=(rp 6 (e2 iX (ab 6) (e2 Fj (e2 u0 (e2 Qy (ab 7) (e2 xt (e2 xt (bw iW (az (ab 1) bb)) (eC (.int 1))) (ab 3))) (eC (.int 1))) (ab 7))))
def fU:FS:=(iV (rp 6 (eC (.int 0))) (iV (xr (kD (e2 Fj (eC (.int 1)) (bw iW (az (ab 1) bb)))) (aS 7) fV) (GJ 2 (Hr (eB (az (ab 6) bb)) (ab 5)))))
def oC:FS:=(iV (rp 1 (e2 cb (ab 0) (eC (.int 0)))) (iV (B8 2 (eB bb)) (iV (xr (eO (ab 1)) (gb 2 (bJ (aS 3) (bJ (gb 2 (bJ (aS 4) (bJ (aS 5) gp))) gp))) fU) (CY 2 (jy (eNew (eB (az (ab 2) (az (e2 xt (e2 Fj (eC (.int 1)) (e2 Fj (eC (.int 1)) (bw iW (az (ab 1) bb)))) (eC (.int 1))) bb)))))))))
def fL:List D->R D:=xp ik oC
theorem wV(T:Tp K mg cl)(h:Def K mg "_law_ins_bits" fq):Callee P w K mg base 1 "_law_ins_bits" 1 fL:=by
 obtain⟨f,fd,F,hm⟩:=h;exact⟨f,fd,_,cN (k:=0) uL.2 nS.2 F cD (fun dJ A outer s H E hr=>(b3 (ie cD.nd rfl (Or.inl rfl) (aF (aa 0) aj (fun _ _=>rfl))) (b3 (A7 cD.nd rfl (Or.inl rfl) (bK aq)) (b3 (mG PassesOwn.never rfl (iL (aa 1) rfl T.z_enumerate) (gd rfl (bC (aT cD.nd rfl (Or.inl rfl)) (bC (gd rfl (bC (aT cD.nd rfl (Or.inl rfl)) (bC (aT cD.nd rfl (Or.inl rfl)) eN))) eN))) (b3 (ie cD.nd rfl (Or.inl rfl) aj) (b3 (mG PassesOwn.never rfl (fI (aD Ee aj (bx fY rfl T.z_len PySem.boot_len (af (aa 1) aq))) rfl T.z_range) (aT cD.nd rfl (Or.inl rfl)) (bA (ie cD.nd rfl (Or.inl rfl) (aD jw (aa 6) (aD Ee (aD oR (aD Qj (aa 7) (aD rJ (aD rJ (bx fY rfl T.z_len PySem.boot_len (af (aa 1) aq)) aj) (aa 3))) aj) (aa 7)))))) (bA (GK rfl (Or.inl rfl) (Dp (bK (af (aa 6) aq)) (aa 5))))))) (Ap 2 (bA (cu (bR (bK (af (aa 2) (af (aD rJ (aD Ee aj (aD Ee aj (bx fY rfl T.z_len PySem.boot_len (af (aa 1) aq)))) aj) aq))))))))))),hm,F.kp,F.binds fun _ _ _ _ _ _ us hl=>match us,hl with | [_],_=>rfl⟩
abbrev eI:Stmt:=top 34
noncomputable abbrev eE:List Str:=["net","ahead","turned","found","full","place","kind","wires","sure","some","column"]
noncomputable def sN:{b:List Stmt // aM eI=b}:=⟨_,by conv=>lhs;whnf⟩
noncomputable def iE:{b:Scope // aC eI=b}:=⟨_,by conv=>lhs;whnf⟩
theorem bq:aW eE ["net","ahead","turned"] iE.1:=⟨rfl,rfl,rfl,by decide+kernel,rfl,by decide+kernel,by decide+kernel⟩
def lg:FZ:=(aU (bB 9 (jt (iP (cI (ab 7))) (jH 0) uO (xT (e2 cb (ab 1) (ab 0))) ["wire"] [3])) (aU (bB 10 (xP (e2 cb (ab 9) (eC (.int 0))))) (aU (n9 (bP (b2 jm (ab 6) (eC (.str "not")))) (bB 10 (xP (e2 yM (ab 4) (ab 10)))) gy) (aU (n9 (bP (b2 jm (ab 6) (eC (.str "and")))) (bB 10 (xP (e2 u0 (e2 cb (ab 9) (eC (.int 0))) (e2 cb (ab 9) (eC (.int 1)))))) gy) (aU (n9 (bP (b2 jm (ab 6) (eC (.str "or")))) (bB 10 (xP (e2 xx (e2 cb (ab 9) (eC (.int 0))) (e2 cb (ab 9) (eC (.int 1)))))) gy) (aU (n9 (bP (b2 jm (ab 6) (eC (.str "xor")))) (bB 10 (xP (e2 yM (e2 cb (ab 9) (eC (.int 0))) (e2 cb (ab 9) (eC (.int 1)))))) gy) (aU (n9 (bP (b2 jm (ab 6) (eC (.str "vote")))) (bB 10 (xP (e2 xx (e2 xx (e2 u0 (e2 cb (ab 9) (eC (.int 0))) (e2 cb (ab 9) (eC (.int 1)))) (e2 u0 (e2 cb (ab 9) (eC (.int 0))) (e2 cb (ab 9) (eC (.int 2))))) (e2 u0 (e2 cb (ab 9) (eC (.int 1))) (e2 cb (ab 9) (eC (.int 2))))))) gy) (aU (n9 (bP (b2 Ep (ab 5) (ab 2))) (bB 10 (xP (e2 yM (ab 4) (ab 10)))) gy) (mq 3 (xP (ab 10)))))))))))
def jD:FZ:=(aU (bB 3 (ng (nList (e2 cb (ab 1) (eC (.int 0)))))) (aU (bB 4 (xP (e2 cb (ab 1) (eC (.int 1))))) (aU (iC (iP (eO (e2 cb (ab 0) (eC (.int 1))))) (F_ 2 (xo (jH 5) (xo (F_ 3 (xo (jH 6) (xo (jH 7) (xo (jH 8) GL)))) GL))) lg) (fZ (bQ 3)))))
def tH:List V3->aH->R3 V3:=n4 eE jD
def fR:List V3->aH->R3 V3:=n6 eE jD
theorem uK(T:Tp K mg cl)(h:Def K mg "_law_all_wires" eI):aX P w K mg base cl 1 "_law_all_wires" 3 tH:=by
 obtain⟨f,fd,F,hm⟩:=h;exact⟨f,fd,_,bL (k:=0) sN.2 iE.2 F bq (fun dJ A outer s H E hr=>(ao (aN bq.nd rfl (Or.inr rfl) (ft (HK (aF (aa 1) aj (fun _ _=>rfl)) rfl T.z_list))) (ao (aN bq.nd rfl (Or.inl rfl) (ai (aF (aa 1) aj (fun _ _=>rfl)))) (ao (dr PassesOwn.never rfl (cw (iL (aF (aa 0) aj (fun _ _=>rfl)) rfl T.z_enumerate)) (jl rfl (bU (aQ bq.nd rfl (Or.inl rfl)) (bU (jl rfl (bU (aQ bq.nd rfl (Or.inl rfl)) (bU (aQ bq.nd rfl (Or.inl rfl)) (bU (aQ bq.nd rfl (Or.inl rfl)) f7)))) f7))) (ao (ko rfl bq.nd rfl rfl (bO.of (own:=["wire"]) (kp:=[3]) (kn:=["found"]) (sc:=iE.1) (N:=eE) rfl rfl (by decide+kernel)) (cw (bF (aa 7))) (fun _ _ _=>(aQ (show List.Nodup [(Str.ofString "wire"),"found"] from by decide+kernel) rfl (Or.inl rfl))) (fun _ _ _=>gO) (fun _ _ _=>(dS (aF (aa 1) (aa 0) (fun _ _=>rfl))))) (ao (aN bq.nd rfl (Or.inl rfl) (ai (aF (aa 9) aj (fun _ _=>rfl)))) (ao (eR (cC (bt (gJ hr.units) (aa 6) bS (bH _))) (ay (aN bq.nd rfl (Or.inl rfl) (ai (aD rP (aa 4) (aa 10))))) cP) (ao (eR (cC (bt (gJ hr.units) (aa 6) bS (bH _))) (ay (aN bq.nd rfl (Or.inl rfl) (ai (aD oR (aF (aa 9) aj (fun _ _=>rfl)) (aF (aa 9) aj (fun _ _=>rfl)))))) cP) (ao (eR (cC (bt (gJ hr.units) (aa 6) bS (bH _))) (ay (aN bq.nd rfl (Or.inl rfl) (ai (aD pK (aF (aa 9) aj (fun _ _=>rfl)) (aF (aa 9) aj (fun _ _=>rfl)))))) cP) (ao (eR (cC (bt (gJ hr.units) (aa 6) bS (bH _))) (ay (aN bq.nd rfl (Or.inl rfl) (ai (aD rP (aF (aa 9) aj (fun _ _=>rfl)) (aF (aa 9) aj (fun _ _=>rfl)))))) cP) (ao (eR (cC (bt (gJ hr.units) (aa 6) bS (bH _))) (ay (aN bq.nd rfl (Or.inl rfl) (ai (aD pK (aD pK (aD oR (aF (aa 9) aj (fun _ _=>rfl)) (aF (aa 9) aj (fun _ _=>rfl))) (aD oR (aF (aa 9) aj (fun _ _=>rfl)) (aF (aa 9) aj (fun _ _=>rfl)))) (aD oR (aF (aa 9) aj (fun _ _=>rfl)) (aF (aa 9) aj (fun _ _=>rfl))))))) cP) (ao (eR (cC (bt ID (aa 5) (aa 2) (by with_unfolding_all rfl))) (ay (aN bq.nd rfl (Or.inl rfl) (ai (aD rP (aa 4) (aa 10))))) cP) (ay (gZ rfl (Or.inr (Or.inl rfl)) (ai (aa 10))))))))))))) (ay (cy (aO 3))))))),hm,F.kp,F.binds fun _ _ _ _ _ _ us hl=>match us,hl with | [_,_,_],_=>rfl⟩
abbrev jx:Stmt:=top 35
noncomputable abbrev jz:List Str:=["net","ahead","turned","found","heard","name","wires","some","most"]
noncomputable def yP:{b:List Stmt // aM jx=b}:=⟨_,by conv=>lhs;whnf⟩
noncomputable def m_:{b:Scope // aC jx=b}:=⟨_,by conv=>lhs;whnf⟩
theorem eZ:aW jz ["net","ahead","turned"] m_.1:=⟨rfl,rfl,rfl,by decide+kernel,rfl,by decide+kernel,by decide+kernel⟩
def p_:FZ:=(aU (bB 7 (jt (iP (cI (ab 6))) (jH 0) uO (xP (e2 cb (ab 1) (ab 0))) ["wire"] [3])) (n9 (bP (b2 jm (bw iW (az (ab 7) bb)) (eC (.int 1)))) (mq 4 (xP (il (az (e2 cb (ab 7) (eC (.int 0))) (az (eC (.int 0)) bb))))) (n9 (bP (b2 jm (bw iW (az (ab 7) bb)) (eC (.int 2)))) (mq 4 (xP (il (az (e2 u0 (e2 cb (ab 7) (eC (.int 0))) (e2 cb (ab 7) (eC (.int 1)))) (az (e2 yM (e2 cb (ab 7) (eC (.int 0))) (e2 cb (ab 7) (eC (.int 1)))) bb))))) (aU (bB 8 (xP (e2 xx (e2 xx (e2 u0 (e2 cb (ab 7) (eC (.int 0))) (e2 cb (ab 7) (eC (.int 1)))) (e2 u0 (e2 cb (ab 7) (eC (.int 0))) (e2 cb (ab 7) (eC (.int 2))))) (e2 u0 (e2 cb (ab 7) (eC (.int 1))) (e2 cb (ab 7) (eC (.int 2))))))) (mq 4 (xP (il (az (ab 8) (az (eC (.int 0)) bb)))))))))
def oM:FZ:=(aU (bB 3 (b9 fR (av (xP (ab 0)) (av (xP (ab 1)) (av (xP (ab 2)) cn))))) (aU (bB 4 (ng (eB bb))) (aU (iC (iP (cI (e2 cb (ab 0) (eC (.int 2))))) (F_ 2 (xo (jH 5) (xo (jH 6) GL))) p_) (fZ (bQ 4)))))
def zi:List V3->aH->R3 V3:=n4 jz oM
def gT:List V3->aH->R3 V3:=n6 jz oM
theorem AD(T:Tp K mg cl)(h:Def K mg "_law_reads" jx)(i5:aX P w K mg base cl 1 "_law_all_wires" 3 fR):aX P w K mg base cl 2 "_law_reads" 3 zi:=by
 obtain⟨f,fd,F,hm⟩:=h;exact⟨f,fd,_,bL (k:=1) yP.2 m_.2 F eZ (fun dJ A outer s H E hr=>(ao (aN eZ.nd rfl (Or.inr rfl) (bo i5 hr (by decide) rfl (ae (ai (aa 0)) (ae (ai (aa 1)) (ae (ai (aa 2)) aJ))) (ag (ag (ag aI))))) (ao (aN eZ.nd rfl (Or.inl rfl) (ft (bK aq))) (ao (dr PassesOwn.never rfl (cw (bF (aF (aa 0) aj (fun _ _=>rfl)))) (jl rfl (bU (aQ eZ.nd rfl (Or.inl rfl)) (bU (aQ eZ.nd rfl (Or.inl rfl)) f7))) (ao (ko rfl eZ.nd rfl rfl (bO.of (own:=["wire"]) (kp:=[3]) (kn:=["found"]) (sc:=m_.1) (N:=jz) rfl rfl (by decide+kernel)) (cw (bF (aa 6))) (fun _ _ _=>(aQ (show List.Nodup [(Str.ofString "wire"),"found"] from by decide+kernel) rfl (Or.inl rfl))) (fun _ _ _=>gO) (fun _ _ _=>(ai (aF (aa 1) (aa 0) (fun _ _=>rfl))))) (ay (eR (cC (bt (gJ hr.units) (bx fY rfl T.z_len PySem.boot_len (af (aa 7) aq)) aj (bH _))) (ay (gZ rfl (Or.inl rfl) (ai (cG (af (aF (aa 7) aj (fun _ _=>rfl)) (af aj aq)))))) (ay (eR (cC (bt (gJ hr.units) (bx fY rfl T.z_len PySem.boot_len (af (aa 7) aq)) aj (bH _))) (ay (gZ rfl (Or.inl rfl) (ai (cG (af (aD oR (aF (aa 7) aj (fun _ _=>rfl)) (aF (aa 7) aj (fun _ _=>rfl))) (af (aD rP (aF (aa 7) aj (fun _ _=>rfl)) (aF (aa 7) aj (fun _ _=>rfl))) aq)))))) (ao (aN eZ.nd rfl (Or.inl rfl) (ai (aD pK (aD pK (aD oR (aF (aa 7) aj (fun _ _=>rfl)) (aF (aa 7) aj (fun _ _=>rfl))) (aD oR (aF (aa 7) aj (fun _ _=>rfl)) (aF (aa 7) aj (fun _ _=>rfl)))) (aD oR (aF (aa 7) aj (fun _ _=>rfl)) (aF (aa 7) aj (fun _ _=>rfl)))))) (ay (gZ rfl (Or.inl rfl) (ai (cG (af (aa 8) (af aj aq))))))))))))) (ay (cy (aO 4))))))),hm,F.kp,F.binds fun _ _ _ _ _ _ us hl=>match us,hl with | [_,_,_],_=>rfl⟩
abbrev ig:Stmt:=top 36
noncomputable abbrev rY:List Str:=["plain","reads","level","found","due","none","got","other"]
noncomputable def xB:{b:List Stmt // aM ig=b}:=⟨_,by conv=>lhs;whnf⟩
noncomputable def pX:{b:Scope // aC ig=b}:=⟨_,by conv=>lhs;whnf⟩
theorem dG:aW rY ["plain","reads","level"] pX.1:=⟨rfl,rfl,rfl,by decide+kernel,rfl,by decide+kernel,by decide+kernel⟩
def g8:FS:=(Dx (b2 jm (ab 2) (eC (.str "right"))) (rp 3 (e2 xx (e2 xx (ab 3) (e2 yM (ab 4) (ab 6))) (ab 7))) (rp 3 (e2 xx (ab 3) (e2 u0 (e2 yM (ab 4) (ab 6)) (N7 (ab 7))))))
def qZ:FS:=(iV (rp 3 (eC (.int 0))) (iV (xr (Gy (ab 0) (ab 1)) (gb 2 (bJ (gb 2 (bJ (aS 4) (bJ (aS 5) gp))) (bJ (gb 2 (bJ (aS 6) (bJ (aS 7) gp))) gp))) g8) (jy (ab 3))))
def fT:List D->R D:=xp rY qZ
theorem yQ(T:Tp K mg cl)(h:Def K mg "_law_broken" ig):Callee P w K mg base 1 "_law_broken" 3 fT:=by
 obtain⟨f,fd,F,hm⟩:=h;exact⟨f,fd,_,cN (k:=0) xB.2 pX.2 F dG (fun dJ A outer s H E hr=>(b3 (ie dG.nd rfl (Or.inl rfl) aj) (b3 (mG PassesOwn.never rfl (GS (aa 0) (aa 1) rfl T.z_zip) (gd rfl (bC (gd rfl (bC (aT dG.nd rfl (Or.inl rfl)) (bC (aT dG.nd rfl (Or.inl rfl)) eN))) (bC (gd rfl (bC (aT dG.nd rfl (Or.inl rfl)) (bC (aT dG.nd rfl (Or.inl rfl)) eN))) eN))) (bA (lu (bt (gJ hr.units) (aa 2) bS (bH _)) (bA (ie dG.nd rfl (Or.inl rfl) (aD pK (aD pK (aa 3) (aD rP (aa 4) (aa 6))) (aa 7)))) (bA (ie dG.nd rfl (Or.inl rfl) (aD pK (aa 3) (aD oR (aD rP (aa 4) (aa 6)) (JP (aa 7))))))))) (bA (cu (aa 3)))))),hm,F.kp,F.binds fun _ _ _ _ _ _ us hl=>match us,hl with | [_,_,_],_=>rfl⟩
abbrev fH:Stmt:=top 37
noncomputable abbrev e_:List Str:=["places","most","layer","found","turn","wider","some"]
noncomputable def uB:{b:List Stmt // aM fH=b}:=⟨_,by conv=>lhs;whnf⟩
noncomputable def jM:{b:Scope // aC fH=b}:=⟨_,by conv=>lhs;whnf⟩
theorem cS:aW e_ ["places","most"] jM.1:=⟨rfl,rfl,rfl,by decide+kernel,rfl,by decide+kernel,by decide+kernel⟩
def mw:FZ:=(Fo 5 (xP (eNew (dj (cI (ab 0)) (aS 0) (O8 (b2 jm (ab 1) (il bb)) (b2 Pn (ab 0) (e2 cb (ab 1) (GY (eC (.int 1)))))) (e2 oB (ab 1) (il (az (ab 0) bb))) ["place"] [6]))))
def mJ:FZ:=(Fh 2 (aU (bB 5 (ng (eB bb))) (aU (iC (iP (cI (ab 2))) (jH 6) mw) (aU (bB 2 (bQ 5)) (bB 3 (Nm (bQ 3) (bQ 2)))))))
def kh:FZ:=(aU (bB 2 (ng (eB (az (il bb) bb)))) (aU (bB 3 (ng (eB (az (il bb) bb)))) (aU (iC (iP (kD (ab 1))) (jH 4) mJ) (fZ (bQ 3)))))
def uX:List V3->aH->R3 V3:=n4 e_ kh
def dw:List V3->aH->R3 V3:=n6 e_ kh
theorem vx(T:Tp K mg cl)(h:Def K mg "_law_all_sets" fH):aX P w K mg base cl 1 "_law_all_sets" 2 uX:=by
 obtain⟨f,fd,F,hm⟩:=h;exact⟨f,fd,_,bL (k:=0) uB.2 jM.2 F cS (fun dJ A outer s H E hr=>(ao (aN cS.nd rfl (Or.inl rfl) (ft (bK (af (cG aq) aq)))) (ao (aN cS.nd rfl (Or.inl rfl) (ft (bK (af (cG aq) aq)))) (ao (dr PassesOwn.never rfl (cw (fI (aa 1) rfl T.z_range)) (aQ cS.nd rfl (Or.inl rfl)) (Eb 2 (ao (aN cS.nd rfl (Or.inl rfl) (ft (bK aq))) (ao (dr PassesOwn.never rfl (cw (bF (aa 2))) (aQ cS.nd rfl (Or.inr rfl)) (ay (GW rfl (Or.inl rfl) (ai (bR (cR rfl (bO.of (own:=["place"]) (kp:=[6]) (kn:=["some"]) (sc:=jM.1) (N:=e_) rfl rfl (by decide+kernel)) (bF (aa 0)) (fun _ _ _=>(aT (show List.Nodup [(Str.ofString "place"),"some"] from by decide+kernel) rfl (Or.inl rfl))) (fun _ _ _=>(gh (DI (D1 (bt (gJ hr.units) (aa 1) (cG aq) (bH _)) (A0 (bt N5 (aa 0) (aF (aa 1) (DX aj) (fun _ _=>rfl)) (bH _))))))) (fun _ _ _=>(aD sv (aa 1) (cG (af (aa 0) aq)))))))))) (ao (aN cS.nd rfl (Or.inl rfl) (aO 5)) (ay (aN cS.nd rfl (Or.inl rfl) (Nf (aO 3) (aO 2))))))))) (ay (cy (aO 3))))))),hm,F.kp,F.binds fun _ _ _ _ _ _ us hl=>match us,hl with | [_,_],_=>rfl⟩
abbrev eF:Stmt:=top 38
noncomputable abbrev jK:List Str:=["net"]
noncomputable def sC:{b:List Stmt // aM eF=b}:=⟨_,by conv=>lhs;whnf⟩
noncomputable def iZ:{b:Scope // aC eF=b}:=⟨_,by conv=>lhs;whnf⟩
theorem uM:aW jK ["net"] iZ.1:=⟨rfl,rfl,rfl,by decide+kernel,rfl,by decide+kernel,by decide+kernel⟩
def jJ:FS:=(jy (eNew (dj (eO (e2 cb (ab 0) (eC (.int 1)))) (gb 2 (bJ (aS 0) (bJ (aS 1) gp))) (xw (rF (e2 cb (ab 1) (eC (.int 2))))) (ab 0) ["place","gate"] [])))
def de:List D->R D:=xp jK jJ
theorem uG(T:Tp K mg cl)(h:Def K mg "_law_free_ones" eF):Callee P w K mg base 1 "_law_free_ones" 1 de:=by
 obtain⟨f,fd,F,hm⟩:=h;exact⟨f,fd,_,cN (k:=0) sC.2 iZ.2 F uM (fun dJ A outer s H E hr=>(bA (cu (bR (cR rfl (bO.of (own:=["place","gate"]) (kp:=[]) (kn:=[]) (sc:=iZ.1) (N:=jK) rfl rfl (by decide+kernel)) (iL (aF (aa 0) aj (fun _ _=>rfl)) rfl T.z_enumerate) (fun _ _ _=>(gd rfl (bC (aT (show List.Nodup [(Str.ofString "place"),"gate"] from by decide+kernel) rfl (Or.inl rfl)) (bC (aT (show List.Nodup [(Str.ofString "place"),"gate"] from by decide+kernel) rfl (Or.inl rfl)) eN)))) (fun _ _ _=>(gh (q8 (nu (aF (aa 1) aj (fun _ _=>rfl)))))) (fun _ _ _=>(aa 0))))))),hm,F.kp,F.binds fun _ _ _ _ _ _ us hl=>match us,hl with | [_],_=>rfl⟩
abbrev fD:Stmt:=top 39
noncomputable abbrev fw:List Str:=["net","many","level","ahead","plain","found","some","within"]
noncomputable def uP:{b:List Stmt // aM fD=b}:=⟨_,by conv=>lhs;whnf⟩
noncomputable def jE:{b:Scope // aC fD=b}:=⟨_,by conv=>lhs;whnf⟩
theorem d4:aW fw ["net","many","level"] jE.1:=⟨rfl,rfl,rfl,by decide+kernel,rfl,by decide+kernel,by decide+kernel⟩
def mj:FZ:=(aU (bB 7 (DM (dj (cI (ab 5)) (aS 0) (b2 jm (eNew (dj (cI (ab 0)) (aS 0) (b2 tG (ab 0) (ab 1)) (ab 0) ["place"] [1])) (eNew (eB bb))) (ab 0) ["one"] [6]))) (n9 (Le (bT (b2 jm (ab 7) (eNew (eB bb)))) (O7 Pb (lO fT (av (xP (ab 4)) (av (b9 gT (av (xP (ab 0)) (av (xP (ab 3)) (av (xP (ab 6)) cn)))) (av (xP (ab 2)) cn)))) (xP (eC (.int 0))))) (mq 5 (xP (ab 6))) gy))
def kf:FZ:=(aU (bB 3 (xP (bw fL (az (ab 0) bb)))) (aU (bB 4 (b9 gT (av (xP (ab 0)) (av (xP (ab 3)) (av (xP (il bb)) cn))))) (aU (bB 5 (ng (eB bb))) (aU (iC (xF (b9 dw (av (xP (bw de (az (ab 0) bb))) (av (xP (ab 1)) cn)))) (jH 6) mj) (fZ (bQ 5))))))
def uE:List V3->aH->R3 V3:=n4 fw kf
def gB:List V3->aH->R3 V3:=n6 fw kf
theorem w_(T:Tp K mg cl)(h:Def K mg "_law_breaking" fD)(k7:Callee P w K mg base 1 "_law_ins_bits" 1 fL)(dz:Callee P w K mg base 1 "_law_free_ones" 1 de)(nJ:Callee P w K mg base 1 "_law_broken" 3 fT)(j2:aX P w K mg base cl 2 "_law_reads" 3 gT)(dy:aX P w K mg base cl 1 "_law_all_sets" 2 dw):aX P w K mg base cl 3 "_law_breaking" 3 uE:=by
 obtain⟨f,fd,F,hm⟩:=h;exact⟨f,fd,_,bL (k:=2) uP.2 jE.2 F d4 (fun dJ A outer s H E hr=>(ao (aN d4.nd rfl (Or.inl rfl) (ai (cA k7 hr (by decide) rfl (af (aa 0) aq) (bz cU)))) (ao (aN d4.nd rfl (Or.inl rfl) (bo j2 hr (by decide) rfl (ae (ai (aa 0)) (ae (ai (aa 3)) (ae (ai (cG aq)) aJ))) (ag (ag (ag aI))))) (ao (aN d4.nd rfl (Or.inl rfl) (ft (bK aq))) (ao (dr PassesOwn.never rfl (nB (bo dy hr (by decide) rfl (ae (ai (cA dz hr (by decide) rfl (af (aa 0) aq) (bz cU))) (ae (ai (aa 1)) aJ)) (ag (ag aI)))) (aQ d4.nd rfl (Or.inr rfl)) (ao (Bj rfl d4.nd rfl rfl (bO.of (own:=["one"]) (kp:=[6]) (kn:=["some"]) (sc:=jE.1) (N:=fw) rfl rfl (by decide+kernel)) (bF (aa 5)) (fun _ _ _=>(aT (show List.Nodup [(Str.ofString "one"),"some"] from by decide+kernel) rfl (Or.inl rfl))) (fun _ _ _=>(gh (bt (gJ hr.units) (bR (cR rfl (bO.of (own:=["place"]) (kp:=[1]) (kn:=["some"]) rfl rfl rfl) (bF (aa 0)) (fun _ _ _=>(aT (show List.Nodup [(Str.ofString "place"),"some"] from by decide+kernel) rfl (Or.inl rfl))) (fun _ _ _=>(gh (bt Dk (aa 0) (aa 1) (by with_unfolding_all rfl)))) (fun _ _ _=>(aa 0)))) (bR (bK aq)) (bH _)))) (fun _ _ _=>(aa 0))) (ay (eR (Ot.pb (Eu (rq (bt (gJ hr.units) (aa 7) (bR (bK aq)) (bH _))) (zO (u6 (Ox hr.units) (vN nJ hr (by decide) rfl (ae (ai (aa 4)) (ae (bo j2 hr (by decide) rfl (ae (ai (aa 0)) (ae (ai (aa 3)) (ae (ai (aa 6)) aJ))) (ag (ag (ag aI)))) (ae (ai (aa 2)) aJ))) (ag (ag (ag aI)))) (ai aj) (bH _))))) (ay (gZ rfl (Or.inl rfl) (ai (aa 6)))) cP)))) (ay (cy (aO 5)))))))),hm,F.kp,F.binds fun _ _ _ _ _ _ us hl=>match us,hl with | [_,_,_],_=>rfl⟩
abbrev kQ:Stmt:=top 40
noncomputable abbrev vD:List Str:=["net","ins","gates","outs"]
noncomputable def AR:{b:List Stmt // aM kQ=b}:=⟨_,by conv=>lhs;whnf⟩
noncomputable def t4:{b:Scope // aC kQ=b}:=⟨_,by conv=>lhs;whnf⟩
theorem nv:aW vD ["net"] t4.1:=⟨rfl,rfl,rfl,by decide+kernel,rfl,by decide+kernel,by decide+kernel⟩
def Cn:FS:=(iV (NR (ab 0) (gb 3 (bJ (aS 1) (bJ (aS 2) (bJ (aS 3) gp))))) (jy (il (az (bw yi (az (ab 1) bb)) (az (bw yi (az (ab 2) bb)) (az (bw yi (az (ab 3) bb)) bb))))))
def nc:List D->R D:=xp vD Cn
theorem CP(T:Tp K mg cl)(h:Def K mg "_law_copy" kQ):Callee P w K mg base 1 "_law_copy" 1 nc:=by
 obtain⟨f,fd,F,hm⟩:=h;exact⟨f,fd,_,cN (k:=0) AR.2 t4.2 F nv (fun dJ A outer s H E hr=>(b3 (Ik (aa 0) (gd rfl (bC (aT nv.nd rfl (Or.inl rfl)) (bC (aT nv.nd rfl (Or.inl rfl)) (bC (aT nv.nd rfl (Or.inl rfl)) eN))))) (bA (cu (cG (af (iJ zq rfl T.z_list PyProof.Rows.boot_list (af (aa 1) aq)) (af (iJ zq rfl T.z_list PyProof.Rows.boot_list (af (aa 2) aq)) (af (iJ zq rfl T.z_list PyProof.Rows.boot_list (af (aa 3) aq)) aq)))))))),hm,F.kp,F.binds fun _ _ _ _ _ _ us hl=>match us,hl with | [_],_=>rfl⟩
abbrev d6:Stmt:=top 41
noncomputable abbrev iH:List Str:=["heard"]
noncomputable def rg:{b:List Stmt // aM d6=b}:=⟨_,by conv=>lhs;whnf⟩
noncomputable def hV:{b:Scope // aC d6=b}:=⟨_,by conv=>lhs;whnf⟩
theorem tm:aW iH ["heard"] hV.1:=⟨rfl,rfl,rfl,by decide+kernel,rfl,by decide+kernel,by decide+kernel⟩
def mD:FS:=(iV (Dx (xw (rF (FF "tuple" (ab 0)))) (jy (eC (.bl false))) zp) (jy (e2 jm (eNew (dj (cI (ab 0)) (aS 0) (O8 (rF (FF "bool" (ab 0))) (xw (rF (FF "int" (ab 0))))) (ab 0) ["place"] [])) (eNew (eB bb)))))
def dY:List D->R D:=xp iH mD
theorem tf(T:Tp K mg cl)(h:Def K mg "_law_are_places" d6):Callee P w K mg base 1 "_law_are_places" 1 dY:=by
 obtain⟨f,fd,F,hm⟩:=h;exact⟨f,fd,_,cN (k:=0) rg.2 hV.2 F tm (fun dJ A outer s H E hr=>(b3 (lu (q8 (nu (yS (aa 0) (by decide) rfl T.z_isinstance rfl T.z_tuple PyProof.Rows.boot_tuple))) (bA (cu vT)) kB) (bA (cu (zt (gJ hr.units) (bR (cR rfl (bO.of (own:=["place"]) (kp:=[]) (kn:=[]) (sc:=hV.1) (N:=iH) rfl rfl (by decide+kernel)) (bF (aa 0)) (fun _ _ _=>(aT (show List.Nodup [(Str.ofString "place")] from by decide+kernel) rfl (Or.inl rfl))) (fun _ _ _=>(gh (DI (D1 (nu (yS (aa 0) (by decide) rfl T.z_isinstance rfl T.z_bool PyProof.Rows.boot_bool)) (A0 (q8 (nu (yS (aa 0) (by decide) rfl T.z_isinstance rfl T.z_int PyProof.Rows.boot_int)))))))) (fun _ _ _=>(aa 0)))) (bR (bK aq)) (bH _)))))),hm,F.kp,F.binds fun _ _ _ _ _ _ us hl=>match us,hl with | [_],_=>rfl⟩
abbrev mB:Stmt:=top 42
noncomputable abbrev l4:List Str:=["net","many","level","sets","some"]
noncomputable def BD:{b:List Stmt // aM mB=b}:=⟨_,by conv=>lhs;whnf⟩
noncomputable def qx:{b:Scope // aC mB=b}:=⟨_,by conv=>lhs;whnf⟩
theorem sY:aW l4 ["net","many","level"] qx.1:=⟨rfl,rfl,rfl,by decide+kernel,rfl,by decide+kernel,by decide+kernel⟩
def uo:FZ:=(n9 (bP (b2 jm (eNew (dj (cI (ab 3)) (aS 0) (b2 jm (eNew (dj (cI (ab 0)) (aS 0) (b2 Ep (ab 0) (ab 1)) (ab 0) ["place"] [1])) (eNew (eB bb))) (ab 0) ["one"] [4])) (eNew (eB bb)))) (fZ (xP (ab 4))) gy)
def sZ:FZ:=(aU (bB 3 (b9 gB (av (xP (ab 0)) (av (xP (ab 1)) (av (xP (ab 2)) cn))))) (aU (iC (xF (b9 dw (av (xP (bw de (az (ab 0) bb))) (av (xP (bw iW (az (e2 cb (ab 0) (eC (.int 1))) bb))) cn)))) (jH 4) uo) (fZ (xP (eC .cK)))))
def CW:List V3->aH->R3 V3:=n4 l4 sZ
def nD:List V3->aH->R3 V3:=n6 l4 sZ
theorem FC(T:Tp K mg cl)(h:Def K mg "_law_due" mB)(dz:Callee P w K mg base 1 "_law_free_ones" 1 de)(jQ:aX P w K mg base cl 3 "_law_breaking" 3 gB)(dy:aX P w K mg base cl 1 "_law_all_sets" 2 dw):aX P w K mg base cl 4 "_law_due" 3 CW:=by
 obtain⟨f,fd,F,hm⟩:=h;exact⟨f,fd,_,bL (k:=3) BD.2 qx.2 F sY (fun dJ A outer s H E hr=>(ao (aN sY.nd rfl (Or.inl rfl) (bo jQ hr (by decide) rfl (ae (ai (aa 0)) (ae (ai (aa 1)) (ae (ai (aa 2)) aJ))) (ag (ag (ag aI))))) (ao (dr PassesOwn.never rfl (nB (bo dy hr (by decide) rfl (ae (ai (cA dz hr (by decide) rfl (af (aa 0) aq) (bz cU))) (ae (ai (bx fY rfl T.z_len PySem.boot_len (af (aF (aa 0) aj (fun _ _=>rfl)) aq))) aJ)) (ag (ag aI)))) (aQ sY.nd rfl (Or.inr rfl)) (ay (eR (cC (bt (gJ hr.units) (bR (cR rfl (bO.of (own:=["one"]) (kp:=[4]) (kn:=["some"]) (sc:=qx.1) (N:=l4) rfl rfl (by decide+kernel)) (bF (aa 3)) (fun _ _ _=>(aT (show List.Nodup [(Str.ofString "one"),"some"] from by decide+kernel) rfl (Or.inl rfl))) (fun _ _ _=>(gh (bt (gJ hr.units) (bR (cR rfl (bO.of (own:=["place"]) (kp:=[1]) (kn:=["some"]) rfl rfl rfl) (bF (aa 0)) (fun _ _ _=>(aT (show List.Nodup [(Str.ofString "place"),"some"] from by decide+kernel) rfl (Or.inl rfl))) (fun _ _ _=>(gh (bt ID (aa 0) (aa 1) (by with_unfolding_all rfl)))) (fun _ _ _=>(aa 0)))) (bR (bK aq)) (bH _)))) (fun _ _ _=>(aa 0)))) (bR (bK aq)) (bH _))) (ay (cy (ai (aa 4)))) cP))) (ay (cy (ai rB)))))),hm,F.kp,F.binds fun _ _ _ _ _ _ us hl=>match us,hl with | [_,_,_],_=>rfl⟩
abbrev kC:Stmt:=top 43
noncomputable abbrev m5:List Str:=["pot","net","many","level","handed","heard"]
noncomputable def A1:{b:List Stmt // aM kC=b}:=⟨_,by conv=>lhs;whnf⟩
noncomputable def ue:{b:Scope // aC kC=b}:=⟨_,by conv=>lhs;whnf⟩
theorem iK:aW m5 ["pot"] ue.1:=⟨rfl,rfl,rfl,by decide+kernel,rfl,by decide+kernel,by decide+kernel⟩
def qt:FZ:=(aU (bB 1 (b9 gC (av (bQ 0) (av (xP (eC (.int 3))) (av (xP (eC (.int 7))) (av (xP (eC (.int 3))) cn)))))) (aU (bB 2 (b9 aY (av (bQ 0) (av (xP (eC (.int 4))) cn)))) (aU (bB 3 (O6 (xP (eNew (eB (az (eC (.str "right")) (az (eC (.str "safe")) bb))))) (b9 aY (av (bQ 0) (av (xP (eC (.int 2))) cn))))) (aU (bB 4 (xP (bw nc (az (ab 1) bb)))) (aU (bB 5 (b9 pj (av (xP (ab 4)) (av (xP (ab 2)) (av (xP (ab 3)) cn))))) (fZ (KC (xP (bw dY (az (ab 5) bb))) (KC (x2 jm (xP (ab 5)) (b9 nD (av (xP (ab 1)) (av (xP (ab 2)) (av (xP (ab 3)) cn))))) (xP (e2 jm (ab 4) (ab 1)))))))))))
def Aj:List V3->aH->R3 V3:=n4 m5 qt
def oJ:List V3->aH->R3 V3:=n6 m5 qt
theorem BQ(T:Tp K mg cl)(h:Def K mg "_law_case" kC)(qG:Callee P w K mg base 1 "_law_copy" 1 nc)(i0:Callee P w K mg base 1 "_law_are_places" 1 dY)(jS:aX P w K mg base cl 3 "_law_some_net" 4 gC)(aZ:aX P w K mg base cl 1 "_law_next" 2 aY)(tR:aX P w K mg base cl 16 "surest" 3 pj)(qM:aX P w K mg base cl 4 "_law_due" 3 nD):aX P w K mg base cl 17 "_law_case" 1 Aj:=by
 obtain⟨f,fd,F,hm⟩:=h;exact⟨f,fd,_,bL (k:=16) A1.2 ue.2 F iK (fun dJ A outer s H E hr=>(ao (aN iK.nd rfl (Or.inl rfl) (bo jS hr (by decide) rfl (ae (aO 0) (ae (ai aj) (ae (ai aj) (ae (ai aj) aJ)))) (ag (ag (ag (ag aI)))))) (ao (aN iK.nd rfl (Or.inl rfl) (bo aZ hr (by decide) rfl (ae (aO 0) (ae (ai aj) aJ)) (ag (ag aI)))) (ao (aN iK.nd rfl (Or.inl rfl) (G5 (ai (bR (bK (af bS (af bS aq))))) (bo aZ hr (by decide) rfl (ae (aO 0) (ae (ai aj) aJ)) (ag (ag aI))) (fun _ _=>rfl))) (ao (aN iK.nd rfl (Or.inl rfl) (ai (cA qG hr (by decide) rfl (af (aa 1) aq) (bz cU)))) (ao (aN iK.nd rfl (Or.inl rfl) (bo tR hr (by decide) rfl (ae (ai (aa 4)) (ae (ai (aa 2)) (ae (ai (aa 3)) aJ))) (ag (ag (ag aI))))) (ay (cy (Ip (ai (cA i0 hr (by decide) rfl (af (aa 5) aq) (bz cU))) (Ip (HJ (gJ hr.units) (ai (aa 5)) (bo qM hr (by decide) rfl (ae (ai (aa 1)) (ae (ai (aa 2)) (ae (ai (aa 3)) aJ))) (ag (ag (ag aI)))) (bH _)) (OC (ai (zt (gJ hr.units) (aa 4) (aa 1) (bH _)))))))))))))),hm,F.kp,F.binds fun _ _ _ _ _ _ us hl=>match us,hl with | [_],_=>rfl⟩
abbrev Ei:Stmt:=top 44
noncomputable abbrev wX:List Str:=["script","pot"]
noncomputable def N6:{b:List Stmt // aM Ei=b}:=⟨_,by conv=>lhs;whnf⟩
noncomputable def HA:{b:Scope // aC Ei=b}:=⟨_,by conv=>lhs;whnf⟩
theorem L_:aW wX ["script"] HA.1:=⟨rfl,rfl,rfl,by decide+kernel,rfl,by decide+kernel,by decide+kernel⟩
def DP:FZ:=(n9 (Kf (GI (b9 oJ (av (bQ 1) cn)))) (fZ (xP (eC (.bl false)))) gy)
def x8:FZ:=(aU (iC (xF (b9 lr (av (xP (My (ab 0) wY (qT (eC (.int 3))))) cn))) (jH 1) DP) (fZ (xP (eC (.bl true)))))
def Te:List V3->aH->R3 V3:=n4 wX x8
def SD:List V3->aH->R3 V3:=n6 wX x8
def Em:List D->R D:=RB wX x8
structure Cf (K:W.Frag) (mg:Str->Option Value) (cl:Nat->Addr):Prop where
 C_Bench:zJ K (cl 0)
 N_Bench_net:dn K (cl 0) "net"
 N_Bench_many_inputs:dn K (cl 0) "many_inputs"
 N_Bench_full:dn K (cl 0) "full"
 N_Bench_in_masks:dn K (cl 0) "in_masks"
 M_Bench:mg "Bench"=some (.ref (cl 0))
 C_Trial:zJ K (cl 1)
 N_Trial_bench:dn K (cl 1) "bench"
 N_Trial_plain:dn K (cl 1) "plain"
 N_Trial_unsure:dn K (cl 1) "unsure"
 M_Trial:mg "Trial"=some (.ref (cl 1))
 d_:ER K (cl 0) "__init__" "Bench.__init__" cj
 gz:za K (cl 0) "tells" "Bench.tells" cQ
 ee:za K (cl 0) "readings" "Bench.readings" cg
 ef:ER K (cl 1) "__init__" "Trial.__init__" cq
 dM:za K (cl 1) "breaks_at" "Trial.breaks_at" bW
theorem Qs{K:W.Frag}{h:Heap}(X:K.In h)(G:h.Ns mainGlobals mg){C0:Addr}{C1:Addr}{f0:Addr}{WY Xk:Option Addr}{W8:Array (Option Value)}{XX XW XC X6 VC Xb:Value}{f1:Addr}{Xu Xe:Option Addr}{X8:Array (Option Value)}{W6 Yg WZ Xa Vz Yf:Value}{f2:Addr}{Xy Yk:Option Addr}{Pd:Array (Option Value)}{Xh X2 XB XD Vx XY:Value}{f3:Addr}{Yi XZ:Option Addr}{Yc:Array (Option Value)}{X1 XU WX WT VG XI:Value}{f4:Addr}{Xo Yd:Option Addr}{XA:Array (Option Value)}{X9 W_ X4 Yh VB X5:Value}(Uv:PySem.W.nsIn K mainGlobals "Bench"=some (some (.ref C0)))(Ug:PySem.W.plainGet K C0 Str.empty=true)(OU:PySem.W.hasDictIn K C0=true)(Ux:PySem.W.plainOver K C0=true)(T6:PySem.W.findIn K (.ref C0) "__setattr__"=some (some (.builtin "object.__setattr__")))(Um:PySem.W.makesIn K C0=true)(TQ:PySem.W.keepIn K (.ref C0)=true)(C7:PySem.W.findIn K (.ref C0) "net"=some none)(kZ:PySem.W.findIn K (.ref C0) "many_inputs"=some none)(zF:PySem.W.findIn K (.ref C0) "full"=some none)(o_:PySem.W.findIn K (.ref C0) "in_masks"=some none)(UD:PySem.W.nsIn K mainGlobals "Trial"=some (some (.ref C1)))(Tz:PySem.W.plainGet K C1 Str.empty=true)(Uy:PySem.W.hasDictIn K C1=true)(Ub:PySem.W.plainOver K C1=true)(Uu:PySem.W.findIn K (.ref C1) "__setattr__"=some (some (.builtin "object.__setattr__")))(TK:PySem.W.makesIn K C1=true)(Ua:PySem.W.keepIn K (.ref C1)=true)(xj:PySem.W.findIn K (.ref C1) "bench"=some none)(xc:PySem.W.findIn K (.ref C1) "plain"=some none)(tL:PySem.W.findIn K (.ref C1) "unsure"=some none)(i9:PySem.W.findIn K (.ref C0) "__init__"=some (some (.ref f0)))(je:PySem.W.isFn K (.ref f0)=true)(i7:K.lookup f0=some ⟨XX,WY, .func (PySem.W.fnOf "__init__" "Bench.__init__" (ji cj) (aM cj) (aC cj) .none XW XC X6 Xk VC Xb),W8⟩)(dW:PySem.W.codeIn K VC "Bench.__init__"=true)(i4:PySem.W.keepIn K (.ref f0)=true)(lR:PySem.W.findIn K (.ref C0) "tells"=some (some (.ref f1)))(lY:PySem.W.isFn K (.ref f1)=true)(lW:K.lookup f1=some ⟨W6,Xu, .func (PySem.W.fnOf "tells" "Bench.tells" (ji cQ) (aM cQ) (aC cQ) .none Yg WZ Xa Xe Vz Yf),X8⟩)(f_:PySem.W.codeIn K Vz "Bench.tells"=true)(jo:PySem.W.keepIn K (.ref f1)=true)(jb:PySem.W.findIn K (.ref C0) "readings"=some (some (.ref f2)))(jg:PySem.W.isFn K (.ref f2)=true)(jc:K.lookup f2=some ⟨Xh,Xy, .func (PySem.W.fnOf "readings" "Bench.readings" (ji cg) (aM cg) (aC cg) .none X2 XB XD Yk Vx XY),Pd⟩)(d7:PySem.W.codeIn K Vx "Bench.readings"=true)(fW:PySem.W.keepIn K (.ref f2)=true)(jf:PySem.W.findIn K (.ref C1) "__init__"=some (some (.ref f3)))(ja:PySem.W.isFn K (.ref f3)=true)(i3:K.lookup f3=some ⟨X1,Yi, .func (PySem.W.fnOf "__init__" "Trial.__init__" (ji cq) (aM cq) (aC cq) .none XU WX WT XZ VG XI),Yc⟩)(d3:PySem.W.codeIn K VG "Trial.__init__"=true)(i_:PySem.W.keepIn K (.ref f3)=true)(ip:PySem.W.findIn K (.ref C1) "breaks_at"=some (some (.ref f4)))(iy:PySem.W.isFn K (.ref f4)=true)(iz:K.lookup f4=some ⟨X9,Xo, .func (PySem.W.fnOf "breaks_at" "Trial.breaks_at" (ji bW) (aM bW) (aC bW) .none W_ X4 Yh Yd VB X5),XA⟩)(dD:PySem.W.codeIn K VB "Trial.breaks_at"=true)(eV:PySem.W.keepIn K (.ref f4)=true):∃cl,Cf K mg cl:=by
 exact⟨fun n=>if n=0 then C0 else C1,⟨Ug,OU,Ux,T6⟩,C7,kZ,zF,o_,PySem.W.mg_of X G Uv,⟨Tz,Uy,Ub,Uu⟩,xj,xc,tL,PySem.W.mg_of X G UD,⟨_,_,tj (st:=cj) i7 dW i4,⟨Um,i9,je,TQ⟩⟩,⟨_,_,tj (st:=cQ) lW f_ jo,⟨lR,lY,jo⟩⟩,⟨_,_,tj (st:=cg) jc d7 fW,⟨jb,jg,fW⟩⟩,⟨_,_,tj (st:=cq) i3 d3 i_,⟨TK,jf,ja,Ua⟩⟩,⟨_,_,tj (st:=bW) iz dD eV,⟨ip,iy,eV⟩⟩⟩
theorem NC{K:W.Frag}{f:Addr}{fd:FuncData}{cl:Nat->Addr}(T:Tp K mg cl)(tW:Def K mg "vote_of" l0)(o9:Def K mg "gate_mask" jv)(jN:Def K mg "in_wire_masks" eA)(qN:Def K mg "masks_at" ka)(nM:Def K mg "wire_masks" h_)(o8:Def K mg "out_masks" jA)(tY:Def K mg "reading" my)(nK:Def K mg "all_inputs" gS)(tJ:Def K mg "mask_of" mf)(tT:Def K mg "in_mask" mz)(tQ:Def K mg "choices" mM)(tK:Def K mg "has_all" mK)(d_:ER K (cl 0) "__init__" "Bench.__init__" cj)(gz:za K (cl 0) "tells" "Bench.tells" cQ)(ee:za K (cl 0) "readings" "Bench.readings" cg)(ef:ER K (cl 1) "__init__" "Trial.__init__" cq)(dM:za K (cl 1) "breaks_at" "Trial.breaks_at" bW)(qJ:Def K mg "breaking" kg)(lX:Def K mg "count_apart" f9)(xi:Def K mg "behind" oY)(lV:Def K mg "groups_left" gu)(kY:Def K mg "first_places" fk)(xh:Def K mg "surest" oZ)(qI:Def K mg "_law_next" kR)(qD:Def K mg "_law_pots" kO)(k3:Def K mg "_law_some_ins" fG)(qK:Def K mg "_law_gate" kq)(qH:Def K mg "_law_twin" kA)(k9:Def K mg "_law_some_net" fg)(k8:Def K mg "_law_ins_bits" fq)(jP:Def K mg "_law_all_wires" eI)(pd:Def K mg "_law_reads" jx)(nL:Def K mg "_law_broken" ig)(k6:Def K mg "_law_all_sets" fH)(jR:Def K mg "_law_free_ones" eF)(k4:Def K mg "_law_breaking" fD)(qL:Def K mg "_law_copy" kQ)(jd:Def K mg "_law_are_places" d6)(tU:Def K mg "_law_due" mB)(qF:Def K mg "_law_case" kC)(F:EA K "law" "law" Ei f fd):jI P w K mg base xn 18 f fd ["script"] (Ih K 1 Em):=by
 have j8:=Fc (P:=P) (w:=w) (base:=base) T tW;have pf:=AS (P:=P) (w:=w) (base:=base) T o9 j8;have fX:=uw (P:=P) (w:=w) (base:=base) T jN;have XP_in_wire_masks:=fX.p;have i8:=B0 (P:=P) (w:=w) (base:=base) T qN;have XK_wire_masks:=zd (P:=P) (w:=w) (base:=base) T nM i8 pf fX;have lU:=XK_wire_masks.p;have XK_out_masks:=Be (P:=P) (w:=w) (base:=base) T o8 i8;have nO:=XK_out_masks.p;have tS:=Ff (P:=P) (w:=w) (base:=base) T tY j8;have XK_all_inputs:=zg (P:=P) (w:=w) (base:=base) T nK;have lZ:=XK_all_inputs.p;have j7:=EW (P:=P) (w:=w) (base:=base) T tJ;have tM:=Fx (P:=P) (w:=w) (base:=base) T tT j7;have tO:=xY (P:=P) (w:=w) (base:=base) T tQ 4;have tZ:=EH (P:=P) (w:=w) (base:=base) T tK;have iq:=dW (P:=P) (w:=w) (base:=base) T d_ j7 tM lZ;have XK_Bench_tells:=f_ (P:=P) (w:=w) (base:=base) T gz lU nO;have k5:=XK_Bench_tells.p;have XK_Bench_readings:=d7 (P:=P) (w:=w) (base:=base) T ee tS k5;have c9:=XK_Bench_readings.p;have ix:=d3 (P:=P) (w:=w) (base:=base) T ef iq c9;have XK_Trial_breaks_at:=dD (P:=P) (w:=w) (base:=base) T dM c9;have gM:=XK_Trial_breaks_at.p;have XK_breaking:=BP (P:=P) (w:=w) (base:=base) T qJ tO tZ ix gM;have pe:=XK_breaking.p;have XK_count_apart:=xQ (P:=P) (w:=w) (base:=base) T lX;have iu:=XK_count_apart.p;have xk:=HY (P:=P) (w:=w) (base:=base) T xi;have jn:=xK (P:=P) (w:=w) (base:=base) T lV xk;have gH:=oi (P:=P) (w:=w) (base:=base) T kY jn iu 12;have XK_surest:=Hs (P:=P) (w:=w) (base:=base) T xh pe gH;have tR:=XK_surest.p;have XK_law_next:=BH (P:=P) (w:=w) (base:=base) T qI;have aZ:=XK_law_next.p;have XK_law_pots:=BW (P:=P) (w:=w) (base:=base) T qD;have XP_law_pots:=XK_law_pots.p;have XK_law_some_ins:=vI (P:=P) (w:=w) (base:=base) T k3 aZ;have jO:=XK_law_some_ins.p;have XK_law_gate:=Cv (P:=P) (w:=w) (base:=base) T qK aZ;have ph:=XK_law_gate.p;have XK_law_twin:=BF (P:=P) (w:=w) (base:=base) T qH aZ;have fQ:=XK_law_twin.p;have XK_law_some_net:=vO (P:=P) (w:=w) (base:=base) T k9 jO aZ ph fQ;have jS:=XK_law_some_net.p;have k7:=wV (P:=P) (w:=w) (base:=base) T k8;have XK_law_all_wires:=uK (P:=P) (w:=w) (base:=base) T jP;have i5:=XK_law_all_wires.p;have XK_law_reads:=AD (P:=P) (w:=w) (base:=base) T pd i5;have j2:=XK_law_reads.p;have nJ:=yQ (P:=P) (w:=w) (base:=base) T nL;have XK_law_all_sets:=vx (P:=P) (w:=w) (base:=base) T k6;have dy:=XK_law_all_sets.p;have dz:=uG (P:=P) (w:=w) (base:=base) T jR;have XK_law_breaking:=w_ (P:=P) (w:=w) (base:=base) T k4 k7 dz nJ j2 dy;have jQ:=XK_law_breaking.p;have qG:=CP (P:=P) (w:=w) (base:=base) T qL;have i0:=tf (P:=P) (w:=w) (base:=base) T jd;have XK_law_due:=FC (P:=P) (w:=w) (base:=base) T tU dz jQ dy;have qM:=XK_law_due.p;have XK_law_case:=BQ (P:=P) (w:=w) (base:=base) T qF qG i0 jS aZ tR qM;have XP_law_case:=XK_law_case.p;exact(bL (cl:=cl) (N:=wX) (F:=x8) (k:=17) N6.2 HA.2 F L_ (fun dJ A outer s H E hr=>(ao (dr PassesOwn.never rfl (nB (bo XK_law_pots hr (by decide) rfl (ae (ai (C4 (aa 0) rQ (rV aj))) aJ) (ag aI))) (aQ L_.nd rfl (Or.inl rfl)) (ay (eR (DQ (AW (bo XP_law_case hr (by decide) rfl (ae (aO 1) aJ) (ag aI)))) (ay (cy (ai vT))) cP))) (ay (cy (ai vT)))))).imp fun _ _ _ _ h=>NB h
end K22
end
section
namespace K22
open PySem PySem.Spec PyProof.Rows L2 L3
theorem Ed{S:aH}{k:Nat}{o x:SO}(h:S[k]? =some x):(S.set k o)[k]? =some o:=by
 obtain⟨h1,_⟩:=List.getElem?_eq_some_iff.mp h;rw[List.getElem?_set_self h1]
def zI(k:Nat)(S:aH):Prop:=Flat S/\∃a c,S[k]? =some (.lst [.int a, .int c])
structure Ev (k:Nat) (S S1:aH):Prop where
 p:zI k S1
 len:S1.length=S.length
 oth:∀j,j≠k->S1[j]? =S[j]?
theorem Ev.trans{k:Nat}{S S1 S2:aH}(a:Ev k S S1)(b:Ev k S1 S2):Ev k S S2:=⟨b.p,b.len.trans a.len,fun j h=>(b.oth j h).trans (a.oth j h)⟩
theorem zI.lt{k:Nat}{S:aH}(p:zI k S):k < S.length:=by
 obtain⟨_,a,c,e⟩:=p;exact(List.getElem?_eq_some_iff.mp e).1
theorem pZ(ds:List D):∀n,pM n (.lst ds)=true:=fun _=>rfl
theorem D_{S:aH}{k:Nat}{m:Int}(p:zI k S)(hm:0 < m)(QZ:m < 1000000){Q:V3->aH->Prop}
 (h:∀(r:Int) S1,0<=r->r < m->zI k S1->S1.length=S.length->(∀j,j≠k->S1[j]? =S[j]?)->Q (.d (.int r)) S1):W3 (aY [.loc k, .d (.int m)] S) Q:=by
 obtain⟨hL,a,c,e⟩:=p;unfold aY;refine vL (ve rfl ?_);simp only[cv,mW,List.map,List.length,List.replicate,List.cons_append,List.nil_append,Nat.reduceAdd,Nat.reduceSub];unfold qp;refine aA (LX (Ds (d:= .int (c+1)) ?_ rfl ?_))
 .simp (implicitDefEqProofs:=false) (disch:=first | omega | decide) only[ab,eC,e2,b2,iX,Ak,EO,qr,R.bj,List.map_cons,List.getElem?_cons_zero,List.getElem?_cons_succ,down,cO,res,cJ,decide_eq_true_eq,Int.reduceToNat,e,cb,sR]
  rfl
 refine w_var (v:= .loc k) rfl (bV (d:= .int 1) rfl ⟨_,k,1,[.int a, .int c],1,rfl,rfl,rfl,e,rfl,_,rfl,?_⟩);simp only[List.set];have e1:(S.set k (.lst [.int a, .int (c+1)]))[k]? =some (.lst [.int a, .int (c+1)]):=Ed e;have Q6:Flat (S.set k (.lst [.int a, .int (c+1)])):=hL.set _ (pZ _);have zE:(S.set k (.lst [.int a, .int (c+1)])).length=S.length:=List.length_set;have ho:∀j,j≠k->(S.set k (.lst [.int a, .int (c+1)]))[j]? =S[j]?:=fun j hj=>List.getElem?_set_ne (Ne.symm hj)
 generalize S.set k (.lst [.int a, .int (c+1)])=S1 at e1 Q6 zE ho;refine aA (a_ (by simp) (Ds (d:= .int a) ?_ rfl ⟨_,rfl,?_⟩))
 .simp (implicitDefEqProofs:=false) (disch:=first | omega | decide) only[ab,eC,e2,b2,iX,Ak,EO,qr,R.bj,List.map_cons,List.getElem?_cons_zero,List.getElem?_cons_succ,down,cO,res,cJ,decide_eq_true_eq,Int.reduceToNat,e1,cb,sR]
  rfl
 simp only[List.set];have fin:∀(r:Int) S2,0<=r->r < m->zI k S2->S2.length=S1.length->(∀j,j≠k->S2[j]? =S1[j]?)->Flat S2/\gf S.length (.d (.int r))=true/\∃d,res S2 (.d (.int r))=some d/\Q (.d d) (S2.take S.length):=fun r S2 h1 h2 p2 hl hj=>by
  refine⟨p2.1,by unfold gf;rfl, .int r,by unfold res;rfl,?_⟩
  rw[List.take_of_length_le (by omega)]
  exact h r S2 h1 h2 p2 (by omega) fun j RQ=>(hj j RQ).trans (ho j RQ)
 by_cases hc:(1000000000000000000:Int)<=a
 .refine GZ (j0 (dt (b:=true) ?_ ?_))
  .simp (implicitDefEqProofs:=false) (disch:=first | omega | decide) only[ab,eC,e2,b2,iX,Ak,EO,qr,R.bj,List.map_cons,List.getElem?_cons_zero,List.getElem?_cons_succ,down,cO,res,cJ,decide_eq_true_eq,Int.reduceToNat,hc]
   simp [hc]
  rw[if_pos rfl];refine aA (LX (bV (d:= .int (a / m)) ?_ (w_var (v:= .loc k) rfl (bV (d:= .int 0) rfl ⟨_,k,0,_,0,rfl,rfl,rfl,e1,rfl,_,rfl,?_⟩))))
  .exact au (a:= .int a) (b:= .int m) rfl rfl (J1 hm (by omega))
  refine dC (bV (d:= .int (a % m)) (au (a:= .int a) (b:= .int m) rfl rfl (Cr hm)) ⟨_,rfl,_,rfl,?_⟩);exact fin _ _ (Int.emod_nonneg _ (by omega)) (Int.emod_lt_of_pos _ hm) ⟨Q6.set _ (pZ _),_,_,Ed e1⟩ List.length_set fun j hj=>List.getElem?_set_ne (Ne.symm hj)
 .refine aA (j0 (dt (b:=false) ?_ ?_))
  .simp (implicitDefEqProofs:=false) (disch:=first | omega | decide) only[ab,eC,e2,b2,iX,Ak,EO,qr,R.bj,List.map_cons,List.getElem?_cons_zero,List.getElem?_cons_succ,down,cO,res,cJ,decide_eq_true_eq,Int.reduceToNat,hc]
   simp [hc]
  rw[if_neg (by decide)]
  refine fO ⟨_,rfl,?_⟩;refine aA (a_ (by simp) (Ds (d:= .int ((a*69621+(c+1)*7919+13) % 2147483647)) ?_ rfl ⟨_,rfl,?_⟩))
  .have hi:cb (.lst [.int a, .int (c+1)]) (.int 1)= .ok (.int (c+1)):=rfl;simp (implicitDefEqProofs:=false) (disch:=first | omega | decide) only[ab,eC,e2,b2,iX,Ak,EO,qr,R.bj,List.map_cons,List.getElem?_cons_zero,List.getElem?_cons_succ,down,cO,res,cJ,decide_eq_true_eq,Int.reduceToNat,e1,hi]
  simp only[List.set];have Ri:0<=(a*69621+(c+1)*7919+13) % 2147483647:=Int.emod_nonneg _ (by omega)
  have F5:(a*69621+(c+1)*7919+13) % 2147483647 < 2147483647:=Int.emod_lt_of_pos _ (by omega)
  generalize (a*69621+(c+1)*7919+13) % 2147483647=x at Ri F5;refine aA (a_ (by simp) (bV (d:= .int (x*x % 2147483629)) ?_ ⟨_,rfl,?_⟩))
  .simp (implicitDefEqProofs:=false) (disch:=first | omega | decide) only[ab,eC,e2,b2,iX,Ak,EO,qr,R.bj,List.map_cons,List.getElem?_cons_zero,List.getElem?_cons_succ,down,cO,res,cJ,decide_eq_true_eq,Int.reduceToNat]
  simp only[List.set];generalize x*x % 2147483629=y;refine dC (Ds (d:= .int ((y*48271+(c+1)*40692) % 2147483587 / 8 % m)) ?_ rfl ⟨_,rfl,?_⟩)
  .have hi:cb (.lst [.int a, .int (c+1)]) (.int 1)= .ok (.int (c+1)):=rfl;simp (implicitDefEqProofs:=false) (disch:=first | omega | decide) only[ab,eC,e2,b2,iX,Ak,EO,qr,R.bj,List.map_cons,List.getElem?_cons_zero,List.getElem?_cons_succ,down,cO,res,cJ,decide_eq_true_eq,Int.reduceToNat,e1,hi]
  exact fin _ _ (Int.emod_nonneg _ (by omega)) (Int.emod_lt_of_pos _ hm) ⟨Q6,_,_,e1⟩ rfl fun j hj=>rfl
section
variable {S:aH} {δ:DE} {k i:Nat}
theorem draw{Q:V3->aH->Prop}{f:FD}{m:Int}(hv:δ[i]? =some (some (.loc k)))(p:zI k S)(hf:f (down δ)= .ok (.int m))(hm:0 < m)(QZ:m < 1000000)
 (h:∀(r:Int) S1,0<=r->r < m->Ev k S S1->Q (.d (.int r)) S1):W3 (b9 aY (av (bQ i) (av (xP f) cn)) δ S) Q:=
 cF (ax (w_var hv (ax (bV hf (b_ (D_ p hm QZ fun r S1 h1 h2 p1 hl ho=>h r S1 h1 h2 ⟨p1,hl,ho⟩))))))
end
end K22
end
section
namespace K22
open PySem PySem.Spec PyProof.Rows L2 L3 MT
theorem FE{a:D}{r:List D}:cb (.tup (a ::r)) (.int 0)= .ok a:=wM (by rw[qy (by omega) (by simp)];rfl)
theorem He{a b:D}{r:List D}:cb (.tup (a ::b ::r)) (.int 1)= .ok b:=wM (by rw[qy (by omega) (by simp)];rfl)
theorem U3{a b c:D}{r:List D}:cb (.tup (a ::b ::c ::r)) (.int 2)= .ok c:=wM (by rw[qy (by omega) (by simp)];rfl)
theorem DY{N:Nat}{a b c:M}:iS [.tup [mI N a,mI N b,mI N c]]= .ok (mI N fun p=>(a p && b p) || (a p && c p) || (b p && c p)):=by
 unfold iS yI;refine dv (cL ?_);exact au (au (au (au rfl rfl FE) (au rfl rfl He) (kJ N a b)) (au (au rfl rfl FE) (au rfl rfl U3) (kJ N a c)) (pL N _ _)) (au (au rfl rfl He) (au rfl rfl U3) (kJ N b c)) (pL N _ _)
theorem LQ(k j:Nat)(hk:k<=4)(hj:j<=4):jm (.str (kS k)) (.str (kS j))= .ok (.bl (decide (k=j))):=by
 show R.ok (D.bl (kS k==kS j))=_;congr 2
 revert hk hj
 have:∀a∈List.range 5,∀b∈List.range 5,(kS a==kS b)=decide (a=b):=by decide+kernel
 intro hk hj;exact this k (by rw[List.mem_range];omega) j (by rw[List.mem_range];omega)
theorem Kq{N kd:Nat}{xs:List M}(hk:kd<=4)(hx:xs.length=ar kd):jr [.str (kS kd), .tup (xs.map (mI N)),mI N one]= .ok (mI N fun p=>gv kd (xs.map (· p))):=by
 unfold jr ug;have q:∀j,j<=4->b2 jm (ab 0) (eC (.str (kS j))) (gK oA [.str (kS kd), .tup (xs.map (mI N)),mI N one])= .ok (decide (kd=j)):=fun j hj=>eD (a:= .str (kS kd)) (b:= .str (kS j)) rfl rfl (LQ kd j hk hj)
 have q0:=q 0 (by omega)
 have q1:=q 1 (by omega)
 have q2:=q 2 (by omega)
 have q3:=q 3 (by omega)
 match kd,hk,xs,hx with
 | 0,_,[a],_=>
   refine dv (NT.pF (vp q0 (cL (au (a:=mI N one) (b:=mI N a) rfl (au rfl rfl FE) (x9 N a)))))
 | 1,_,[a,b],_=>
   refine dv (cm (j9 q0 rfl) (NT.pF (vp q1 (cL (au (au rfl rfl FE) (au rfl rfl He) (kJ N a b))))))
 | 2,_,[a,b],_=>
   refine dv (cm (j9 q0 rfl) (cm (j9 q1 rfl) (NT.pF (vp q2 (cL (au (au rfl rfl FE) (au rfl rfl He) (pL N a b)))))))
 | 3,_,[a,b],_=>
   refine dv (cm (j9 q0 rfl) (cm (j9 q1 rfl) (cm (j9 q2 rfl) (NT.pF (vp q3 (cL (au (au rfl rfl FE) (au rfl rfl He) (t6 N a b))))))))
 | 4,_,[a,b,c],_=>
   refine dv (cm (j9 q0 rfl) (cm (j9 q1 rfl) (cm (j9 q2 rfl) (cm (j9 q3 rfl) (cL (bf (ds:=[.tup [mI N a,mI N b,mI N c]]) rfl DY))))))
theorem LD{N:Nat}{ws:List M}{ns:List Nat}(hn:∀n∈ns,n < ws.length)(hl:ns.length < 1000):gL [.lst (ws.map (mI N)), .tup (ns.map nI)]= .ok (.tup ((ns.map (c_ ws)).map (mI N))):=by
 have hz:sizeLine=16777216:=sizeLine_eq;unfold gL wC;refine dv (cL (bf (ds:=[.lst ((ns.map (c_ ws)).map (mI N))]) (bc (cX (cT (ds:=ns.map nI) (oK rfl) (by rw[List.length_map];omega) ?_)) rfl) rfl))
 rw[List.map_map];exact NT.er nI _ fun n OH=>⟨[.val (nI n), .val (.lst (ws.map (mI N)))],rfl,rfl,au (a:= .lst (ws.map (mI N))) (b:=nI n) rfl rfl (BR (hn n OH))⟩
def BX(N:Nat)(S:aH)(I_ nY Uz:D)(a5 a6 a7:Option V3):DE:=[some (.d I_),some (.d nY),some (.d (mI N one)),some (.d Uz),some (.loc S.length),a5,a6,a7]
theorem HF{N:Nat}{S:aH}{I_ nY:D}{bad:List Int}{a5 a7:Option V3}{b:M}{ws:List M}(hl:ws.length < 10000) :
 W3 (g7 (BX N S I_ nY (.tup (bad.map .int)) a5 (some (.d (mI N b))) a7) (S++[.lst (ws.map (mI N))])) fun o S1=>o= .nx (BX N S I_ nY (.tup (bad.map .int)) a5 (some (.d (mI N b))) a7)/\S1=S++[SO.lst ((ws++[fun p=>b p !=bad.contains (ws.length:Int)]).map (mI N))]:=by
 have hz:sizeLine=16777216:=sizeLine_eq;unfold g7;refine nU (k:=S.length) rfl ⟨_,ba _ _⟩ (Ds (d:=mI N fun p=>b p !=bad.contains (ws.length:Int)) ?_ rfl ⟨_,_,rfl,ba _ _,by rw[List.length_map];omega,rfl,?_⟩)
 .have h4:(cO (S++[.lst (ws.map (mI N))]) (BX N S I_ nY (.tup (bad.map .int)) a5 (some (.d (mI N b))) a7))[4]? =some (.val (.lst (ws.map (mI N)))):=by
   unfold cO BX;show some (match res (S++[.lst (ws.map (mI N))]) (.loc S.length) with | some d=>Sl.val d | none=> .un)=_
   unfold res;rw[ba]
  refine yO (b:=bad.contains (ws.length:Int)) (eD (a:= .int ws.length) (b:= .tup (bad.map .int)) (bf (ds:=[.lst (ws.map (mI N))]) (bc (by unfold ab;rw [h4]) rfl) (by rw[sW,List.length_map])) rfl (u_ _ _)) ?_
  rw[<-Cz];rfl
 .rw [dg,List.map_append];rfl
theorem Bf{N:Nat}{S:aH}{bD:D}{ins:List (Str × Nat)}{bits:List M}{bad:List Int}(hB:bD= .lst (bits.map (mI N))\/bD= .tup (bits.map (mI N)))(hb:bits.length=ins.length)(hi:ins.length < 100)(hw:∀x∈ins,x.2 < 100){Q:V3->aH->Prop}
 (h:Q (.loc S.length) (S++[.lst ((cM ins bits bad ins.length).map (mI N))])) :
 W3 (dX [.d (.lst (ins.map inD)), .d bD, .d (mI N one), .d (.tup (bad.map .int))] S) Q:=by
 have hz:sizeLine=16777216:=sizeLine_eq;unfold dX;refine ve rfl ?_;simp only[cv,gG,List.map,List.length,List.replicate,List.cons_append,List.nil_append,Nat.reduceAdd,Nat.reduceSub];unfold jC;refine aA (a_ (by simp) (js (ds:=[]) rfl ⟨_,rfl,?_⟩))
 simp only[List.set];refine aA (eT (lH (ds:=cH (bits.map (mI N))) (by rcases hB with rfl | rfl <;> rfl) ?_))
 have big:∀i,i<=ins.length->(cM ins bits bad i).length<=100*i:=by
  intro i hi'
  induction i with
  | zero=>simp [cM]
  | succ i ih=>
    have ih:=ih (by omega)
    have h1:ins[i]? =some ins[i]:=List.getElem?_eq_getElem (by omega)
    have h2:bits[i]? =some bits[i]:=List.getElem?_eq_getElem (by omega)
    unfold cM;rw[h1,h2];show(g6 bad bits[i] ins[i].2 (cM ins bits bad i)).length<=_;rw[iI];have:=hw ins[i] (List.getElem_mem _);omega
 refine(bM (fun i δ S2=>(∃a b c,δ=BX N S (.lst (ins.map inD)) bD (.tup (bad.map .int)) a b c)/\S2=S++[SO.lst ((cM ins bits bad i).map (mI N))])
  ⟨⟨_,_,_,rfl⟩,rfl⟩ ?_).mono fun o S2 ⟨du,eW,⟨a,b,c,hδ⟩,hS⟩=>⟨du,eW,?_⟩
 .rintro i v δ S2 hv ⟨⟨a,b,c,rfl⟩,rfl⟩;obtain⟨d,hd,rfl⟩:=pE hv;rw[List.getElem?_map] at hd;have hib:i < bits.length:=by
   have:=(List.getElem?_eq_some_iff.mp hv).1;simpa [cH] using this
  have h1:ins[i]? =some ins[i]:=List.getElem?_eq_getElem (by omega)
  have h2:bits[i]? =some bits[i]:=List.getElem?_eq_getElem hib;rw[h2] at hd;cases hd;refine⟨BX N S (.lst (ins.map inD)) bD (.tup (bad.map .int)) (some (.d (.int i))) (some (.d (mI N bits[i]))) c,rfl,?_⟩;unfold lx;have W2:=hw ins[i] (List.getElem_mem _);refine eT (lH (mY (n:=ins[i].2) ?_ (by omega)) ?_)
  .refine au (a:=inD ins[i]) (b:= .int 1) (au (a:= .lst (ins.map inD)) (b:= .int i) rfl rfl (wy ?_)) rfl rfl;rw[qy (by omega) (by rw[List.length_map,Int.toNat_natCast];omega)]
   simp
  refine(bM (fun j δ S3=>(∃c,δ=BX N S (.lst (ins.map inD)) bD (.tup (bad.map .int)) (some (.d (.int i))) (some (.d (mI N bits[i]))) c)/\S3=S++[SO.lst ((g6 bad bits[i] j (cM ins bits bad i)).map (mI N))])
   ⟨⟨_,rfl⟩,rfl⟩ ?_).mono fun o S3 ⟨ED,e3,⟨c3,xf⟩,EF⟩=>⟨ED,e3,⟨_,_,c3,xf⟩,?_⟩
  .rintro j v δ S3 hv ⟨⟨c3,rfl⟩,rfl⟩;refine⟨_,rfl,?_⟩;have hj:j < ins[i].2:=by
    have:=(List.getElem?_eq_some_iff.mp hv).1
    rwa [List.length_map,eY,List.length_map,List.length_range] at this
   refine(HF ?_).mono fun o S4 ⟨e4,e5⟩=>⟨_,e4,⟨_,rfl⟩,e5⟩
   rw[iI];have:=big i (by omega)
   omega
  .rw [EF,List.length_map,eY,List.length_map,List.length_range];show _=S++[SO.lst ((match ins[i]?,bits[i]? with | some x,some b=>g6 bad b x.2 (cM ins bits bad i) | _,_=>cM ins bits bad i).map (mI N))]
   rw[h1,h2]
 have hlen:((cH (bits.map (mI N))).map V3.d).length=ins.length:=by simp [cH,hb]
 rw[hlen] at hS;subst hδ hS;exact dC (w_var rfl ⟨_,rfl,h⟩)
section
variable {N:Nat} {ins:List (Str × Nat)} {gs:List Gt} {os:List (Str × List Nat)} {bits:List M} {turned bad:List Int}
def AH(N:Nat)(S:aH)(nt nY tD bD:D)(a6 a7 a8:Option V3):DE:=[some (.d nt),some (.d nY),some (.d (mI N one)),some (.d tD),some (.d bD),some (.loc S.length),a6,a7,a8]
theorem EG{S:aH}{nt nY bD:D}{a8:Option V3}{g:Gt}{i:Nat}{ws:List M}(hg:zP ws.length g)(hl:ws.length < 20000) :
 W3 (kI (AH N S nt nY (.tup (turned.map .int)) bD (some (.d (.int i))) (some (.d (mT g))) a8) (S++[.lst (ws.map (mI N))])) fun o S1=>(∃c,o= .nx (AH N S nt nY (.tup (turned.map .int)) bD (some (.d (.int i))) (some (.d (mT g))) c))/\S1=S++[SO.lst ((ws++[fun p=>gF g ws p !=turned.contains (i:Int)]).map (mI N))]:=by
 have hz:sizeLine=16777216:=sizeLine_eq;have ha:=Df g.1;unfold kI;refine aA (a_ (by unfold AH;simp only[List.length_cons,List.length_nil];omega) (Ds (d:=mI N (gF g ws)) ?_ rfl ⟨_,rfl,?_⟩))
 .have h5:(cO (S++[.lst (ws.map (mI N))]) (AH N S nt nY (.tup (turned.map .int)) bD (some (.d (.int i))) (some (.d (mT g))) a8))[5]? =some (.val (.lst (ws.map (mI N)))):=by
   unfold cO AH;show some (match res (S++[.lst (ws.map (mI N))]) (.loc S.length) with | some d=>Sl.val d | none=> .un)=_
   unfold res;rw[ba]
  refine(bf (ds:=[.str (kS g.1), .tup ((g.2.1.map (c_ ws)).map (mI N)),mI N one]) (bc (au (a:=mT g) (b:= .int 0) rfl rfl rfl) (bc ?_ (bc rfl rfl))) (Kq hg.1 (by rw[List.length_map];exact hg.2.1))).trans ?_
  .exact bf (ds:=[.lst (ws.map (mI N)), .tup (g.2.1.map nI)]) (bc (by unfold ab;rw [h5]) (bc (au (a:=mT g) (b:= .int 1) rfl rfl rfl) rfl)) (LD hg.2.2 (by rw[hg.2.1];omega))
  .have:(fun p=>gv g.1 ((g.2.1.map (c_ ws)).map (· p)))=gF g ws:=by funext p;unfold gF;rw [List.map_map];rfl
   rw[this]
 .show W3 (mq 5 _ (AH N S nt nY (.tup (turned.map .int)) bD (some (.d (.int i))) (some (.d (mT g))) (some (.d (mI N (gF g ws))))) _) _;refine nU (k:=S.length) rfl ⟨_,ba _ _⟩ (bV (d:=mI N fun p=>gF g ws p !=turned.contains (i:Int)) ?_ ⟨_,_,rfl,ba _ _,by rw[List.length_map];omega,⟨_,rfl⟩,?_⟩)
  .refine yO (b:=turned.contains (i:Int)) (eD (a:= .int i) (b:= .tup (turned.map .int)) rfl rfl (u_ _ _)) ?_;rw[<-Cz];rfl
  .rw [dg,List.map_append];rfl
theorem Ir{S:aH}{bD:D}(hB:bD= .lst (bits.map (mI N))\/bD= .tup (bits.map (mI N)))(NO:ke ins gs os)(hb:bits.length=ins.length)(hS:lP S){Q:V3->aH->Prop}(h:Q (.d (.lst ((KW ins gs bits turned bad).map (mI N)))) S) :
 W3 (jj [.d (bG ins gs os), .d bD, .d (mI N one), .d (.tup (turned.map .int)), .d (.tup (bad.map .int))] S) Q:=by
 have hz:sizeLine=16777216:=sizeLine_eq;unfold jj;refine kU hS (ve rfl ?_);simp only[cv,jY,List.map,List.length,List.replicate,List.cons_append,List.nil_append,Nat.reduceAdd,Nat.reduceSub];unfold ny;refine aA <| a_ (by simp) <| cF <| ax <| bV (d:= .lst (ins.map inD)) rfl <| ax <| bV (d:=bD) rfl <| ax <| bV (d:=mI N one) rfl <| ax <| bV (d:= .tup (bad.map .int)) rfl <| b_ <| Bf hB hb NO.hi NO.hw ⟨_,rfl,?_⟩
 simp only[List.set];have hwd:=sV NO.hw;have hN:=NO.hi;have hG:=NO.hg;refine aA (eT (lH (ds:=cH (gs.map mT)) rfl ?_));refine(bM (fun i δ S2=>(∃a b c,δ=AH N S (bG ins gs os) bD (.tup (turned.map .int)) (.tup (bad.map .int)) a b c)/\S2=S++[SO.lst ((pQ gs turned (cM ins bits bad ins.length) i).map (mI N))])
  ⟨⟨_,_,_,rfl⟩,rfl⟩ ?_).mono fun o S2 ⟨du,eW,⟨a,b,c,hδ⟩,xg⟩=>⟨du,eW,?_⟩
 .rintro i v δ S2 hv ⟨⟨a,b,c,rfl⟩,rfl⟩;obtain⟨d,hd,rfl⟩:=pE hv;rw[List.getElem?_map] at hd;cases q:gs[i]? with
  | none=>rw [q] at hd;cases hd
  | some g=>
    rw[q] at hd;cases hd;have hi:i < gs.length:=(List.getElem?_eq_some_iff.mp q).1;have hl:(pQ gs turned (cM ins bits bad ins.length) i).length=iY ins+i:=by rw[px _ (by omega),mO hb _ (Nat.le_refl _),List.take_length]
    refine⟨AH N S (bG ins gs os) bD (.tup (turned.map .int)) (.tup (bad.map .int)) (some (.d (.int i))) (some (.d (mT g))) c,rfl,?_⟩;refine(EG (by rw[hl];exact NO.g i g q) (by rw[hl];omega)).mono fun o S4 ⟨⟨c4,e4⟩,e5⟩=>⟨_,e4,⟨_,_,_,rfl⟩,?_⟩
    rw[e5];show _=S++[SO.lst ((match gs[i]? with | some g=>pQ gs turned (cM ins bits bad ins.length) i++[fun p=>gF g (pQ gs turned (cM ins bits bad ins.length) i) p !=turned.contains (i:Int)] | none=>pQ gs turned (cM ins bits bad ins.length) i).map (mI N))]
    rw[q]
 have hlen:((cH (gs.map mT)).map V3.d).length=gs.length:=by simp [cH]
 rw[hlen] at xg;subst hδ xg;exact dC (w_var rfl ⟨_,rfl,by unfold gf;exact decide_eq_true (Nat.le_refl _),⟨_,rfl⟩,_,by unfold res;rw [ba];rfl,h⟩)
def ql(N:Nat)(os:List (Str × List Nat))(ws:List M):List D:=os.map fun x=> .tup ((tell ws x).map (mI N))
theorem Ke{S:aH}{ws:List M}(hO:os.length < 1000)(ho:∀x∈os,x.2.length < 1000/\∀w∈x.2,w < ws.length)(hS:lP S){Q:V3->aH->Prop}(h:Q (.d (.lst (ql N os ws))) S) :
 W3 (jZ [.d (bG ins gs os), .d (.lst (ws.map (mI N)))] S) Q:=by
 have hz:sizeLine=16777216:=sizeLine_eq;unfold jZ;refine kU hS (ve rfl ?_);simp only[cv,jq,List.map,List.length,List.replicate,List.cons_append,List.nil_append,Nat.reduceAdd,Nat.reduceSub];unfold oV;refine dC (js (ds:=ql N os ws) ?_ ⟨_,rfl,by unfold gf;exact decide_eq_true (Nat.le_refl _),⟨_,rfl⟩,_,by unfold res;rw [ba],h⟩)
 refine cT (ds:=os.map Bv) (fj (au (a:=bG ins gs os) (b:= .int 2) rfl rfl rfl)) (by rw[List.length_map];omega) ?_
 unfold ql;refine NT.er Bv _ fun(x:Str × List Nat) hx=>⟨[.val (.str x.1), .val (.tup (x.2.map nI)), .val (.lst (ws.map (mI N)))],rfl,rfl,?_⟩
 exact bf (ds:=[.lst (ws.map (mI N)), .tup (x.2.map nI)]) rfl (LD (ho x hx).2 (ho x hx).1)
end
end K22
end
section
namespace K22
open PySem PySem.Spec PyProof.Rows L2 L3 MT
def r0(xs:List M):M:=fun p=>(M5 (xs.map (· p))).1
def r1(xs:List M):M:=fun p=>(M5 (xs.map (· p))).2
theorem vy{n:Nat}{ds:List D}{δ:aw}{j:Int}(h:ab 0 δ= .ok (.tup ds))(hl:ds.length=n):b2 jm (bw iW (az (ab 0) bb)) (eC (.int j)) δ= .ok (decide ((n:Int)=j)):=by
 refine eD (a:= .int n) (b:= .int j) (bf (ds:=[.tup ds]) (bc h rfl) ?_) rfl ?_
 .show R.ok (D.int ds.length)=_;rw[hl]
 .show R.ok (D.bl ((n:Int)==j))=_;congr 2
theorem CL{N:Nat}{xs:List M}(h:1<=xs.length/\xs.length<=3):md [.tup (xs.map (mI N)),mI N one]= .ok (.tup [mI N (r0 xs),mI N (r1 xs)]):=by
 have hz:sizeLine=16777216:=sizeLine_eq;unfold md yj
 match xs,h with
 | [a],_=>
   refine dv (cm (j9 (vy (n:=1) rfl rfl) rfl) (cm (j1 (d:=mI N a) (yO (vy (n:=1) rfl rfl) (au (a:= .tup [mI N a]) (b:= .int 0) rfl rfl FE)) (by simp [gK,pA])) (cL ?_)))
   exact dI (bc (au (a:=mI N one) (b:=mI N a) rfl rfl (x9 N a)) (bc rfl rfl)) (by simp;omega)
 | [a,b],_=>
   refine dv (NT.pF (vp (vy (n:=2) rfl rfl) (cL ?_)));exact dI (bc (au (a:=mI N one) (b:=mI N fun p=>a p || b p) rfl (au (au rfl rfl FE) (au rfl rfl He) (pL N a b)) (x9 N _)) (bc (au (au rfl rfl FE) (au rfl rfl He) (kJ N a b)) rfl)) (by simp;omega)
 | [a,b,c],_=>
   refine dv (cm (j9 (vy (n:=3) rfl rfl) rfl) (cm (j1 (d:=mI N fun p=>(a p && b p) || (a p && c p) || (b p && c p)) (yO (vy (n:=3) rfl rfl) (bf (ds:=[.tup [mI N a,mI N b,mI N c]]) rfl DY)) (by simp [gK,pA])) (cL ?_)))
   exact dI (bc (au (a:=mI N one) (b:=mI N fun p=>(a p && b p) || (a p && c p) || (b p && c p)) rfl rfl (x9 N _)) (bc rfl rfl)) (by simp;omega)
theorem vh{bs:List Bool}(hl:bs.length < 100000):iM [.lst (bs.map bI)]= .ok (.int (Jt bs)):=by
 unfold iM yd;refine dv (cm (j1 (d:= .int 0) rfl (by simp [gK,s_])) ?_)
 obtain⟨δ1,e1,a2,xm⟩:=j3 (t:=aS 2) (body:=oq) (ds:=(bs.map bI).reverse)
  (fun i δ=>∃a2,δ=[.val (.lst (bs.map bI)), .val (.int (Jt (bs.drop (bs.length - i)))),a2]) (δ:=[.val (.lst (bs.map bI)), .val (.int 0), .un]) ⟨.un,by simp [Jt]⟩ (by
    rintro i d δ hd ⟨a2,rfl⟩;have hi:i < bs.length:=by
     have:=(List.getElem?_eq_some_iff.mp hd).1
     rwa [List.length_reverse,List.length_map] at this
    rw[List.getElem?_reverse (by rw[List.length_map];exact hi),List.length_map,List.getElem?_map,List.getElem?_eq_getElem (by omega:bs.length - 1 - i < bs.length)] at hd
    cases hd;have hdr:bs.drop (bs.length - (i+1))=bs[bs.length - 1 - i] ::bs.drop (bs.length - i):=by
     rw[show bs.length - (i+1)=bs.length - 1 - i by omega,List.drop_eq_getElem_cons (by omega:bs.length - 1 - i < bs.length),show bs.length - 1 - i+1=bs.length - i by omega]
    refine⟨_,?_,⟨.val (bI bs[bs.length - 1 - i]),rfl⟩⟩;have hm:(Jt (bs.drop (bs.length - (i+1))):Int)=(Jt (bs.drop (bs.length - i)):Int)*2+(if bs[bs.length - 1 - i] then 1 else 0):=by
     rw[hdr];show(((if bs[bs.length - 1 - i] then 1 else 0)+2*Jt (bs.drop (bs.length - i)):Nat):Int)=_
     cases bs[bs.length - 1 - i] <;> simp <;> omega
    rw[hm];generalize (Jt (bs.drop (bs.length - i)):Int)=m;generalize bs[bs.length - 1 - i]=x;generalize D.lst (bs.map bI)=y;rw[show aS 2 (bI x) [.val y, .val (.int m),a2]= .ok [.val y, .val (.int m), .val (bI x)] from rfl,R.bj]
    unfold oq;exact j1 (au (a:= .int (m*2)) (b:=bI x) (au (a:= .int m) (b:= .int 2) rfl rfl (cJ _ (.inr ⟨by omega,by omega⟩))) rfl rfl) (by simp))
 refine cm (pH (ds:=(bs.map bI).reverse) rfl e1) ?_;rw[List.length_reverse,List.length_map,Nat.sub_self,List.drop_zero] at xm;subst xm;exact cL rfl
def df:Nat->List (List Bool)
 | 0=>[[]]
 | c+1=>(df c).flatMap fun b=>[b++[false],b++[true]]
theorem d5:∀c,(df c).length=2 ^ c
 | 0=>rfl
 | c+1=>by
   unfold df;rw[List.length_flatMap];have:(df c).map (fun b=>[b++[false],b++[true]].length)=(df c).map fun _=>2:=rfl
   rw[this,List.map_const',List.sum_replicate_nat,d5 c];omega
theorem tp:∀c,∀b∈df c,b.length=c
 | 0,b,h=>by unfold df at h;rw [List.mem_singleton.mp h];rfl
 | c+1,b,h=>by
   unfold df at h;obtain⟨a,ha,hb⟩:=List.mem_flatMap.mp h;have:=tp c a ha;simp only[List.mem_cons,List.not_mem_nil,or_false] at hb;rcases hb with rfl | rfl <;> simp [this]
def iB(b:List Bool):D:= .tup (b.map bI)
def aE(c:Nat)(Xq:Option V3)(a2 a3 a4:Option V3):DE:=[some (.d (nI c)),Xq,a2,a3,a4]
theorem xN{c:Nat}{S:aH}(hc:c<=10)(hS:lP S){Q:V3->aH->Prop}(h:Q (.d (.lst ((df c).map iB))) S):W3 (jk [.d (nI c)] S) Q:=by
 have hz:sizeLine=16777216:=sizeLine_eq;unfold jk;refine kU hS (ve rfl ?_);simp only[cv,jX,List.map,List.length,List.replicate,List.cons_append,List.nil_append,Nat.reduceAdd,Nat.reduceSub];unfold nC;refine aA <| a_ (by simp) <| js (ds:=(df 0).map iB) rfl ⟨_,rfl,?_⟩
 simp only[List.set];refine aA <| eT <| lH (mY (n:=c) rfl (by omega)) ?_
 refine(bM (fun i δ S2=>∃(T:aH) (a2 a3 a4:Option V3),S2=S++T++[.lst ((df i).map iB)]/\δ=aE c (some (.loc (S++T).length)) a2 a3 a4)
  ⟨[],none,none,none,by simp,by simp [aE]⟩ ?_).mono fun o S2 ⟨du,eW,T,a2,a3,a4,xg,hδ⟩=>⟨du,eW,?_⟩
 .rintro i v δ S2 hv ⟨T,a2,a3,a4,rfl,rfl⟩;have hi:i < c:=by
   have:=(List.getElem?_eq_some_iff.mp hv).1
   rwa [List.length_map,eY,List.length_map,List.length_range] at this
  have hpow:(df i).length<=1024:=by
   rw[d5];exact Nat.pow_le_pow_right (by omega) (by omega:i<=10)
  refine⟨aE c (some (.loc (S++T).length)) (some v) a3 a4,rfl,?_⟩;unfold og aE;refine LH (i:=1) rfl (ba _ _) ?_;rw[dg];simp only[List.set];refine aA <| a_ (by simp) <| js (ds:=[]) rfl ⟨_,rfl,?_⟩
  simp only[List.set];generalize hU:S++T++[SO.lp]=U;refine aA <| eT <| lH (ds:=(df i).map iB) rfl ?_
  refine(bM (fun j δ S3=>(∃b4,δ=[some (.d (nI c)),some (.d (.lst ((df i).map iB))),some v,some (.loc U.length),b4])/\S3=U++[.lst ((((df i).take j).flatMap fun b=>[b++[false],b++[true]]).map iB)])
   ⟨⟨_,rfl⟩,by simp⟩ ?_).mono fun o S3 ⟨ED,e3,⟨b4,xf⟩,EF⟩=>⟨ED,e3,?_⟩
  .rintro j v3 δ S3 hv3 ⟨⟨b4,rfl⟩,rfl⟩;obtain⟨b,hb,rfl⟩:=NT.f6 hv3;have hj:=(List.getElem?_eq_some_iff.mp hb).1;have hbl:=tp i b (List.mem_of_getElem? hb);refine⟨[some (.d (nI c)),some (.d (.lst ((df i).map iB))),some v,some (.loc U.length),some (.d (iB b))],rfl,?_⟩;unfold oS;generalize hL:((((df i).take j).flatMap fun b=>[b++[false],b++[true]]).map iB)=L
   have hLl:L.length<=2048:=by
    rw[<-hL,List.length_map,List.length_flatMap];have:((df i).take j).map (fun b=>[b++[false],b++[true]].length)=((df i).take j).map fun _=>2:=rfl
    rw[this,List.map_const',List.sum_replicate_nat,List.length_take];omega
   have add:∀(x:Bool) (δ:aw),ab 4 δ= .ok (iB b)->e2 oB (ab 4) (il (az (eC (bI x)) bb)) δ= .ok (iB (b++[x])):=fun x δ h4=>by
    refine au (a:=iB b) (b:= .tup [bI x]) h4 (dI rfl (by simp;omega)) ?_
    show R.bX (decide ((b.map bI).length+[bI x].length<=sizeLine)) _=_;rw[cJ _ (by rw[List.length_map];simp;omega)]
    unfold iB;rw[List.map_append];rfl
   refine aA <| nU (k:=U.length) rfl ⟨_,ba _ _⟩ <| bV (d:=iB (b++[false])) (add false _ rfl) ⟨_,_,rfl,ba _ _,by omega,_,rfl,?_⟩
   rw[dg];refine nU (k:=U.length) rfl ⟨_,ba _ _⟩ <| bV (d:=iB (b++[true])) (add true _ rfl) ⟨_,_,rfl,ba _ _,by rw[List.length_append];simp;omega,_,rfl,⟨_,rfl⟩,?_⟩
   rw[dg,List.take_add_one,hb,List.flatMap_append,List.map_append,hL];simp
  rw[List.length_map,List.length_map,List.take_length] at EF;subst xf EF;refine a_ (by simp) <| w_var (v:= .loc U.length) rfl ⟨_,rfl,T++[SO.lp],some v,some (.loc U.length),b4,?_,?_⟩
  .rw [<-hU,List.append_assoc S];rfl
  .rw [<-hU,List.append_assoc S];rfl
 have hlen:((eY 0 c).map V3.d).length=c:=by simp [eY]
 rw[hlen] at xg;subst hδ xg;unfold aE;refine dC (w_var rfl ⟨_,rfl,by unfold gf;exact decide_eq_true (by rw[List.length_append];omega),⟨T++[.lst ((df c).map iB)],by rw[List.append_assoc]⟩,_,by unfold res;rw [ba],h⟩)
end K22
end
section
namespace K22
open PySem PySem.Spec PyProof.Rows L2 L3 MT
def xq(c j:Nat):M:=fun p=>((df c).getD p []).getD j false
def ju(c:Nat):List M:=(List.range c).map (xq c)
theorem OA{b:List Bool}{j:Nat}(h:j < b.length):cb (iB b) (.int j)= .ok (bI (b.getD j false)):=by
 refine wM ?_;rw[qy (by omega) (by rw[List.length_map,Int.toNat_natCast];exact h)]
 rw[List.getD_eq_getElem?_getD,List.getElem?_eq_getElem h];simp
theorem C2{c j:Nat}(hc:c<=10)(hj:j < c):l_ [.lst ((df c).map iB), .int j]= .ok (mI (2 ^ c) (xq c j)):=by
 have hz:sizeLine=16777216:=sizeLine_eq;have hp:2 ^ c<=1024:=Nat.pow_le_pow_right (by omega) hc
 unfold l_ yA;refine dv (cL (bf (ds:=[.lst (((df c).map fun b=>b.getD j false).map bI)]) (bc (cX (cT (ds:=(df c).map iB) rfl (by rw[List.length_map,d5];omega) ?_)) rfl) ?_))
 .rw [List.map_map];exact NT.er iB _ fun b hb=>⟨[.val (iB b), .val (.int j)],rfl,rfl,au (a:=iB b) (b:= .int j) rfl rfl (OA (by rw[tp c b hb];exact hj))⟩
 .rw [vh (by rw[List.length_map,d5];omega),HG,List.length_map,d5]
  unfold mI;congr 3;refine pC fun p UM=>?_
  unfold xq;rw[List.getD_eq_getElem?_getD,List.getElem?_map,List.getD_eq_getElem?_getD (l:=df c),List.getElem?_eq_getElem (by rw[d5];exact UM)]
  rfl
section
variable {c:Nat} {ins:List (Str × Nat)} {gs:List Gt} {os:List (Str × List Nat)}
abbrev Hu:=Str.ofString "net"
abbrev Ez:=Str.ofString "many_inputs"
abbrev x4:=Str.ofString "full"
abbrev sI:=Str.ofString "in_masks"
def fB(c:Nat)(nt:D):List (Str × V3):=[(Hu, .d nt),(Ez, .d (nI (2 ^ c))),(x4, .d (mI (2 ^ c) one)),(sI, .d (.lst ((ju c).map (mI (2 ^ c)))))]
theorem KS{S:aH}(hc:ins.length=c)(uZ:c<=10)(hS:lP (S++[.ins 0 []])){Q:V3->aH->Prop}(h:Q (.d .cK) (S++[.ins 0 (fB c (bG ins gs os))])) :
 W3 (dH [.loc S.length, .d (bG ins gs os)] (S++[.ins 0 []])) Q:=by
 have hz:sizeLine=16777216:=sizeLine_eq;have hp:2 ^ c<=1024:=Nat.pow_le_pow_right (by omega) uZ
 unfold dH;refine QS rfl ?_;simp only[cv,dm,List.map,List.length,List.replicate,List.cons_append,List.nil_append,Nat.reduceAdd,Nat.reduceSub];unfold iQ;refine aA <| a_ (by simp) <| cF <| ax <| bV (d:=nI c) (bf (ds:=[.lst (ins.map inD)]) rfl (by rw[sW,List.length_map,hc];rfl)) <| b_ <| xN uZ hS ⟨_,rfl,?_⟩
 simp only[List.set];refine aA <| kj (k:=S.length) <| bV (d:=bG ins gs os) rfl <| w_var (v:= .loc S.length) rfl ⟨_,rfl,ba _ _,by simp,_,rfl,?_⟩
 rw[dg];refine aA <| kj (k:=S.length) <| bV (d:=nI (2 ^ c)) (bf (ds:=[.lst ((df c).map iB)]) rfl (by rw[sW,List.length_map,d5];rfl)) <| w_var (v:= .loc S.length) rfl ⟨_,rfl,ba _ _,by unfold Aw;simp,_,rfl,?_⟩
 rw[dg];refine aA <| kj (k:=S.length) <| bV (d:=mI (2 ^ c) one) (bf (ds:=[.lst (((df c).map fun _=>true).map bI)]) (bc (cX (cT (ds:=(df c).map iB) rfl (by rw[List.length_map,d5];omega) ?_)) rfl) ?_) <| w_var (v:= .loc S.length) rfl ⟨_,rfl,ba _ _,?_,_,rfl,?_⟩
 .rw [List.map_map];exact NT.er iB _ fun b hb=>⟨[.val (iB b)],rfl,rfl,rfl⟩
 .rw [vh (by rw[List.length_map,d5];omega),HG,List.length_map,d5]
  unfold mI;congr 3;refine pC fun p UM=>?_
  rw[List.getD_eq_getElem?_getD,List.getElem?_map,List.getElem?_eq_getElem (by rw[d5];exact UM)]
  rfl
 .exact(by decide:2 < 1000)
 rw[dg];refine kj (k:=S.length) <| bV (d:= .lst ((ju c).map (mI (2 ^ c)))) (cX (cT (ds:=eY 0 c) (mY (n:=c) (bf (ds:=[.lst (ins.map inD)]) rfl (by rw[sW,List.length_map,hc])) (by omega)) (by simp [eY];omega) ?_)) <| w_var (v:= .loc S.length) rfl ⟨_,rfl,ba _ _,?_,_,rfl,?_⟩
 .unfold ju;rw[List.map_map];unfold eY;refine NT.er (fun i:Nat=>D.int (0+(i:Int))) _ fun j hj=>⟨[.val (.int (0+(j:Int))), .val (.lst ((df c).map iB))],rfl,rfl,bf (ds:=[.lst ((df c).map iB), .int j]) ?_ (C2 uZ (List.mem_range.mp hj))⟩
  rw[Int.zero_add];rfl
 .exact(by decide:3 < 1000)
 rw[dg];exact h
end
end K22
end
section
namespace K22
open PySem PySem.Spec PyProof.Rows L2 L3 MT
section
variable {c:Nat} {ins:List (Str × Nat)} {gs:List Gt} {os:List (Str × List Nat)} {S:aH} {k:Nat} {turned bad:List Int}
theorem WQ:(x4==Hu)=false:=by decide+kernel
theorem Wy:(x4==Ez)=false:=by decide+kernel
theorem WN:(sI==Hu)=false:=by decide+kernel
theorem VU:(sI==Ez)=false:=by decide+kernel
theorem VP:(sI==x4)=false:=by decide+kernel
theorem Gk{nt:D}:(fB c nt).lookup Hu=some (.d nt):=by unfold fB;rw [List.lookup_cons,beq_self_eq_true]
theorem D7{nt:D}:(fB c nt).lookup x4=some (.d (mI (2 ^ c) one)):=by unfold fB;rw [List.lookup_cons,WQ,List.lookup_cons,Wy,List.lookup_cons,beq_self_eq_true]
theorem Hj{nt:D}:(fB c nt).lookup sI=some (.d (.lst ((ju c).map (mI (2 ^ c))))):=by unfold fB;rw [List.lookup_cons,WN,List.lookup_cons,VU,List.lookup_cons,VP,List.lookup_cons,beq_self_eq_true]
theorem oE:(ju c).length=c:=by unfold ju;simp
abbrev Wd(c:Nat)(ins:List (Str × Nat))(gs:List Gt)(turned bad:List Int):List M:=KW ins gs (ju c) turned bad
theorem Nz(m:Str)(nt:D)(h1:(m==Hu)=false)(h2:(m==Ez)=false)(h3:(m==x4)=false)(h4:(m==sI)=false):(fB c nt).lookup m=none:=by unfold fB;rw [List.lookup_cons,h1,List.lookup_cons,h2,List.lookup_cons,h3,List.lookup_cons,h4];rfl
theorem H0(NO:ke ins gs os)(hc:ins.length=c)(hS:lP S)(hb:S[k]? =some (.ins 0 (fB c (bG ins gs os)))){Q:V3->aH->Prop}(h:Q (.d (.lst (ql (2 ^ c) os (Wd c ins gs turned bad)))) S) :
 W3 (ij [.loc k, .d (.tup (turned.map .int)), .d (.tup (bad.map .int))] S) Q:=by
 have hz:sizeLine=16777216:=sizeLine_eq;unfold ij;refine kU hS (ve rfl ?_);simp only[cv,jh,List.map,List.length,List.replicate,List.cons_append,List.nil_append,Nat.reduceAdd,Nat.reduceSub];unfold lL;have hl:(ju c).length=ins.length:=by rw[oE,hc]
 refine dC <| cF <| ax <| w_fld (k:=k) <| w_var (v:= .loc k) rfl ⟨_,_,rfl,hb,Gk,?_⟩
 refine ax <| cF <| ax <| w_fld (k:=k) <| w_var (v:= .loc k) rfl ⟨_,_,rfl,hb,Gk,?_⟩
 refine ax <| w_fld (k:=k) <| w_var (v:= .loc k) rfl ⟨_,_,rfl,hb,Hj,?_⟩
 refine ax <| w_fld (k:=k) <| w_var (v:= .loc k) rfl ⟨_,_,rfl,hb,D7,?_⟩
 refine ax <| bV (d:= .tup (turned.map .int)) rfl <| ax <| bV (d:= .tup (bad.map .int)) rfl <| b_ ?_
 refine Ir (.inl rfl) NO hl hS (b_ ?_);refine Ke NO.ho (fun x hx=>⟨(NO.o x hx).1,fun w hw=>by rw[zQ hl];exact(NO.o x hx).2 w hw⟩) hS ?_
 exact⟨_,rfl,by unfold gf;rfl,⟨[],by simp⟩,_,by unfold res;rfl,h⟩
def K1(N:Nat)(os:List (Str × List Nat))(ws:List M):List D:=os.map fun x=> .tup [mI N (r0 (tell ws x)),mI N (r1 (tell ws x))]
theorem uk(NO:ke ins gs os)(hc:ins.length=c)(ho:∀x∈os,1<=x.2.length/\x.2.length<=3)(hS:lP S)(hb:S[k]? =some (.ins 0 (fB c (bG ins gs os)))){Q:V3->aH->Prop}(h:Q (.d (.lst (K1 (2 ^ c) os (Wd c ins gs turned [])))) S) :
 W3 (cZ [.loc k, .d (.tup (turned.map .int))] S) Q:=by
 have hz:sizeLine=16777216:=sizeLine_eq;have hO:=NO.ho;unfold cZ;refine kU hS (ve rfl ?_);simp only[cv,dZ,List.map,List.length,List.replicate,List.cons_append,List.nil_append,Nat.reduceAdd,Nat.reduceSub];unfold iO;refine dC <| lA (fun j ds S2=>S2=S/\ds=(K1 (2 ^ c) os (Wd c ins gs turned [])).take j) ?_
 refine pI <| y8 (k:=k) <| w_var (v:= .loc k) rfl ⟨_,rfl,hb,Nz _ _ (by decide+kernel) (by decide+kernel) (by decide+kernel) (by decide+kernel),?_⟩
 refine ax <| bV (d:= .tup (turned.map .int)) rfl <| ax <| bV (d:= .tup (([]:List Int).map .int)) rfl <| b_ ?_
 refine H0 NO hc hS hb ⟨_,rfl,?_,⟨rfl,by simp⟩,?_,?_⟩
 .rw [List.length_map,ql,List.length_map];omega
 .rintro j v ds S2 hv ⟨rfl,rfl⟩;rw[ql] at hv;obtain⟨x,hx,rfl⟩:=NT.f6 hv;refine⟨[some (.d (.tup ((tell (Wd c ins gs turned []) x).map (mI (2 ^ c))))),some (.loc k)],rfl,ui ?_⟩;rw[if_pos rfl];refine rj <| ax <| bV (d:= .tup ((tell (Wd c ins gs turned []) x).map (mI (2 ^ c)))) rfl <| ax <| w_fld (k:=k) <| w_var (v:= .loc k) rfl ⟨_,_,rfl,hb,D7,b_ ⟨[.tup ((tell (Wd c ins gs turned []) x).map (mI (2 ^ c))),mI (2 ^ c) one],_,rfl,CL ?_,_,rfl,rfl,?_⟩⟩
  .unfold tell;rw [List.length_map];exact ho x (List.mem_of_getElem? hx)
  .unfold K1;rw[List.take_add_one,List.getElem?_map,hx];rfl
 .rintro ds S2 ⟨rfl,rfl⟩;rw[List.length_map,ql,List.length_map,List.take_of_length_le (by rw[K1,List.length_map];exact Nat.le_refl _)]
  exact⟨_,rfl,by unfold gf;rfl,⟨[],by simp⟩,_,by unfold res;rfl,h⟩
end
end K22
end
section
namespace K22
open PySem PySem.Spec PyProof.Rows L2 L3 MT
def aR(T:List Nat):D:= .tup (T.map nI)
theorem Lb{ps:List Nat}{a:Nat}(ha:a < ps.length):Pm (.lst (ps.map nI)) (some ((a+1:Nat):Int)) none= .ok (.lst ((ps.drop (a+1)).map nI)):=by
 show R.ok (D.lst (L2.cutD (ps.map nI) (some ((a+1:Nat):Int)) none))=_;congr 2;unfold L2.cutD;rw[List.length_map,HT.De,HT.Bd,Nat.min_eq_left (by omega),<-List.map_drop,<-List.map_take,List.take_of_length_le (by rw[List.length_drop];omega)]
theorem CZ{ds es:List D}(h:ds.length+es.length<=sizeLine):oB (.tup ds) (.tup es)= .ok (.tup (ds++es)):=cJ _ h
theorem vB:∀(n s:Nat) (ps:List Nat),s<=n->n<=3->ps.length<=100->eM (n+1) [.lst (ps.map nI), .int s]= .ok (.lst ((gn ps s).map aR))
 | n,0,ps,_,_,_=>by
   show xp mi (ml (eM n)) _=_;unfold ml;exact dv (NT.pF (vp (eD (a:= .int 0) (b:= .int 0) rfl rfl rfl) (cL rfl)))
 | 0,s+1,ps,h,_,_=>by omega
 | n+1,s+1,ps,h,hn,hp=>by
   have hz:sizeLine=16777216:=sizeLine_eq;show xp mi (ml (eM (n+1))) _=_;unfold ml;have hcl:(gn ps (s+1)).length<=100 ^ (s+1):=vf hp;have hpow:∀m,m<=3->(100:Nat) ^ m<=1000000:=fun m hm=>Nat.pow_le_pow_right (by omega) hm
   refine dv (cm (j9 (eD (a:= .int (s+1:Nat)) (b:= .int 0) (k:=false) rfl rfl ?_) rfl) ?_)
   .show R.ok (D.bl (((s+1:Nat):Int)==0))=_;congr 2
   refine cm (D2 (ds:=[]) rfl (by simp [gK,mi])) ?_
   let F:Nat->List (List Nat):=fun i=>(List.range i).flatMap fun a=>(gn (ps.drop (a+1)) s).map (ps.getD a 0 ::·)
   have hF:∀i,i<=ps.length->(F i).length<=i*100 ^ s:=fun i hi=>by
    show((List.range i).flatMap fun a=>(gn (ps.drop (a+1)) s).map (ps.getD a 0 ::·)).length<=_
    rw[List.length_flatMap];refine Nat.le_trans (Cc (m:=100 ^ s) fun x hx=>?_) (by rw[List.length_map,List.length_range];exact Nat.le_refl _)
    obtain⟨a,_,rfl⟩:=List.mem_map.mp hx;rw[List.length_map];exact vf (by rw[List.length_drop];omega)
   have hFs:∀i,F (i+1)=F i++(gn (ps.drop (i+1)) s).map (ps.getD i 0 ::·):=fun i=>by
    show(List.range (i+1)).flatMap _=_;rw[List.range_succ,List.flatMap_append];simp [F]
   obtain⟨δ1,e1,a3,a4,a5,xm⟩:=j3 (t:=gb 2 (bJ (aS 3) (bJ (aS 4) gp))) (body:=oU (eM (n+1))) (ds:=cH (ps.map nI))
    (fun i δ=>∃a3 a4 a5,δ=[.val (.lst (ps.map nI)), .val (.int (s+1:Nat)), .bld ((F i).map aR),a3,a4,a5]) (δ:=[.val (.lst (ps.map nI)), .val (.int (s+1:Nat)), .bld [], .un, .un, .un]) ⟨.un, .un, .un,by simp [F]⟩ (by
      rintro i d δ hd ⟨a3,a4,a5,rfl⟩;have hv:((cH (ps.map nI)).map V3.d)[i]? =some (.d d):=by rw[List.getElem?_map,hd];rfl
      obtain⟨d0,OU,ed⟩:=pE hv;cases ed;obtain⟨x,hx,rfl⟩:=NT.pB OU;have hil:=(List.getElem?_eq_some_iff.mp hx).1;have hxd:ps.getD i 0=x:=by rw[List.getD_eq_getElem?_getD,hx];rfl
      have hFi:=hF i (by omega)
      have hFb:i*100 ^ s<=100*100 ^ s:=Nat.mul_le_mul_right _ (by omega)
      have hp2:=hpow (s+1) (by omega)
      rw[Nat.pow_succ,Nat.mul_comm] at hp2;rw[show gb 2 (bJ (aS 3) (bJ (aS 4) gp)) (.tup [.int i,nI x]) [.val (.lst (ps.map nI)), .val (.int (s+1:Nat)), .bld ((F i).map aR),a3,a4,a5]= .ok [.val (.lst (ps.map nI)), .val (.int (s+1:Nat)), .bld ((F i).map aR), .val (.int i), .val (nI x),a5] from rfl,R.bj]
      unfold oU;have ihc:=vB n s (ps.drop (i+1)) (by omega) (by omega) (by rw[List.length_drop];omega)
      have hdl:(gn (ps.drop (i+1)) s).length<=100 ^ s:=vf (by rw[List.length_drop];omega)
      obtain⟨du,eW,c5,Jq⟩:=j3 (t:=aS 5) (body:=oO (eM (n+1))) (ds:=(gn (ps.drop (i+1)) s).map aR)
       (fun j δ=>∃c5,δ=[.val (.lst (ps.map nI)), .val (.int (s+1:Nat)), .bld ((F i++((gn (ps.drop (i+1)) s).take j).map (x ::·)).map aR), .val (.int i), .val (nI x),c5]) (δ:=[.val (.lst (ps.map nI)), .val (.int (s+1:Nat)), .bld ((F i).map aR), .val (.int i), .val (nI x),a5]) ⟨a5,by simp⟩ (by
         rintro j d δ hd ⟨c5,rfl⟩;obtain⟨T,hT,rfl⟩:=NT.pB hd;have hjl:=(List.getElem?_eq_some_iff.mp hT).1;have hTl:=(g9 (List.mem_of_getElem? hT)).1;refine⟨[.val (.lst (ps.map nI)), .val (.int (s+1:Nat)), .bld ((F i++((gn (ps.drop (i+1)) s).take (j+1)).map (x ::·)).map aR), .val (.int i), .val (nI x), .val (aR T)],?_,⟨_,rfl⟩⟩
         generalize hL:(F i++((gn (ps.drop (i+1)) s).take j).map (x ::·)).map aR=L
         have hLl:L.length < sizeLine:=by
          rw[<-hL,List.length_map,List.length_append,List.length_map,List.length_take];omega
         rw[show aS 5 (aR T) [.val (.lst (ps.map nI)), .val (.int (s+1:Nat)), .bld L, .val (.int i), .val (nI x),c5]= .ok [.val (.lst (ps.map nI)), .val (.int (s+1:Nat)), .bld L, .val (.int i), .val (nI x), .val (aR T)] from rfl,R.bj]
         unfold oO;rw[Ky (d:=aR (x ::T)) (ds:=L) (au (a:= .tup [nI x]) (b:=aR T) (dI rfl (by simp;omega)) rfl (CZ (by rw[List.length_map];simp;omega))) rfl hLl,<-hL,List.take_add_one,hT]
         simp [aR])
      refine⟨_,pH (ds:=(gn (ps.drop (i+1)) s).map aR) (fj (bf (ds:=[.lst ((ps.drop (i+1)).map nI), .int s]) (bc (Cm (d:= .lst (ps.map nI)) (lo:=some ((i+1:Nat):Int)) (hi:=none) rfl (Hc (au (a:= .int i) (b:= .int 1) rfl rfl rfl)) rfl (Lb hil)) (bc (au (a:= .int (s+1:Nat)) (b:= .int 1) rfl rfl ?_) rfl)) ihc)) eW,?_⟩
      .show R.ok (D.int (((s+1:Nat):Int) - 1))=_;congr 2;omega
      .rw [List.length_map,List.take_length] at Jq;refine⟨.val (.int i), .val (nI x),c5,?_⟩;rw[Jq,hFs,hxd])
   refine cm (pH (ds:=cH (ps.map nI)) rfl e1) ?_;have hlen:(cH (ps.map nI)).length=ps.length:=by simp [cH]
   rw[hlen] at xm;subst xm;exact cL rfl
end K22
end
section
namespace K22
open PySem PySem.Spec PyProof.Rows L2 L3 MT
section
variable {c:Nat} {ins:List (Str × Nat)} {gs:List Gt} {os:List (Str × List Nat)} {S:aH} {k:Nat} {turned:List Int} {safe:Bool}
abbrev qd:=Str.ofString "bench"
abbrev wz:=Str.ofString "plain"
abbrev rm:=Str.ofString "unsure"
def mv(gs:List Gt):List Nat:=(List.range gs.length).filter fun i=>match gs[i]? with | some g=>!g.2.2 | none=>false
def iR(c:Nat)(ins:List (Str × Nat))(gs:List Gt)(os:List (Str × List Nat))(b:Nat):List (Str × V3):=[(qd, .loc b),(wz, .d (.lst (K1 (2 ^ c) os (Wd c ins gs [] [])))),(rm, .d (.lst ((mv gs).map nI)))]
theorem Wa:(wz==qd)=false:=by decide+kernel
theorem Ws:(rm==qd)=false:=by decide+kernel
theorem Wq:(rm==wz)=false:=by decide+kernel
theorem Ig{b:Nat}:(iR c ins gs os b).lookup qd=some (.loc b):=by unfold iR;rw [List.lookup_cons,beq_self_eq_true]
theorem GD{b:Nat}:(iR c ins gs os b).lookup wz=some (.d (.lst (K1 (2 ^ c) os (Wd c ins gs [] [])))):=by unfold iR;rw [List.lookup_cons,Wa,List.lookup_cons,beq_self_eq_true]
theorem Mn{b:Nat}:(iR c ins gs os b).lookup rm=some (.d (.lst ((mv gs).map nI))):=by unfold iR;rw [List.lookup_cons,Ws,List.lookup_cons,Wq,List.lookup_cons,beq_self_eq_true]
theorem Qk{b:Nat}(m:Str)(h1:(m==qd)=false)(h2:(m==wz)=false)(h3:(m==rm)=false):(iR c ins gs os b).lookup m=none:=by unfold iR;rw [List.lookup_cons,h1,List.lookup_cons,h2,List.lookup_cons,h3];rfl
def TS(S:aH)(c:Nat)(ins:List (Str × Nat))(gs:List Gt)(os:List (Str × List Nat)):aH:=S++[.ins 1 (iR c ins gs os (S.length+1)), .ins 0 (fB c (bG ins gs os))]
mutual
theorem BU{n m:Nat}(h:n<=m):∀v:V3,oG n v=true->oG m v=true
 | .d _,_=>by unfold oG;rfl
 | .loc k,q=>by
   unfold oG at q ⊢;exact decide_eq_true (Nat.lt_of_lt_of_le (of_decide_eq_true q) h)
 | .lst vs,q=>by unfold oG at q ⊢;exact lq h vs q
 | .tup vs,q=>by unfold oG at q ⊢;exact lq h vs q
theorem lq{n m:Nat}(h:n<=m):∀vs:List V3,ku n vs=true->ku m vs=true
 | [],_=>by unfold ku;rfl
 | v ::vs,q=>by
   unfold ku at q ⊢;rw[Bool.and_eq_true] at q ⊢;exact⟨BU h v q.1,lq h vs q.2⟩
end
theorem ym{n m:Nat}(h:n<=m)(o:SO)(q:pM n o=true):pM m o=true:=by
 cases o with
 | ins k fs=>exact lq h _ q
 | _=>rfl
theorem lP.push{S:aH}(hS:lP S){x:SO}(hx:∀n,pM n x=true):lP (S++[x]):=fun o ho=>by
 rcases List.mem_append.mp ho with q | q
 .exact ym (by simp) o (hS o q)
 .rw [List.mem_singleton.mp q];exact hx _
theorem lP.set{S:aH}(hS:lP S)(k:Nat){x:SO}(hx:∀n,pM n x=true):lP (S.set k x):=fun o ho=>by
 rw[List.length_set];rcases List.mem_or_eq_of_mem_set ho with q | q
 .exact hS o q
 .rw [q];exact hx _
theorem Oh{S:aH}(hS:lP S){x y:SO}(hx:pM (S.length+2) x=true)(hy:pM (S.length+2) y=true):lP (S++[x,y]):=fun o ho=>by
 rw[show(S++[x,y]).length=S.length+2 by simp]
 rcases List.mem_append.mp ho with q | q
 .exact ym (by omega) o (hS o q)
 .simp only[List.mem_cons,List.not_mem_nil,or_false] at q;rcases q with rfl | rfl
  .exact hx
  .exact hy
theorem Aq{δ:aw}(hg:gs.length < 1000)(h1:ab 1 δ= .ok (bG ins gs os)):dj (eO (e2 cb (ab 1) (eC (.int 1)))) (gb 2 (bJ (aS 0) (bJ (aS 1) gp))) (xw (rF (e2 cb (ab 1) (eC (.int 2))))) (ab 0) ["place","gate"] [] δ= .ok ((mv gs).map nI):=by
 have hz:sizeLine=16777216:=sizeLine_eq;refine cT (ds:=cH (gs.map mT)) (zw (au (a:=bG ins gs os) (b:= .int 1) h1 rfl rfl)) (by simp [cH];omega) ?_
 have e:cH (gs.map mT)=(List.range gs.length).map fun i=> .tup [.int i,mT (gs.getD i (0,[],false))]:=by
  refine List.ext_getElem? fun i=>?_
  rw[List.getElem?_map,cH,List.getElem?_map,List.getElem?_zipIdx,List.getElem?_map];by_cases q:i < gs.length
  .rw [List.getElem?_eq_getElem q,List.getElem?_range q];show some (D.tup [.int ((0+i:Nat):Int),mT gs[i]])=some (D.tup [.int i,mT (gs.getD i (0,[],false))]);rw[Nat.zero_add,List.getD_eq_getElem?_getD,List.getElem?_eq_getElem q];rfl
  .rw [List.getElem?_eq_none (by omega),List.getElem?_eq_none (by simp;omega)];rfl
 rw[e];unfold mv;refine NT.dN (fun i:Nat=>match gs[i]? with | some g=>!g.2.2 | none=>false) (fun i:Nat=>D.tup [.int i,mT (gs.getD i (0,[],false))]) nI fun i hi=>?_
 rw[List.mem_range] at hi;refine⟨[.val (.int i), .val (mT (gs.getD i (0,[],false)))],rfl,?_,fun _=>rfl⟩
 rw[List.getElem?_eq_getElem hi,List.getD_eq_getElem?_getD,List.getElem?_eq_getElem hi];rfl
theorem Gw(NO:ke ins gs os)(hc:ins.length=c)(uZ:c<=10)(ho:∀x∈os,1<=x.2.length/\x.2.length<=3)(hS:lP S){Q:V3->aH->Prop}(h:Q (.d .cK) (TS S c ins gs os)) :
 W3 (dE [.loc S.length, .d (bG ins gs os)] (S++[.ins 1 []])) Q:=by
 have hz:sizeLine=16777216:=sizeLine_eq;unfold dE;refine QS rfl ?_;simp only[cv,d9,List.map,List.length,List.replicate,List.cons_append,List.nil_append,Nat.reduceAdd,Nat.reduceSub];unfold iF;have l1:(S++[SO.ins 1 []]).length=S.length+1:=by simp
 have g0:∀(x y:SO),(S++[x,y])[S.length]? =some x:=fun x y=>by rw[List.getElem?_append_right (Nat.le_refl _),Nat.sub_self];rfl
 have g1:∀(x y:SO),(S++[x,y])[S.length+1]? =some y:=fun x y=>by rw[List.getElem?_append_right (by omega),show S.length+1 - S.length=1 by omega];rfl
 have st:∀(x y z:SO),(S++[x,y]).set S.length z=S++[z,y]:=fun x y z=>by rw[List.set_append_right _ _ (Nat.le_refl _),Nat.sub_self];rfl
 have ap:∀(x y:SO),S++[x]++[y]=S++[x,y]:=fun x y=>by simp
 refine aA <| kj (k:=S.length) <| G9 <| ax <| bV (d:=bG ins gs os) rfl <| b_ <| KS hc uZ ?_ ⟨rfl,?_⟩
 .rw [ap];exact Oh hS rfl rfl
 rw[ap];refine w_var (v:= .loc S.length) rfl ⟨_,rfl,g0 _ _,by simp,_,rfl,?_⟩
 rw[st,l1];have hcl:∀fs:List (Str × V3),ku (S.length+2) (fs.map (·.2))=true->lP (S++[.ins 1 fs, .ins 0 (fB c (bG ins gs os))]):=fun fs hf=>Oh hS hf rfl
 refine aA <| kj (k:=S.length) <| y8 (k:=S.length+1) <| w_fld (k:=S.length) <| w_var (v:= .loc S.length) rfl ⟨_,_,rfl,g0 _ _,(by show List.lookup qd [(qd,V3.loc (S.length+1))]=_;rw [List.lookup_cons,beq_self_eq_true]),_,rfl,g1 _ _,Nz _ _ (by decide+kernel) (by decide+kernel) (by decide+kernel) (by decide+kernel),?_⟩
 refine ax <| bV (d:= .tup (([]:List Int).map .int)) rfl <| b_ <| uk NO hc ho (hcl _ ?_) (g1 _ _) ?_
 .show(decide (S.length+1 < S.length+2) && true)=true;rw[decide_eq_true (by omega)];rfl
 refine w_var (v:= .loc S.length) rfl ⟨_,rfl,g0 _ _,(by decide:1 < 1000),_,rfl,?_⟩
 rw[st];refine kj (k:=S.length) <| bV (d:= .lst ((mv gs).map nI)) (cX (Aq NO.hg rfl)) <| w_var (v:= .loc S.length) rfl ⟨_,rfl,g0 _ _,?_,_,rfl,?_⟩
 .exact(by decide:2 < 1000)
 rw[st];exact h
def lE(safe:Bool):Str:=if safe then "safe" else "right"
def pt(ws:List M)(x:Str × List Nat)(p:Nat):Bool × Bool:=M5 ((tell ws x).map (· p))
def N9(safe:Bool)(c:Nat)(ins:List (Str × Nat))(gs:List Gt)(os:List (Str × List Nat))(turned:List Int):M:=fun p=>os.any fun x=>brk safe (pt (Wd c ins gs [] []) x p) (pt (Wd c ins gs turned []) x p)
theorem ET{b:Nat}(NO:ke ins gs os)(hc:ins.length=c)(ho:∀x∈os,1<=x.2.length/\x.2.length<=3)(hS:lP S)(hk:S[k]? =some (.ins 1 (iR c ins gs os b)))(hb:S[b]? =some (.ins 0 (fB c (bG ins gs os)))){Q:V3->aH->Prop}
 (h:Q (.d (mI (2 ^ c) (N9 safe c ins gs os turned))) S):W3 (et [.loc k, .d (.tup (turned.map .int)), .d (.str (lE safe))] S) Q:=by
 have hz:sizeLine=16777216:=sizeLine_eq;unfold et;refine kU hS (ve rfl ?_);simp only[cv,eQ,List.map,List.length,List.replicate,List.cons_append,List.nil_append,Nat.reduceAdd,Nat.reduceSub];unfold hJ;have h0:D.int 0=mI (2 ^ c) fun _=>false:=by
  unfold mI;rw[wW.mpr fun _ _=>rfl];rfl
 refine aA <| a_ (by simp) <| bV (d:=mI (2 ^ c) fun _=>false) (by rw[<-h0];rfl) ⟨_,rfl,?_⟩
 simp only[List.set];refine aA <| eT <| Qn <| w_fld (k:=k) <| w_var (v:= .loc k) rfl ⟨_,_,rfl,hk,GD,?_⟩
 refine y8 (k:=b) <| w_fld (k:=k) <| w_var (v:= .loc k) rfl ⟨_,_,rfl,hk,Ig,_,rfl,hb,Nz _ _ (by decide+kernel) (by decide+kernel) (by decide+kernel) (by decide+kernel),?_⟩
 refine ax <| bV (d:= .tup (turned.map .int)) rfl <| b_ <| uk NO hc ho hS hb ⟨_,_,_,_,rfl,rfl,rfl,rfl,?_⟩
 have hzip:sj (K1 (2 ^ c) os (Wd c ins gs [] [])) (K1 (2 ^ c) os (Wd c ins gs turned []))=os.map fun x=> .tup [.tup [mI (2 ^ c) (r0 (tell (Wd c ins gs [] []) x)),mI (2 ^ c) (r1 (tell (Wd c ins gs [] []) x))], .tup [mI (2 ^ c) (r0 (tell (Wd c ins gs turned []) x)),mI (2 ^ c) (r1 (tell (Wd c ins gs turned []) x))]]:=by
  unfold sj K1;rw[List.zip_map',List.map_map];rfl
 rw[hzip];refine(bM (fun i δ S2=>S2=S/\∃a4 a5,δ=[some (.loc k),some (.d (.tup (turned.map .int))),some (.d (.str (lE safe))),some (.d (mI (2 ^ c) fun p=>(os.take i).any fun x=>brk safe (pt (Wd c ins gs [] []) x p) (pt (Wd c ins gs turned []) x p))),a4,a5])
  ⟨rfl,none,none,rfl⟩ ?_).mono fun o S2 ⟨du,eW,xg,a4,a5,hδ⟩=>⟨du,eW,?_⟩
 .rintro i v δ S2 hv ⟨rfl,a4,a5,rfl⟩;obtain⟨x,hx,rfl⟩:=NT.f6 hv;generalize hm:(fun p=>(os.take i).any fun x=>brk safe (pt (Wd c ins gs [] []) x p) (pt (Wd c ins gs turned []) x p))=m
  have hnext:(fun p=>(os.take (i+1)).any fun x=>brk safe (pt (Wd c ins gs [] []) x p) (pt (Wd c ins gs turned []) x p))=fun p=>m p || brk safe (pt (Wd c ins gs [] []) x p) (pt (Wd c ins gs turned []) x p):=by
   funext p;rw[List.take_add_one,hx,List.any_append,<-hm];simp
  rw[hnext];refine⟨[some (.loc k),some (.d (.tup (turned.map .int))),some (.d (.str (lE safe))),some (.d (mI (2 ^ c) m)),some (.d (.tup [mI (2 ^ c) (r0 (tell (Wd c ins gs [] []) x)),mI (2 ^ c) (r1 (tell (Wd c ins gs [] []) x))])),some (.d (.tup [mI (2 ^ c) (r0 (tell (Wd c ins gs turned []) x)),mI (2 ^ c) (r1 (tell (Wd c ins gs turned []) x))]))],rfl,?_⟩;unfold jV;refine j0 <| dt (b:=safe) (eD (a:= .str (lE safe)) (b:= .str "safe") rfl rfl ?_) ?_
  .show R.ok (D.bl (lE safe=="safe"))=_;congr 2;cases safe <;> decide+kernel
  cases safe with
  | true=>
    rw[if_pos rfl];refine a_ (by simp) <| bV (au (au (a:=mI (2 ^ c) m) rfl (au (au rfl rfl FE) (au rfl rfl He) (kJ _ _ _)) (pL _ _ _)) (au (au rfl rfl He) (au rfl rfl FE) (kJ _ _ _)) (pL _ _ _)) ⟨_,rfl,rfl,some (.d (.tup [mI (2 ^ c) (r0 (tell (Wd c ins gs [] []) x)),mI (2 ^ c) (r1 (tell (Wd c ins gs [] []) x))])),some (.d (.tup [mI (2 ^ c) (r0 (tell (Wd c ins gs turned []) x)),mI (2 ^ c) (r1 (tell (Wd c ins gs turned []) x))])),?_⟩
    simp only[List.set];congr 6;refine fK fun p _=>?_
    rw[Bool.or_assoc];rfl
  | false=>
    rw[if_neg (by decide)]
    refine a_ (by simp) <| bV (au (au (a:=mI (2 ^ c) m) rfl (au (au rfl rfl FE) (au rfl rfl FE) (t6 _ _ _)) (pL _ _ _)) (au (au rfl rfl He) (au rfl rfl He) (t6 _ _ _)) (pL _ _ _)) ⟨_,rfl,rfl,some (.d (.tup [mI (2 ^ c) (r0 (tell (Wd c ins gs [] []) x)),mI (2 ^ c) (r1 (tell (Wd c ins gs [] []) x))])),some (.d (.tup [mI (2 ^ c) (r0 (tell (Wd c ins gs turned []) x)),mI (2 ^ c) (r1 (tell (Wd c ins gs turned []) x))])),?_⟩
    simp only[List.set];congr 6;refine fK fun p _=>?_
    rw[Bool.or_assoc];rfl
 rw[List.length_map,List.length_map,List.take_length] at hδ;subst hδ xg;exact dC <| bV (d:=mI (2 ^ c) (N9 safe c ins gs os turned)) rfl ⟨_,rfl,by unfold gf;rfl,⟨[],by simp⟩,_,by unfold res;rfl,h⟩
end
end K22
end
section
namespace K22
open PySem PySem.Spec PyProof.Rows L2 L3 MT
def nZ(ps:List Nat):List Int:=ps.map fun(n:Nat)=>(n:Int)
theorem GU(ps:List Nat):(nZ ps).map D.int=ps.map nI:=by unfold nZ;rw [List.map_map];rfl
theorem GF(ps:List Nat)(i:Nat):(nZ ps).contains (i:Int)=ps.contains i:=by
 rw[Bool.eq_iff_iff];unfold nZ;simp only[List.contains_iff_mem,List.mem_map];exact⟨fun⟨a,ha,e⟩=>(by rw[<-Int.ofNat_inj.mp e];exact ha),fun h=>⟨i,h,rfl⟩⟩
section
variable {c:Nat} {ins:List (Str × Nat)} {gs:List Gt} {os:List (Str × List Nat)} {S:aH} {k:Nat} {safe:Bool}
theorem pq:(mv gs).length<=gs.length:=by
 unfold mv;exact Nat.le_trans (List.length_filter_le _ _) (by rw[List.length_range];exact Nat.le_refl _)
end
end K22
end
section
namespace K22
open PySem PySem.Spec PyProof.Rows L2 L3 MT
theorem nG{n i:Nat}{d:D}(h:(eY 0 n)[i]? =some d):i < n/\d= .int i:=by
 rw[eY,List.getElem?_map] at h;cases q:(List.range n)[i]? with
 | none=>rw [q] at h;cases h
 | some j=>
   rw[q] at h;cases h;obtain⟨q1,q2⟩:=List.getElem?_eq_some_iff.mp q;rw[List.getElem_range] at q2;rw[List.length_range] at q1;subst q2;exact⟨q1,by simp⟩
theorem Ny{ds:List D}{i:Nat}{x:D}(h:ds[i]? =some x):sR ds (i:Int)=some x:=by
 obtain⟨h1,h2⟩:=List.getElem?_eq_some_iff.mp h;rw[qy (by omega) (by rw[Int.toNat_natCast];exact h1)]
 simp [h2]
section
variable {gs:List Gt}
end
section
variable {S:aH} {δ:DE} {k q i:Nat} {ks:List Int}
theorem IM{Q:V3->aH->Prop}{f:FD}{m:Int}(hv:δ[i]? =some (some (.loc k)))(p:zI k S)(hf:f (cO S δ)= .ok (.int m))(hm:0 < m)(QZ:m < 1000000)
 (h:∀(r:Int) S1,0<=r->r < m->Ev k S S1->Q (.d (.int r)) S1):W3 (b9 aY (av (bQ i) (av (xT f) cn)) δ S) Q:=
 cF (ax (w_var hv (ax (Ds hf rfl (b_ (D_ p hm QZ fun r S1 h1 h2 p1 hl ho=>h r S1 h1 h2 ⟨p1,hl,ho⟩))))))
theorem dU{ds:List D}(e:S[q]? =some (.lst ds)):res S (.loc q)=some (.lst ds):=by unfold res;rw [e]
theorem sg(e:S[q]? =some (.lst (ks.map .int)))(hi:δ[i]? =some (some (.loc q))):bw iW (az (ab i) bb) (cO S δ)= .ok (.int ks.length):=by
 refine bf (ds:=[.lst (ks.map .int)]) (bc ?_ rfl) (by rw[sW,List.length_map])
 unfold ab cO;rw[List.getElem?_map,hi];show(match some (match res S (.loc q) with | some d=>Sl.val d | none=> .un) with | some (.val d)=>R.ok d | _=> .no)=_
 rw[dU e]
theorem LN{w:Nat}(h:w < ks.length):cb (.lst (ks.map .int)) (nI w)= .ok (.int ks[w]):=wy (Ny (by rw[List.getElem?_map,List.getElem?_eq_getElem h];rfl))
theorem K2{own:List Str}{kp:List Nat}{it:FA}{w:Nat}{Q:V3->aH->Prop}(e:S[q]? =some (.lst (ks.map .int)))(hw:w < ks.length)(hn:ks.length < 10000)(Jb:mh own kp δ=[none,some (.loc q),some (.d (nI w))])
 (hit:W3 (it δ S) fun vs S1=>vs=(eY 0 ks.length).map .d/\S1=S) (h:∀l:List Nat,0 < l.length->l.length < 10000->(∀x∈l,x < ks.length/\ks.getD x 0=ks.getD w 0)->Q (.d (.lst (l.map nI))) S) :
 W3 (jt it (jH 0) (bT (b2 jm (e2 cb (ab 1) (ab 0)) (e2 cb (ab 1) (ab 2)))) (xP (ab 0)) own kp δ S) Q:=by
 have hz:sizeLine=16777216:=sizeLine_eq;refine lA (fun i ds S2=>S2=S/\∃l:List Nat,ds=l.map nI/\(∀x∈l,x < ks.length/\ks.getD x 0=ks.getD w 0)/\l.length<=i/\(w < i->0 < l.length)) (hit.mono fun vs S1 ⟨e1,eW⟩=>?_)
 subst e1 eW;have hlen:((eY 0 ks.length).map V3.d).length=ks.length:=by simp [eY]
 rw[hlen];refine⟨by omega,⟨rfl,[],rfl,by simp,by simp,by omega⟩,?_,?_⟩
 .rintro i v ds S2 hv ⟨rfl,l,rfl,hl,Pc,TC⟩;rw[Jb];rw[List.getElem?_map] at hv;cases qq:(eY 0 ks.length)[i]? with
  | none=>rw [qq] at hv;cases hv
  | some d0=>
    rw[qq] at hv;obtain⟨hi,rfl⟩:=nG qq;cases hv;refine⟨[some (.d (.int i)),some (.loc q),some (.d (nI w))],rfl,La (b:=decide (ks[i]=ks[w])) ?_ ?_⟩
    .have hT:cO S2 [some (.d (.int i)),some (.loc q),some (.d (nI w))]=[.val (nI i), .val (.lst (ks.map .int)), .val (nI w)]:=by
      simp only[cO,List.map_cons,List.map_nil,dU e];rfl
     rw[hT];exact eD (a:= .int ks[i]) (b:= .int ks[w]) (au (a:= .lst (ks.map .int)) (b:=nI i) rfl rfl (LN hi)) (au (a:= .lst (ks.map .int)) (b:=nI w) rfl rfl (LN hw)) rfl
    .by_cases hc:ks[i]=ks[w]
     .rw [decide_eq_true hc,if_pos rfl];refine bV rfl ⟨nI i,rfl,rfl,l++[i],by simp,?_,by simp;omega,by simp⟩
      intro x hx;rcases List.mem_append.mp hx with z | z
      .exact hl x z
      .rw [List.mem_singleton] at z;subst z;exact⟨hi,by rw[List.getD_eq_getElem?_getD,List.getD_eq_getElem?_getD,List.getElem?_eq_getElem hi,List.getElem?_eq_getElem hw,hc]⟩
     .rw [decide_eq_false hc,if_neg (by decide)]
      refine⟨rfl,l,rfl,hl,by omega,fun W2=>TC ?_⟩
      have:w≠i:=fun z=>hc (by subst z;rfl)
      omega
 .rintro ds S2 ⟨rfl,l,rfl,hl,Pc,TC⟩;exact h l (TC hw) (by omega) hl
theorem KU{f:FX}{fm:FD}{l:List Nat}{Q:V3->aH->Prop}(hf:W3 (f δ S) fun v S1=>v= .d (.lst (l.map nI))/\S1=S)(hv:δ[i]? =some (some (.loc k)))(p:zI k S)(hm:fm (down δ)= .ok (.int l.length))(hl:0 < l.length)(F7:l.length < 10000)
 (h:∀x S1,x∈l->Ev k S S1->Q (.d (nI x)) S1):W3 (O6 f (b9 aY (av (bQ i) (av (xP fm) cn))) δ S) Q:=by
 refine Nb (hf.mono fun v S1 ⟨e1,eW⟩=>?_)
 subst e1 eW;refine draw hv p hm (by omega) (by omega) fun r S2 h1 h2 v2=>⟨_,_,nI (l[r.toNat]'(by omega)),rfl,rfl,wy ?_,h _ S2 (List.getElem_mem _) v2⟩
 rw[qy h1 (by rw[List.length_map];omega)]
 simp
end
theorem Ag(ws:List Nat):rH (.tup (ws.map nI))=true:=by
 unfold rH
 induction ws with
 | nil=>unfold lh;rfl
 | cons w ws ih=>rw [List.map_cons];unfold lh;rw [ih];rfl
theorem HM(c:Int)(n:Nat):(List.replicate n [D.int c]).flatten=(List.replicate n c).map D.int:=by
 induction n with
 | zero=>rfl
 | succ n ih=>rw [List.replicate_succ,List.flatten_cons,ih,List.replicate_succ];rfl
theorem HC{f:aw->R (List D)}{g:FD}{δ:aw}{ds:List D}{n:Nat}(h1:f δ= .ok ds)(h2:g δ= .ok (.int n))(hn:n < 1000000)(hl:ds.length*n<=sizeLine):Hr f g δ= .ok (List.replicate n ds).flatten:=by
 unfold Hr;rw[h1,R.bj,h2,R.bj];show R.bX (decide (0<=(n:Int)/\(n:Int) < 1000000/\ds.length*(n:Int).toNat<=sizeLine)) _=_;rw[cJ _ ⟨by omega,by omega,by rw[Int.toNat_natCast];exact hl⟩,Int.toNat_natCast]
def pv(l:List (Str × Nat))(gs:List Gt)(ms:List M)(p n:Nat):Bool:=c_ (pQ gs [] (cM l ms [] l.length) gs.length) n p
theorem vc{gs:List Gt}{t:List Int}{w0:List M}{n:Nat}:∀{j i:Nat},i<=j->j<=gs.length->n < w0.length+i->c_ (pQ gs t w0 j) n=c_ (pQ gs t w0 i) n
 | 0,i,h,_,_=>by rw[show i=0 by omega]
 | j+1,i,h,hj,hn=>by
   by_cases q:i=j+1
   .rw [q]
   .rw [<-vc (j:=j) (i:=i) (by omega) (by omega) hn]
    conv=>lhs;unfold pQ
    rw[List.getElem?_eq_getElem (by omega:j < gs.length)]
    show c_ (pQ gs t w0 j++[_]) n=_;rw[yU (by rw[px j (by omega)];omega)]
theorem Ex{gs hs:List Gt}{t:List Int}{w0:List M}:∀i,i<=gs.length->pQ (gs++hs) t w0 i=pQ gs t w0 i
 | 0,_=>rfl
 | i+1,hi=>by
   unfold pQ;rw[List.getElem?_append_left (by omega),List.getElem?_eq_getElem (by omega:i < gs.length),Ex i (by omega)]
theorem AX{l:List (Str × Nat)}{x:Str × Nat}{ms:List M}{bad:List Int}:∀i,i<=l.length->cM (l++[x]) ms bad i=cM l ms bad i
 | 0,_=>rfl
 | i+1,hi=>by
   unfold cM;rw[List.getElem?_append_left (by omega),AX i (by omega)]
theorem x6{l:List (Str × Nat)}{ms:List M}{bad:List Int}(hb:l.length<=ms.length):∀i,i<=l.length->(cM l ms bad i).length=iY (l.take i)
 | 0,_=>rfl
 | i+1,hi=>by
   have h1:l[i]? =some l[i]:=List.getElem?_eq_getElem (by omega)
   have h2:ms[i]? =some ms[i]:=List.getElem?_eq_getElem (by omega)
   unfold cM;rw[h1,h2];show(g6 bad ms[i] l[i].2 (cM l ms bad i)).length=_;rw[iI,x6 hb i (by omega),List.take_add_one,h1]
   unfold iY;simp only[Option.toList_some,List.map_append,List.sum_append,List.map_cons,List.map_nil,List.sum_cons,List.sum_nil];omega
theorem yy(b:M):∀m ws n,n < ws.length->c_ (g6 [] b m ws) n=c_ ws n
 | 0,ws,n,h=>rfl
 | m+1,ws,n,h=>by unfold g6;rw [yU (by rw[iI];omega)];exact yy b m ws n h
theorem yG(b:M):∀m ws n,ws.length<=n->n < ws.length+m->c_ (g6 [] b m ws) n=b
 | 0,ws,n,h,h2=>by omega
 | m+1,ws,n,h,h2=>by
   have hl:=iI [] b m ws;unfold g6;by_cases q:n < ws.length+m
   .rw [yU (by omega)];exact yG b m ws n h q
   .rw [show n=(g6 [] b m ws).length by omega,AN]
    funext p;simp
structure JJ (l:List (Str × Nat)) (ks:List Int):Prop where
 len:ks.length=iY l
 v:∀n,n < ks.length->∃j:Nat,j < l.length/\ks.getD n 0=(j:Int)/\∀ms:List M,l.length<=ms.length->c_ (cM l ms [] l.length) n=ms.getD j fun _=>false
theorem JJ.nil:JJ [] []:=⟨rfl,fun n h=>by simp at h⟩
theorem l8{ks:List Int}{xs:List Int}{n:Nat}(h:n < ks.length):(ks++xs).getD n 0=ks.getD n 0:=by rw[List.getD_eq_getElem?_getD,List.getElem?_append_left h,List.getD_eq_getElem?_getD]
theorem JJ.add{l:List (Str × Nat)}{ks:List Int}(h:JJ l ks)(s:Str)(w:Nat):JJ (l++[(s,w)]) (ks++List.replicate w (l.length:Int)):=by
 have hw:iY (l++[(s,w)])=iY l+w:=by simp [iY]
 refine⟨by rw[List.length_append,List.length_replicate,h.len,hw],fun n hn=>?_⟩
 rw[List.length_append,List.length_replicate] at hn;have step:∀ms:List M,(l++[(s,w)]).length<=ms.length->cM (l++[(s,w)]) ms [] (l++[(s,w)]).length=g6 [] (ms.getD l.length fun _=>false) w (cM l ms [] l.length)/\(cM l ms [] l.length).length=ks.length:=fun ms pR=>by
  rw[List.length_append] at pR ⊢;have pR:l.length < ms.length:=pR;refine⟨?_,by rw[x6 (by omega) _ (Nat.le_refl _),List.take_length,h.len]⟩
  show cM (l++[(s,w)]) ms [] (l.length+1)=_
  conv=>lhs;unfold cM
  rw[List.getElem?_append_right (Nat.le_refl _),Nat.sub_self,List.getElem?_eq_getElem pR,AX _ (Nat.le_refl _),List.getD_eq_getElem?_getD,List.getElem?_eq_getElem pR];rfl
 by_cases q:n < ks.length
 .obtain⟨j,hj,hk,hv⟩:=h.v n q;refine⟨j,by rw[List.length_append];omega,by rw[l8 q];exact hk,fun ms pR=>?_⟩
  obtain⟨e1,e2⟩:=step ms pR;rw[e1,yy _ _ _ _ (by omega)]
  exact hv ms (by rw[List.length_append] at pR;omega)
 .refine⟨l.length,by rw[List.length_append];simp,?_,fun ms pR=>?_⟩
  .rw [List.getD_eq_getElem?_getD,List.getElem?_append_right (by omega),List.getElem?_replicate,if_pos (by omega)];rfl
  .obtain⟨e1,e2⟩:=step ms pR;rw[e1,yG _ _ _ _ (by omega) (by omega)]
structure KI (l:List (Str × Nat)) (gs:List Gt) (ks:List Int):Prop where
 len:ks.length=iY l+gs.length
 b:∀n,n < ks.length->ks.getD n 0 < (l.length:Int)+gs.length
 v:∀ms:List M,ms.length=l.length->∀p n n',n < ks.length->n' < ks.length->ks.getD n 0=ks.getD n' 0->pv l gs ms p n=pv l gs ms p n'
theorem JJ.ki{l:List (Str × Nat)}{ks:List Int}(h:JJ l ks):KI l [] ks:=by
 refine⟨by rw[h.len];rfl,fun n hn=>?_,fun ms pR p n n' hn OH e=>?_⟩
 .obtain⟨j,hj,hk,_⟩:=h.v n hn;rw[hk];simp;omega
 .obtain⟨j,hj,hk,hv⟩:=h.v n hn;obtain⟨j',RQ,WW,Uo⟩:=h.v n' OH;have:j=j':=by rw[hk,WW] at e;omega
  subst this;show c_ (cM l ms [] l.length) n p=c_ (cM l ms [] l.length) n' p;rw[hv ms (by omega),Uo ms (by omega)]
section
variable {l:List (Str × Nat)} {gs:List Gt} {g:Gt} {ms:List M} {p n:Nat} {ks:List Int}
theorem Iy(pR:ms.length=l.length):(cM l ms [] l.length).length=iY l:=by rw[mO pR _ (Nat.le_refl _),List.take_length]
theorem G7(pR:ms.length=l.length)(hn:n < iY l+gs.length):pv l (gs++[g]) ms p n=pv l gs ms p n:=by
 have h0:=Iy pR;unfold pv;rw[vc (gs:=gs++[g]) (i:=gs.length) (by rw[List.length_append];omega) (Nat.le_refl _) (by omega),Ex _ (Nat.le_refl _)]
theorem LO{i:Nat}(pR:ms.length=l.length)(h:gs[i]? =some g)(hg:zP (iY l+i) g):pv l gs ms p (iY l+i)=gv g.1 (g.2.1.map (pv l gs ms p)):=by
 have h0:=Iy pR;have hi:=(List.getElem?_eq_some_iff.mp h).1;unfold pv;rw[vc (i:=i+1) (by omega) (Nat.le_refl _) (by omega)]
 conv=>lhs;unfold pQ
 rw[h];show c_ (pQ gs [] (cM l ms [] l.length) i++[fun p=>gF g (pQ gs [] (cM l ms [] l.length) i) p !=false]) (iY l+i) p=_
 have hl:=px (gs:=gs) (turned:=[]) (w0:=cM l ms [] l.length) i (by omega)
 rw[show iY l+i=(pQ gs [] (cM l ms [] l.length) i).length by omega,AN]
 show(gv g.1 (g.2.1.map fun n=>c_ (pQ gs [] (cM l ms [] l.length) i) n p) !=false)=_
 have:g.2.1.map (fun n=>c_ (pQ gs [] (cM l ms [] l.length) i) n p)=g.2.1.map fun n=>c_ (pQ gs [] (cM l ms [] l.length) gs.length) n p:=List.map_congr_left fun z hz=>by
  rw[vc (j:=gs.length) (i:=i) (by omega) (Nat.le_refl _) (by have:=hg.2.2 z hz;omega)]
 rw[this];simp
theorem Gv{f:Nat->Bool}{ks:List Int}{N:Nat}(hf:∀a b,a < N->b < N->ks.getD a 0=ks.getD b 0->f a=f b):∀{u v:List Nat},(∀x∈u,x < N)->(∀x∈v,x < N)->u.map (ks.getD · 0)=v.map (ks.getD · 0)->u.map f=v.map f
 | [],[],_,_,_=>rfl
 | [],_ ::_,_,_,h=>by simp at h
 | _ ::_,[],_,_,h=>by simp at h
 | a ::u,b ::v,h1,h2,h=>by
   rw[List.map_cons,List.map_cons] at h;obtain⟨e1,e2⟩:=List.cons.inj h;rw[List.map_cons,List.map_cons,hf a b (h1 a List.mem_cons_self) (h2 b List.mem_cons_self) e1,Gv hf (fun x hx=>h1 x (List.mem_cons_of_mem _ hx)) (fun x hx=>h2 x (List.mem_cons_of_mem _ hx)) e2]
theorem KI.add{x:Int}(h:KI l gs ks)(Jv:∀(i:Nat) (g:Gt),gs[i]? =some g->zP (iY l+i) g)(hg:zP ks.length g)
 (hx:x=(l.length:Int)+gs.length\/∃pl g0,gs[pl]? =some g0/\x=ks.getD (iY l+pl) 0/\g.1=g0.1/\g.2.1.map (ks.getD · 0)=g0.2.1.map (ks.getD · 0)):KI l (gs++[g]) (ks++[x]):=by
 have hl:=h.len;have hlast:(ks++[x]).getD ks.length 0=x:=by rw[List.getD_eq_getElem?_getD,List.getElem?_append_right (Nat.le_refl _),Nat.sub_self];rfl
 have Ph:(ks++[x]).length=ks.length+1:=by simp
 refine⟨by rw[Ph,hl,List.length_append];rfl,fun n hn=>?_,?_⟩
 .rw [Ph] at hn;rw[List.length_append,List.length_singleton];by_cases q:n < ks.length
  .rw [l8 q];have:=h.b n q;omega
  .rw [show n=ks.length by omega,hlast]
   rcases hx with rfl | ⟨pl,g0,h0,rfl,_⟩
   .omega
   .have:=h.b (iY l+pl) (by have:=(List.getElem?_eq_some_iff.mp h0).1;omega);omega
 .intro ms pR p;have new:∀pl g0,gs[pl]? =some g0->x=ks.getD (iY l+pl) 0->g.1=g0.1->g.2.1.map (ks.getD · 0)=g0.2.1.map (ks.getD · 0)->pv l (gs++[g]) ms p ks.length=pv l gs ms p (iY l+pl):=fun pl g0 h0 _ e1 e2=>by
   have lT:=(List.getElem?_eq_some_iff.mp h0).1;have hgat:(gs++[g])[gs.length]? =some g:=by rw[List.getElem?_append_right (Nat.le_refl _),Nat.sub_self];rfl
   rw[hl,LO pR hgat (by rw[<-hl];exact hg),LO pR h0 (Jv pl g0 h0),e1]
   have e3:g.2.1.map (pv l (gs++[g]) ms p)=g.2.1.map (pv l gs ms p):=List.map_congr_left fun z hz=>G7 pR (by have:=hg.2.2 z hz;omega)
   rw[e3];congr 1;exact Gv (N:=ks.length) (fun a b ha hb e=>h.v ms pR p a b ha hb e) hg.2.2 (fun z hz=>by have:=(Jv pl g0 h0).2.2 z hz;omega) e2
  have old:∀n,n < ks.length->pv l (gs++[g]) ms p n=pv l gs ms p n:=fun n hn=>G7 pR (by omega)
  have mix:∀n,n < ks.length->ks.getD n 0=x->pv l (gs++[g]) ms p n=pv l (gs++[g]) ms p ks.length:=fun n hn e=>by
   rcases hx with rfl | ⟨pl,g0,h0,hx,e1,e2⟩
   .have:=h.b n hn;omega
   .rw [new pl g0 h0 hx e1 e2,old n hn];exact h.v ms pR p n _ hn (by have:=(List.getElem?_eq_some_iff.mp h0).1;omega) (e.trans hx)
  intro n n' hn OH e;rw[Ph] at hn OH;by_cases q:n < ks.length
  .rw [l8 q] at e;by_cases q':n' < ks.length
   .rw [l8 q'] at e;rw[old n q,old n' q'];exact h.v ms pR p n n' q q' e
   .have en':n'=ks.length:=by omega
    subst en';rw[hlast] at e;exact mix n q e
  .have en:n=ks.length:=by omega
   subst en;by_cases q':n' < ks.length
   .rw [l8 q',hlast] at e;exact(mix n' q' e.symm).symm
   .rw [show n'=ks.length by omega]
end
theorem zI.app{k:Nat}{S X:aH}(p:zI k S)(hX:Flat X):zI k (S++X):=by
 have h:=p.lt;obtain⟨hL,a,c,e⟩:=p;exact⟨fun o ho=>(List.mem_append.mp ho).elim (hL o) (hX o),a,c,by rw[List.getElem?_append_left h];exact e⟩
theorem Ev.split{k:Nat}{S X S2:aH}(v:Ev k (S++X) S2)(hk:k < S.length):∃S',S2=S'++X/\Ev k S S':=by
 have hl:=v.len;rw[List.length_append] at hl;refine⟨S2.take S.length,?_,⟨v.p.1.take _,?_⟩,by rw[List.length_take];omega,fun j hj=>?_⟩
 .have e:S2.drop S.length=X:=by
   refine List.ext_getElem? fun i=>?_
   rw[List.getElem?_drop,v.oth _ (by omega),List.getElem?_append_right (by omega),show S.length+i - S.length=i by omega]
  rw[<-e,List.take_append_drop]
 .obtain⟨_,a,c,e⟩:=v.p;exact⟨a,c,by rw[List.getElem?_take_of_lt hk];exact e⟩
 .by_cases q:j < S.length
  .rw [List.getElem?_take_of_lt q,v.oth j hj,List.getElem?_append_left q]
  .rw [List.getElem?_eq_none (by rw[List.length_take];omega),List.getElem?_eq_none (by omega)]
theorem AA(a:List D):Flat [SO.lst a]:=fun o ho=>by rw[List.mem_singleton.mp ho];exact pZ _
theorem yr(a b:List D):Flat [SO.lst a,SO.lst b]:=fun o ho=>by
 simp only[List.mem_cons,List.not_mem_nil,or_false] at ho;rcases ho with rfl | rfl <;> exact pZ _
theorem rN(a b c:List D):Flat [SO.lst a,SO.lst b,SO.lst c]:=fun o ho=>by
 simp only[List.mem_cons,List.not_mem_nil,or_false] at ho;rcases ho with rfl | rfl | rfl <;> exact pZ _
theorem wA{k:Nat}{S S1 X:aH}{d:D}{v:V3}{Q:V3->aH->Prop}(e:Ev k S S1)(hX:Flat X)(hg:gf S.length v=true)(hr:res (S1++X) v=some d)(h:Q (.d d) S1):Flat (S1++X)/\gf S.length v=true/\∃d,res (S1++X) v=some d/\Q (.d d) ((S1++X).take S.length):=by
 refine⟨fun o ho=>(List.mem_append.mp ho).elim (e.p.1 o) (hX o),hg,d,hr,?_⟩
 rw[<-e.len,List.take_left];exact h
end K22
end
section
namespace K22
open PySem PySem.Spec PyProof.Rows L2 L3 MT
def GA:List Str:=["a","bb","signal","x","yes","abcdefgh"]
theorem MN:∀s∈GA,eu 0 (.str s):=fun s hs=>by
 simp only[GA,List.mem_cons,List.not_mem_nil,or_false] at hs;rcases hs with rfl | rfl | rfl | rfl | rfl | rfl <;> exact eu.str (by decide+kernel)
theorem Qu{n:Int}(h0:0<=n)(h:n < 6):∃s∈GA,cb (.lst (GA.map .str)) (.int n)= .ok (.str s):=by
 refine⟨GA[n.toNat]'(by simp [GA];omega),List.getElem_mem _,?_⟩
 obtain⟨m,rfl⟩:=Int.eq_ofNat_of_zero_le h0;exact NT.lC (by rw[List.getElem?_map,List.getElem?_eq_getElem (by simp [GA];omega)];rfl)
def KY(x:Str × Nat):Prop:=(1<=x.2/\x.2<=3)/\eu 0 (.str x.1)
theorem A_{S:aH}{k:Nat}{mo:Int}(p:zI k S)(Uq:1<=mo/\mo<=6){Q:V3->aH->Prop}
 (h:∀(l:List (Str × Nat)) S1,(∀x∈l,KY x)->1<=l.length->(l.length:Int)<=mo->Ev k S S1->Q (.d (.lst (l.map MT.inD))) S1) :
 W3 (gA [.loc k, .d (.int mo), .d (.int 3)] S) Q:=by
 have hz:sizeLine=16777216:=sizeLine_eq;have hk:=p.lt;unfold gA;refine vL (ve rfl ?_);simp only[cv,gU,List.map,List.length,List.replicate,List.cons_append,List.nil_append,Nat.reduceAdd,Nat.reduceSub];unfold kF;refine aA <| a_ (by simp) <| bV (d:= .lst (GA.map .str)) rfl ⟨_,rfl,?_⟩
 simp only[List.set];refine aA <| a_ (by simp) <| draw (k:=k) rfl p rfl (by omega) (by omega) fun t S1 h1 h2 v1=>⟨_,rfl,?_⟩
 simp only[List.set];refine aA <| a_ (by simp) <| js (ds:=[]) rfl ⟨_,rfl,?_⟩
 simp only[List.set];have l1:=v1.len;refine aA <| eT <| y6 <| L5 <| bV (d:= .int 1) rfl <| draw (k:=k) rfl (v1.p.app (AA [])) rfl Uq.1 (by omega) fun r S2 h3 h4 v2=>?_
 obtain⟨S3,rfl,v3⟩:=v2.split (by omega)
 obtain⟨n,rfl⟩:=Int.eq_ofNat_of_zero_le h3;refine⟨_,_, .int ((1+n:Nat):Int),rfl,rfl,?_,1+n,rfl,by omega,?_⟩
 .show R.ok (D.int (1+(n:Int)))=_;congr 2
 refine(bM (fun i δ S4=>∃(l:List (Str × Nat)) (S':aH) (a6:Option V3),l.length=i/\(∀x∈l,KY x)/\Ev k S S'/\S4=S'++[.lst (l.map MT.inD)]/\δ=[some (.loc k),some (.d (.int mo)),some (.d (.int 3)),some (.d (.lst (GA.map .str))),some (.d (.int t)),some (.loc S1.length),a6])
  ⟨[],S3,none,rfl,by simp,v1.trans v3,rfl,rfl⟩ ?_).mono fun o S4 ⟨RT,e4,l,S',a6,hl,hlo,vS,TY,hδ⟩=>⟨RT,e4,?_⟩
 .rintro i v δ S4 hv ⟨l,S',a6,hl,hlo,vS,rfl,rfl⟩;obtain⟨hi,rfl⟩:=NT.nG hv;have lS:=vS.len;refine⟨[some (.loc k),some (.d (.int mo)),some (.d (.int 3)),some (.d (.lst (GA.map .str))),some (.d (.int t)),some (.loc S1.length),some (.d (.int i))],rfl,?_⟩;unfold mF;have hg:(S'++[SO.lst (l.map MT.inD)])[S1.length]? =some (.lst (l.map MT.inD)):=by rw[show S1.length=S'.length by omega];exact ba _ _
  obtain⟨s,hs,es⟩:=Qu (n:=(t+(i:Int)) % 6) (Int.emod_nonneg _ (by omega)) (Int.emod_lt_of_pos _ (by omega))
  refine nU (k:=S1.length) rfl ⟨_,hg⟩ <| yp <| ax <| bV (d:= .str s) (au (a:= .lst (GA.map .str)) (b:= .int ((t+(i:Int)) % 6)) rfl (au (a:= .int (t+(i:Int))) (b:= .int 6) (au (a:= .int t) (b:= .int i) rfl rfl rfl) rfl (Cr (by omega))) es) <| ax <| L5 <| bV (d:= .int 1) rfl <| draw (k:=k) (m:=3) rfl (vS.p.app (AA _)) rfl (by omega) (by omega) fun r2 S5 h5 h6 v5=>?_
  obtain⟨S6,rfl,v6⟩:=v5.split (by omega)
  obtain⟨w,rfl⟩:=Int.eq_ofNat_of_zero_le h5;have l6:=v6.len;refine⟨_,_,nI (1+w),rfl,rfl,?_,b_ ⟨by simp;omega,MT.inD (s,1+w),l.map MT.inD,rfl,?_,by rw[List.length_map];omega,_,rfl,l++[(s,1+w)],S6,_,by simp [hl],?_,vS.trans v6,?_,rfl⟩⟩
  .show R.ok (D.int (1+(w:Int)))=R.ok (D.int ((1+w:Nat):Int));congr 2
  .rw [show S1.length=S6.length by omega];exact ba _ _
  .intro x hx;rcases List.mem_append.mp hx with q | q
   .exact hlo x q
   .rw [List.mem_singleton.mp q];exact⟨⟨by show 1<=1+w;omega,by show 1+w<=3;omega⟩,MN s hs⟩
  .rw [show S1.length=S6.length by omega,dg,List.map_append];rfl
 .subst hδ TY;rw[NT.kz] at hl;have lS:=vS.len;refine dC <| w_var (v:= .loc S1.length) rfl ⟨_,rfl,wA vS (AA _) ?_ (dU ?_) (h l S' hlo (by omega) (by omega) vS)⟩
  .show decide (S.length<=S1.length)=true;exact decide_eq_true (by omega)
  .rw [show S1.length=S'.length by omega];exact ba _ _
def LW:List D:=[.str "not", .str "and", .str "or", .str "xor", .str "vote", .str "and", .str "or", .str "xor"]
def Tg:List (Key × V):=[((Sum.inr "not":Key),V.int 1),((Sum.inr "vote":Key),V.int 3)]
theorem Lc(r:Nat)(h:r < 8):∃kd,kd<=4/\cb (.lst LW) (.int r)= .ok (.str (kS kd))/\(match lM (lN [] Tg) (Sum.inr (kS kd)) with | some (.int i)=>R.ok (D.int i) | none=> .ok (.int 2) | _=> .no)= .ok (.int (ar kd)):=by
 match r,h with
 | 0,_=>exact⟨0,by omega,rfl,rfl⟩
 | 1,_=>exact⟨1,by omega,rfl,rfl⟩
 | 2,_=>exact⟨2,by omega,rfl,rfl⟩
 | 3,_=>exact⟨3,by omega,rfl,rfl⟩
 | 4,_=>exact⟨4,by omega,rfl,rfl⟩
 | 5,_=>exact⟨1,by omega,rfl,rfl⟩
 | 6,_=>exact⟨2,by omega,rfl,rfl⟩
 | 7,_=>exact⟨3,by omega,rfl,rfl⟩
def O4(kd:Nat)(ws:List Nat):D:= .tup [.str (kS kd), .tup (ws.map nI)]
theorem J2{S:aH}{k n:Nat}(p:zI k S)(h0:0 < n)(hn:n < 10000){Q:V3->aH->Prop}(h:∀kd (ws:List Nat) S1,kd<=4->ws.length=ar kd->(∀w∈ws,w < n)->Ev k S S1->Q (.d (O4 kd ws)) S1) :
 W3 (lD [.loc k, .d (nI n)] S) Q:=by
 have hz:sizeLine=16777216:=sizeLine_eq;have hk:=p.lt;unfold lD;refine vL (ve rfl ?_);simp only[cv,kP,List.map,List.length,List.replicate,List.cons_append,List.nil_append,Nat.reduceAdd,Nat.reduceSub];unfold qw;refine aA <| a_ (by simp) <| Nb <| bV (d:= .lst LW) rfl <| draw (k:=k) rfl p rfl (by omega) (by omega) fun r S1 h1 h2 v1=>?_
 obtain⟨kd,Pe,e1,eW⟩:=Lc r.toNat (by omega)
 rw[Int.toNat_of_nonneg h1] at e1;refine⟨_,_,_,rfl,rfl,e1,_,rfl,?_⟩;simp only[List.set];refine aA <| a_ (by simp) <| bV (d:= .int (ar kd)) eW ⟨_,rfl,?_⟩
 simp only[List.set];have har:=Df kd;refine aA <| a_ (by simp) <| lA (fun j ds S2=>Ev k S S2/\∃ws:List Nat,ds=ws.map nI/\ws.length=j/\∀w∈ws,w < n) (lH (ds:=eY 0 (ar kd)) (mY (n:=ar kd) rfl (by omega)) ⟨by rw[NT.kz];omega,⟨v1,[],rfl,rfl,by simp⟩,?_,?_⟩)
 .rintro j v ds S2 hv ⟨v2,ws,rfl,zK,Mg⟩;obtain⟨hj,rfl⟩:=NT.nG hv;refine⟨[some (.d (.int j)),some (.loc k),some (.d (nI n))],rfl,ui ?_⟩;rw[if_pos rfl];have hmn:∃mn:Int,0 < mn/\mn<=n/\t7 [nI n, .int 4]= .ok (.int mn):=⟨if(4:Int) < n then 4 else n,by split <;> omega,by split <;> omega,rfl⟩
  obtain⟨mn,m1,m2,m3⟩:=hmn;obtain⟨m,TM,QZ,XS⟩:∃m:Int,0 < m/\m<=n/\cb (.lst [nI n, .int mn]) (.int ((j:Int) % 2))= .ok (.int m):=by
   have:(j:Int) % 2=0\/(j:Int) % 2=1:=by omega
   rcases this with q | q
   .rw [q];exact⟨n,by omega,by omega,rfl⟩
   .rw [q];exact⟨mn,by omega,by omega,rfl⟩
  refine L5 <| bV (d:= .int ((n:Int) - 1)) rfl <| draw (k:=k) (m:=m) rfl v2.p (au (a:= .lst [nI n, .int mn]) (b:= .int ((j:Int) % 2)) (cX (lj (bc rfl (bc (bf (ds:=[nI n, .int 4]) rfl m3) rfl)) (by simp;omega))) (au (a:= .int j) (b:= .int 2) rfl rfl (Cr (by omega))) XS) TM (by omega) fun r2 S3 h3 h4 v3=>?_
  obtain⟨w,hw⟩:∃w:Nat,(n:Int) - 1 - r2=w:=⟨((n:Int) - 1 - r2).toNat,by omega⟩
  refine⟨_,_,nI w,rfl,rfl,?_,_,rfl,v2.trans v3,ws++[w],by simp,by simp [zK],?_⟩
  .show R.ok (D.int ((n:Int) - 1 - r2))=_;rw[hw];rfl
  .intro x hx;rcases List.mem_append.mp hx with q | q
   .exact Mg x q
   .rw [List.mem_singleton.mp q];omega
 .rintro ds S2 ⟨v2,ws,rfl,zK,Mg⟩;rw[NT.kz] at zK;refine⟨_,rfl,?_⟩;simp only[List.set];have:=wA (X:=[]) (v:= .d (O4 kd ws)) (d:=O4 kd ws) (Q:=Q) v2 (fun o ho=>by cases ho) rfl (by unfold res;rfl) (h kd ws S2 Pe zK Mg v2)
  rw[List.append_nil] at this;exact dC <| bV (d:=O4 kd ws) rfl ⟨_,rfl,this⟩
theorem qW{S:aH}{k q w:Nat}{ks:List Int}(p:zI k S)(hq:q≠k)(e:S[q]? =some (.lst (ks.map .int)))(hw:w < ks.length)(hn:ks.length < 10000){Q:V3->aH->Prop}(h:∀x S1,x < ks.length->ks.getD x 0=ks.getD w 0->Ev k S S1->Q (.d (nI x)) S1) :
 W3 (eh [.loc k, .loc q, .d (nI w)] S) Q:=by
 have hz:sizeLine=16777216:=sizeLine_eq;have hk:=p.lt;unfold eh;refine vL (ve rfl ?_);simp only[cv,kG,List.map,List.length,List.replicate,List.cons_append,List.nil_append,Nat.reduceAdd,Nat.reduceSub];unfold qe;refine aA <| a_ (by simp) <| K2 (q:=q) e hw hn rfl (y6 (Ds (d:= .int ks.length) (sg e rfl) rfl ⟨ks.length,rfl,by omega,rfl,rfl⟩)) fun l Xg zE F7=>⟨_,rfl,?_⟩
 simp only[List.set];refine dC <| KU (k:=k) (l:=l) (bV rfl ⟨rfl,rfl⟩) rfl p (bf (ds:=[.lst (l.map nI)]) rfl (by rw[sW,List.length_map])) Xg zE fun x S3 hx v3=>⟨_,rfl,?_⟩
 have:=wA (X:=[]) (v:= .d (nI x)) (d:=nI x) (Q:=Q) v3 (fun o ho=>by cases ho) rfl (by unfold res;rfl) (h x S3 (F7 x hx).1 (F7 x hx).2 v3)
 rw[List.append_nil] at this;exact this
end K22
end
section
namespace K22
open PySem PySem.Spec PyProof.Rows L2 L3 MT
theorem IK{f g:FB}{δ:DE}{S:aH}{QB:Bool->aH->Prop}(h:W3 (f δ S) fun b S1=>(b=false/\QB false S1)\/(b=true/\W3 (g δ S1) QB)):W3 (Le f g δ S) QB:=W3.bind (h.mono fun b S1 h=>by
 rcases h with⟨e,q⟩ | ⟨e,q⟩
 .subst e;rw [if_neg (by decide)];exact W3.ok q
 .subst e;rw [if_pos rfl];exact q)
theorem g1{S:aH}{a b:SO}:(S++[a,b])[S.length]? =some a:=by rw[List.getElem?_append_right (Nat.le_refl _),Nat.sub_self];rfl
theorem g2{S:aH}{a b:SO}:(S++[a,b])[S.length+1]? =some b:=by rw[List.getElem?_append_right (by omega),show S.length+1 - S.length=1 by omega];rfl
theorem s1{S:aH}{a b c:SO}:(S++[a,b]).set S.length c=S++[c,b]:=by rw[List.set_append_right _ _ (Nat.le_refl _),Nat.sub_self];rfl
theorem s2{S:aH}{a b c:SO}:(S++[a,b]).set (S.length+1) c=S++[a,c]:=by rw[List.set_append_right _ _ (by omega),show S.length+1 - S.length=1 by omega];rfl
theorem t1{S:aH}{a b d:SO}:(S++[a,b,d])[S.length]? =some a:=by rw[List.getElem?_append_right (Nat.le_refl _),Nat.sub_self];rfl
theorem t2{S:aH}{a b d:SO}:(S++[a,b,d])[S.length+1]? =some b:=by rw[List.getElem?_append_right (by omega),show S.length+1 - S.length=1 by omega];rfl
theorem t3{S:aH}{a b d:SO}:(S++[a,b,d])[S.length+2]? =some d:=by rw[List.getElem?_append_right (by omega),show S.length+2 - S.length=2 by omega];rfl
theorem u3{S:aH}{a b d c:SO}:(S++[a,b,d]).set (S.length+2) c=S++[a,b,c]:=by rw[List.set_append_right _ _ (by omega),show S.length+2 - S.length=2 by omega];rfl
theorem uj{δ:DE}{S:aH}{i:Nat}{v:V3}{d:D}(h:δ[i]? =some (some v))(hr:res S v=some d):ab i (cO S δ)= .ok d:=by
 unfold ab cO;rw[List.getElem?_map,h];show(match (some (match res S v with | some d=>Sl.val d | none=> .un)) with | some (.val d)=>R.ok d | _=> .no)=_
 rw[hr]
theorem Gg{g:Gt}:eu 2 (mT g):=by
 refine eu.tup fun x hx=>?_
 simp only[List.mem_cons,List.not_mem_nil,or_false] at hx;rcases hx with rfl | rfl | rfl
 .refine(eu.str ?_).mono (by omega)
  unfold kS;split <;> decide+kernel
 .exact eu.tup fun d hd=>by obtain⟨z,_,rfl⟩:=List.mem_map.mp hd;exact eu.int _
 .exact(eu.bl _).mono (by omega)
theorem Od(gs:List Gt):Gb (.lst (gs.map mT)) (.lst [])= .ok gs.isEmpty:=by
 have f:eu 3 (.lst (gs.map mT)):=eu.lst fun d hd=>by obtain⟨g,_,rfl⟩:=List.mem_map.mp hd;exact Gg
 have f2:eu 1 (.lst []):=eu.lst fun d hd=>by cases hd
 rw[CS,f.pl,f.sh (by omega),f2.pl,f2.sh (by omega)]
 cases gs with
 | nil=>rfl
 | cons g gs=>rfl
def Ao(l:List (Str × Nat))(gs:List Gt):Prop:=∀(i:Nat) (g:Gt),gs[i]? =some g->zP (iY l+i) g
theorem Ao.add{l:List (Str × Nat)}{gs:List Gt}{g:Gt}(h:Ao l gs)(hg:zP (iY l+gs.length) g):Ao l (gs++[g]):=fun j g' hj=>by
 by_cases hjl:j < gs.length
 .rw [List.getElem?_append_left hjl] at hj;exact h j g' hj
 .rw [List.getElem?_append_right (by omega)] at hj
  have h0:j - gs.length=0:=by
   have:=(List.getElem?_eq_some_iff.mp hj).1;simp at this;omega
  rw[h0] at hj;cases hj;rw[show j=gs.length by omega]
  exact hg
def sE(k a:Nat)(mo ga:D)(ins:D)(fi:Nat)(a6 a7 a8 C9 BC Bx By:Option V3):DE:=[some (.loc k),some (.d mo),some (.d ga),some (.d (.int 3)),some (.d ins),some (.loc a),a6,a7,a8,some (.loc (a+1)),some (.d (nI fi)),C9,BC,Bx,By,none,none]
theorem FK{k i:Nat}{mo ga:D}{S S1:aH}{l:List (Str × Nat)}{gs:List Gt}{ks:List Int}{a7 a8 C9 BC Bx By:Option V3}(hk:k < S.length)(zE:1<=iY l)(Ph:l.length < 100)(hi:i < 100)(Lz:gs.length=i)(Jv:Ao l gs)(hK:KI l gs ks)(zK:iY l < 1000)(v:Ev k S S1) :
 W3 (iG (sE k S.length mo ga (.lst (l.map MT.inD)) (iY l) (some (.d (.int i))) a7 a8 C9 BC Bx By) (S1++[.lst (ks.map .int), .lst (gs.map mT)])) fun o S2=>∃du,o= .nx du/\∃(g:Gt) (x:Int) (S3:aH) (b7 b8 Rb OS Rc Me:Option V3),du=sE k S.length mo ga (.lst (l.map MT.inD)) (iY l) (some (.d (.int i))) b7 b8 Rb OS Rc Me/\Ev k S S3/\S2=S3++[.lst ((ks++[x]).map .int), .lst ((gs++[g]).map mT)]/\Ao l (gs++[g])/\KI l (gs++[g]) (ks++[x]):=by
 have hz:sizeLine=16777216:=sizeLine_eq;have hkl:=hK.len;have lv:=v.len;have ha:∀{T:aH} {x y:SO},T.length=S.length->(T++[x,y])[S.length]? =some x:=fun h=>by rw[<-h];exact g1
 have hb:∀{T:aH} {x y:SO},T.length=S.length->(T++[x,y])[S.length+1]? =some y:=fun h=>by rw[<-h];exact g2
 have sa:∀{T:aH} {x y z:SO},T.length=S.length->(T++[x,y]).set S.length z=T++[z,y]:=fun h=>by rw[<-h];exact s1
 have sb:∀{T:aH} {x y z:SO},T.length=S.length->(T++[x,y]).set (S.length+1) z=T++[x,z]:=fun h=>by rw[<-h];exact s2
 unfold iG sE;refine aA <| LP <| cF <| ax <| w_var (v:= .loc k) rfl <| ax <| Ds (d:=nI ks.length) (sg (ha lv) rfl) rfl <| b_ <| J2 (v.p.app (yr _ _)) (by omega) (by omega) fun kd ws S2 Pe Lw Mg v2=>?_
 obtain⟨S3,rfl,v3⟩:=v2.split (by omega)
 have l3:=v3.len;refine⟨_,rfl,_,rfl,?_⟩;show W3 (aU _ _ [some (.loc k),some (.d mo),some (.d ga),some (.d (.int 3)),some (.d (.lst (l.map MT.inD))),some (.loc S.length),some (.d (.int i)),a7,a8,some (.loc (S.length+1)),some (.d (nI (iY l))),some (.d (.str (kS kd))),some (.d (.tup (ws.map nI))),Bx,By,none,none] _) _;refine aA <| a_ (by simp) <| bV (d:= .int ((l.length:Int)+gs.length)) ?_ ⟨_,rfl,?_⟩
 .rw [Lz];exact au (a:= .int l.length) (b:= .int i) (bf (ds:=[.lst (l.map MT.inD)]) rfl (by rw[sW,List.length_map])) rfl rfl
 simp only[List.set];refine aA (W3.mono (Q:=fun o S4=>∃(kd:Nat) (ws:List Nat) (x:Int) (S5:aH) (Me:Option V3),o= .nx [some (.loc k),some (.d mo),some (.d ga),some (.d (.int 3)),some (.d (.lst (l.map MT.inD))),some (.loc S.length),some (.d (.int i)),a7,a8,some (.loc (S.length+1)),some (.d (nI (iY l))),some (.d (.str (kS kd))),some (.d (.tup (ws.map nI))),some (.d (.int x)),Me,none,none]/\S4=S5++[.lst (ks.map .int), .lst (gs.map mT)]/\Ev k S S5/\kd<=4/\ws.length=ar kd/\(∀w∈ws,w < ks.length)/\(x=(l.length:Int)+gs.length\/∃pl g0,gs[pl]? =some g0/\x=ks.getD (iY l+pl) 0/\kd=g0.1/\ws.map (ks.getD · 0)=g0.2.1.map (ks.getD · 0))) ?_ ?_)
 .refine j0 <| IK <| La (b:=!gs.isEmpty) ?_ ?_
  .refine eD (a:= .lst (gs.map mT)) (b:= .lst []) (uj rfl (dU (hb (l3.trans lv)))) rfl ?_;unfold Pb;rw[Od];rfl
  cases hge:gs.isEmpty with
  | true=>
    exact .inl ⟨rfl,by rw[if_neg (by decide)];exact fO ⟨kd,ws,_,S3,_,rfl,rfl,v.trans v3,Pe,Lw,Mg, .inl rfl⟩⟩
  | false=>
    have xS:0 < gs.length:=by cases gs with | nil=>cases hge | cons a r=>simp
    refine .inr ⟨rfl,Ki <| draw (k:=k) rfl ((v.trans v3).p.app (yr _ _)) rfl (by omega) (by omega) fun r S4 h1 h2 v4=>bV (d:= .int 0) rfl ⟨_,_,decide (r=0),rfl,rfl,rfl,?_⟩⟩
    obtain⟨S5,rfl,v5⟩:=v4.split (by omega)
    have l5:=v5.len;cases decide (r=0) with
    | false=>
      rw[if_neg (by decide)]
      exact fO ⟨kd,ws,_,S5,_,rfl,rfl,(v.trans v3).trans v5,Pe,Lw,Mg, .inl rfl⟩
    | true=>
      rw[if_pos rfl];have v5':=(v.trans v3).trans v5;refine aA <| a_ (by simp) <| IM (k:=k) (m:=(gs.length:Int)) rfl (v5'.p.app (yr _ _)) (bf (ds:=[.lst (gs.map mT)]) (bc (uj rfl (dU (hb v5'.len))) rfl) (by rw[sW,List.length_map])) (by omega) (by omega) fun r2 S6 h3 h4 v6=>⟨_,rfl,?_⟩
      obtain⟨S7,rfl,v7⟩:=v6.split (by omega)
      obtain⟨pl,rfl⟩:=Int.eq_ofNat_of_zero_le h3;simp only[List.set];have Lu:=v5'.trans v7;have lT:pl < gs.length:=by omega
      have q0:gs[pl]? =some gs[pl]:=List.getElem?_eq_getElem lT;have hg0:=Jv pl _ q0;have har:=Df gs[pl].1;refine aA <| LP <| Ds (d:=O4 gs[pl].1 gs[pl].2.1) ?_ ?_ ⟨_,rfl,_,rfl,?_⟩
      .refine(show KN (e2 cb (ab 9) (ab 14)) wY (qT (eC (.int 2))) _=R5 (mT gs[pl]) none (some 2) from ?_).trans rfl
       unfold KN;rw[au (a:= .lst (gs.map mT)) (b:= .int pl) (uj rfl (dU (hb Lu.len))) rfl (NT.lC (by rw[List.getElem?_map,q0];rfl))]
       rfl
      .unfold O4 rH lh;rw[show rH (.str _)=true from by unfold rH;rfl]
       unfold lh;rw[Ag];unfold lh;rfl
      show W3 (aU _ _ [some (.loc k),some (.d mo),some (.d ga),some (.d (.int 3)),some (.d (.lst (l.map MT.inD))),some (.loc S.length),some (.d (.int i)),a7,a8,some (.loc (S.length+1)),some (.d (nI (iY l))),some (.d (.str (kS gs[pl].1))),some (.d (.tup (gs[pl].2.1.map nI))),some (.d (.int ((l.length:Int)+gs.length))),some (.d (.int pl)),none,none] _) _;refine aA <| a_ (by simp) <| rj <| ax <| lA (fun j ds S8=>∃S9,S8=S9++[.lst (ks.map .int), .lst (gs.map mT)]/\Ev k S S9/\∃us:List Nat,ds=us.map nI/\us.length=j/\(∀w∈us,w < ks.length)/\us.map (ks.getD · 0)=(gs[pl].2.1.take j).map (ks.getD · 0)) (lH (ds:=gs[pl].2.1.map nI) (oK rfl) ⟨by rw[List.length_map,List.length_map,hg0.2.1];omega,⟨S7,rfl,Lu,[],rfl,rfl,by simp,by simp⟩,?_,?_⟩)
      .rintro j u ds S8 hu ⟨S9,rfl,v9,us,rfl,F0,hus,huk⟩;obtain⟨w,hw,rfl⟩:=NT.f6 hu;have hwn:w < ks.length:=by have:=hg0.2.2 w (List.mem_of_getElem? hw);omega
       refine⟨[some (.d (nI w)),some (.loc k),some (.loc S.length)],rfl,ui ?_⟩;rw[if_pos rfl];refine cF <| ax <| w_var (v:= .loc k) rfl <| ax <| w_var (v:= .loc S.length) rfl <| ax <| bV (d:=nI w) rfl <| b_ <| qW (v9.p.app (yr _ _)) (by omega) (ha v9.len) hwn (by omega) fun x RK hx OV v10=>?_
       obtain⟨OZ,rfl,v11⟩:=v10.split (by have:=v9.len;omega)
       refine⟨_,rfl,OZ,rfl,v9.trans v11,us++[x],by simp,by simp [F0],?_,?_⟩
       .intro y hy;rcases List.mem_append.mp hy with q | q
        .exact hus y q
        .rw [List.mem_singleton.mp q];exact hx
       .rw [List.take_add_one,hw,List.map_append,List.map_append,huk];show _++[ks.getD x 0]=_++[ks.getD w 0];rw[OV]
      .rintro ds S8 ⟨S9,rfl,v9,us,rfl,F0,hus,huk⟩;rw[List.length_map,List.length_map] at F0 huk;rw[List.take_length] at huk;refine b_ ⟨[.lst (us.map nI)], .tup (us.map nI),rfl,rfl,_,rfl,?_⟩;simp only[List.set];have Jb:iY l+pl < ks.length:=by omega
       refine a_ (by simp) <| Ds (d:= .int (ks.getD (iY l+pl) 0)) ?_ rfl ⟨gs[pl].1,us,ks.getD (iY l+pl) 0,S9,_,rfl,rfl,v9,hg0.1,by rw[F0];exact hg0.2.1,hus, .inr ⟨pl,gs[pl],q0,rfl,rfl,huk⟩⟩
       refine au (a:= .lst (ks.map .int)) (b:= .int ((iY l+pl:Nat):Int)) (uj rfl (dU (ha v9.len))) (au (a:=nI (iY l)) (b:= .int pl) rfl rfl rfl) (NT.lC ?_);rw[List.getElem?_map,List.getElem?_eq_getElem Jb,List.getD_eq_getElem?_getD,List.getElem?_eq_getElem Jb];rfl
 .rintro o S4 ⟨kd,ws,x,S5,Me,rfl,rfl,v5,Pe,Lw,Mg,hx⟩;refine⟨_,rfl,?_⟩;have l5:=v5.len;refine aA <| nU (k:=S.length+1) rfl ⟨_,hb l5⟩ <| yp <| ax <| bV (d:= .str (kS kd)) rfl <| ax <| bV (d:= .tup (ws.map nI)) rfl <| ax <| L5 <| draw (k:=k) rfl (v5.p.app (yr _ _)) rfl (by omega) (by omega) fun r S6 h1 h2 v6=>bV (d:= .int 0) rfl ⟨_,_, .bl (decide (r=0)),rfl,rfl,rfl,b_ ⟨by simp;omega,?_⟩⟩
  obtain⟨S7,rfl,v7⟩:=v6.split (by omega)
  have Lu:=v5.trans v7;refine⟨mT (kd,ws,decide (r=0)),_,rfl,hb Lu.len,by rw[List.length_map];omega,_,rfl,?_⟩
  rw[sb Lu.len];have hg:zP ks.length (kd,ws,decide (r=0)):=⟨Pe,Lw,Mg⟩;refine nU (k:=S.length) rfl ⟨_,ha Lu.len⟩ <| bV (d:= .int x) rfl ⟨_,_,rfl,ha Lu.len,by rw[List.length_map];omega,_,rfl,(kd,ws,decide (r=0)),x,S7,_,_,_,_,_,_,rfl,Lu,?_,Jv.add (by rw[<-hkl];exact hg),hK.add Jv hg ?_⟩
  .rw [sa Lu.len,List.map_append,List.map_append];rfl
  .rcases hx with q | ⟨pl,g0,q1,q2,q3,q4⟩
   .exact .inl q
   .exact .inr ⟨pl,g0,q1,q2,q3,q4⟩
end K22
end
section
namespace K22
open PySem PySem.Spec PyProof.Rows L2 L3 MT
def MK:List Str:=["p","ou","result"]
theorem Nj:∀s∈MK,eu 0 (.str s):=fun s hs=>by
 simp only[MK,List.mem_cons,List.not_mem_nil,or_false] at hs;rcases hs with rfl | rfl | rfl <;> exact eu.str (by decide+kernel)
theorem Oo:MK.length=3:=rfl
def OW(ks:List Int)(ws:List Nat):Prop:=(1<=ws.length/\ws.length<=3)/\(∀w∈ws,w < ks.length)/\∀a b,ws=[a,b]->ks.getD a 0=ks.getD b 0
def tE(k a:Nat)(mo ga:D)(ins:D)(fi:Nat)(a6 a7 a8 C9 BC Bx By Q7:Option V3):DE:=[some (.loc k),some (.d mo),some (.d ga),some (.d (.int 3)),some (.d ins),some (.loc a),a6,a7,a8,some (.loc (a+1)),some (.d (nI fi)),C9,BC,Bx,By,some (.loc (a+2)),Q7]
section
variable {k i fi:Nat} {mo ga ins:D} {S S1:aH} {ks:List Int} {A B:List D} {a7 a8 C9 BC Bx By Q7:Option V3}
theorem vM{F:FX}{j r:Int}{w:Nat}{ws:List Nat}(hw:OW ks ws)(v:Ev k S S1)
 (hF:∀BC,W3 (F (tE k S.length mo ga ins fi (some (.d (.int i))) a7 (some (.d (.int r))) C9 BC Bx By (some (.d (nI w)))) (S1++[.lst (ks.map .int), .lst A, .lst B])) fun u S2=>∃OI S',u= .d (.tup (OI.map nI))/\OW ks OI/\S2=S'++[.lst (ks.map .int), .lst A, .lst B]/\Ev k S S') :
 W3 (n9 (bP (b2 jm (ab 8) (eC (.int j)))) (bB 12 F) gy (tE k S.length mo ga ins fi (some (.d (.int i))) a7 (some (.d (.int r))) C9 (some (.d (.tup (ws.map nI)))) Bx By (some (.d (nI w)))) (S1++[.lst (ks.map .int), .lst A, .lst B])) fun o S2=>∃OI S',o= .nx (tE k S.length mo ga ins fi (some (.d (.int i))) a7 (some (.d (.int r))) C9 (some (.d (.tup (OI.map nI)))) Bx By (some (.d (nI w))))/\OW ks OI/\S2=S'++[.lst (ks.map .int), .lst A, .lst B]/\Ev k S S':=by
 refine j0 <| dt (b:=decide (r=j)) rfl ?_
 cases decide (r=j) with
 | true=>
   rw[if_pos rfl];refine a_ (by unfold tE;simp only[List.length_cons,List.length_nil];omega) ((hF _).mono fun u S2 ⟨OI,S',e,h1,h2,h3⟩=>⟨OI,S',?_,h1,h2,h3⟩)
   subst e;rfl
 | false=>
   rw[if_neg (by decide)]
   exact fO ⟨ws,S1,rfl,hw,rfl,v⟩
theorem NZ{w:Nat}(h:w < ks.length):OW ks [w]:=⟨⟨by simp,by simp⟩,fun x hx=>by rw[List.mem_singleton.mp hx];exact h,fun a b e=>by simp at e⟩
theorem Av{a b c:Nat}(h1:a < ks.length)(h2:b < ks.length)(h3:c < ks.length):OW ks [a,b,c]:=⟨⟨by simp,by simp⟩,fun x hx=>by
 simp only[List.mem_cons,List.not_mem_nil,or_false] at hx;rcases hx with rfl | rfl | rfl <;> assumption,fun a b e=>by simp at e⟩
theorem MS{a b:Nat}(h1:a < ks.length)(h2:b < ks.length)(h3:ks.getD a 0=ks.getD b 0):OW ks [a,b]:=⟨⟨by simp,by simp⟩,fun x hx=>by
 simp only[List.mem_cons,List.not_mem_nil,or_false] at hx;rcases hx with rfl | rfl <;> assumption,fun x y e=>by cases e;exact h3⟩
theorem G4{os:List (Str × List Nat)}(hk:k < S.length)(h0:0 < ks.length)(hn:ks.length < 10000)(hi:i < 3)(Mm:os.length < 100)(v:Ev k S S1) :
 W3 (iU (tE k S.length mo ga ins fi (some (.d (.int i))) a7 a8 C9 BC Bx By Q7) (S1++[.lst (ks.map .int), .lst A, .lst (os.map Bv)])) fun o S2=>∃du,o= .nx du/\∃(x:Str × List Nat) (S3:aH) (b8 OS XN:Option V3),du=tE k S.length mo ga ins fi (some (.d (.int i))) a7 b8 C9 OS Bx By XN/\Ev k S S3/\S2=S3++[.lst (ks.map .int), .lst A, .lst ((os++[x]).map Bv)]/\OW ks x.2/\eu 0 (.str x.1):=by
 have hz:sizeLine=16777216:=sizeLine_eq;have ha:∀{T:aH} {x y z:SO},T.length=S.length->(T++[x,y,z])[S.length]? =some x:=fun h=>by rw[<-h];exact t1
 have hc:∀{T:aH} {x y z:SO},T.length=S.length->(T++[x,y,z])[S.length+2]? =some z:=fun h=>by rw[<-h];exact t3
 have sc:∀{T:aH} {x y z u:SO},T.length=S.length->(T++[x,y,z]).set (S.length+2) u=T++[x,y,u]:=fun h=>by rw[<-h];exact u3
 have lv:=v.len;unfold iU tE;have hmn:∃mn:Int,0 < mn/\mn<=ks.length/\t7 [.int ks.length, .int 5]= .ok (.int mn):=⟨if(5:Int) < ks.length then 5 else ks.length,by split <;> omega,by split <;> omega,rfl⟩
 obtain⟨mn,m1,m2,m3⟩:=hmn;refine aA <| a_ (by simp) <| L5 <| Ds (d:= .int ((ks.length:Int) - 1)) (au (a:= .int ks.length) (b:= .int 1) (sg (ha lv) rfl) rfl rfl) rfl <| IM (k:=k) (m:=mn) rfl (v.p.app (rN _ _ _)) (bf (ds:=[.int ks.length, .int 5]) (bc (sg (ha lv) rfl) rfl) m3) m1 (by omega) fun r S2 h1 h2 v2=>?_
 obtain⟨S3,rfl,v3⟩:=v2.split (by omega)
 obtain⟨w,hw⟩:∃w:Nat,(ks.length:Int) - 1 - r=w:=⟨((ks.length:Int) - 1 - r).toNat,by omega⟩
 have zK:w < ks.length:=by omega
 refine⟨_,_,nI w,rfl,rfl,?_,_,rfl,?_⟩
 .show R.ok (D.int ((ks.length:Int) - 1 - r))=_;rw[hw];rfl
 simp only[List.set];refine aA <| a_ (by simp) <| bV (d:= .tup ([w].map nI)) (dI rfl (by simp;omega)) ⟨_,rfl,?_⟩
 simp only[List.set];have v3':=v.trans v3;refine aA <| a_ (by simp) <| draw (k:=k) rfl (v3'.p.app (rN _ _ _)) rfl (by omega) (by omega) fun r2 S4 h3 h4 v4=>⟨_,rfl,?_⟩
 obtain⟨S5,rfl,v5⟩:=v4.split (by have:=v3'.len;omega)
 simp only[List.set];have v5':=v3'.trans v5;refine aA ((vM (k:=k) (S:=S) (mo:=mo) (ga:=ga) (ins:=ins) (fi:=fi) (i:=i) (j:=1) (r:=r2) (w:=w) (ws:=[w]) (A:=A) (B:=os.map Bv) (NZ zK) v5' ?_).mono fun o S6 ⟨w6,S7,e6,WV,Ym,v6⟩=>⟨_,e6,?_⟩)
 .intro BC;unfold tE;refine yp <| ax <| bV (d:=nI w) rfl <| ax <| cF <| ax <| w_var (v:= .loc k) rfl <| ax <| w_var (v:= .loc S.length) rfl <| ax <| bV (d:=nI w) rfl <| b_ <| qW (v5'.p.app (rN _ _ _)) (by omega) (ha v5'.len) zK hn fun x RK hx OV v10=>?_
  obtain⟨OZ,rfl,v11⟩:=v10.split (by have:=v5'.len;omega)
  exact b_ ⟨by simp;omega,[w,x],OZ,rfl,MS zK hx OV.symm,rfl,v5'.trans v11⟩
 subst Ym;refine aA ((vM (k:=k) (S:=S) (mo:=mo) (ga:=ga) (ins:=ins) (fi:=fi) (i:=i) (j:=2) (r:=r2) (w:=w) (ws:=w6) (A:=A) (B:=os.map Bv) WV v6 ?_).mono fun o S8 ⟨w8,S9,e8,Xx,Xl,v8⟩=>⟨_,e8,?_⟩)
 .intro BC;unfold tE;refine yp <| ax <| bV (d:=nI w) rfl <| ax <| cF <| ax <| w_var (v:= .loc k) rfl <| ax <| w_var (v:= .loc S.length) rfl <| ax <| bV (d:=nI w) rfl <| b_ <| qW (v6.p.app (rN _ _ _)) (by omega) (ha v6.len) zK hn fun x RK hx OV v10=>?_
  obtain⟨OZ,rfl,v11⟩:=v10.split (by have:=v6.len;omega)
  have v11':=v6.trans v11;refine ax <| IM (k:=k) (m:=(ks.length:Int)) rfl (v11'.p.app (rN _ _ _)) (sg (ha v11'.len) rfl) (by omega) (by omega) fun r3 XG h5 h6 TL=>?_
  obtain⟨T4,rfl,TR⟩:=TL.split (by have:=v11'.len;omega)
  obtain⟨y,rfl⟩:=Int.eq_ofNat_of_zero_le h5;exact b_ ⟨by simp;omega,[w,x,y],T4,rfl,Av zK hx (by omega),rfl,v11'.trans TR⟩
 subst Xl;refine aA ((vM (k:=k) (S:=S) (mo:=mo) (ga:=ga) (ins:=ins) (fi:=fi) (i:=i) (j:=3) (r:=r2) (w:=w) (ws:=w8) (A:=A) (B:=os.map Bv) Xx v8 ?_).mono fun o S14 ⟨wt,W7,Xf,hwt,Ur,RM⟩=>⟨_,Xf,?_⟩)
 .intro BC;unfold tE;refine yp <| ax <| bV (d:=nI w) rfl <| ax <| cF <| ax <| w_var (v:= .loc k) rfl <| ax <| w_var (v:= .loc S.length) rfl <| ax <| bV (d:=nI w) rfl <| b_ <| qW (v8.p.app (rN _ _ _)) (by omega) (ha v8.len) zK hn fun x RK hx OV v10=>?_
  obtain⟨OZ,rfl,v11⟩:=v10.split (by have:=v8.len;omega)
  have v11':=v8.trans v11;refine ax <| cF <| ax <| w_var (v:= .loc k) rfl <| ax <| w_var (v:= .loc S.length) rfl <| ax <| bV (d:=nI w) rfl <| b_ <| qW (v11'.p.app (rN _ _ _)) (by omega) (ha v11'.len) zK hn fun y XG hy YV TL=>?_
  obtain⟨T4,rfl,TR⟩:=TL.split (by have:=v11'.len;omega)
  exact b_ ⟨by simp;omega,[w,x,y],T4,rfl,Av zK hx hy,rfl,v11'.trans TR⟩
 subst Ur;have hio:i < MK.length:=by rw[Oo];exact hi
 unfold tE;refine nU (k:=S.length+2) rfl ⟨_,hc RM.len⟩ <| bV (d:=Bv (MK[i],wt)) ?_ ⟨_,_,rfl,hc RM.len,by rw[List.length_map];omega,_,rfl,(MK[i],wt),W7,_,_,_,rfl,RM,?_,hwt,Nj _ (List.getElem_mem _)⟩
 .exact dI (bc (au (a:= .lst (MK.map .str)) (b:= .int i) rfl rfl (NT.lC (by rw[List.getElem?_map,List.getElem?_eq_getElem hio];rfl))) rfl) (by simp;omega)
 .rw [sc RM.len,List.map_append];rfl
end
structure DN (l:List (Str × Nat)) (gs:List Gt) (os:List (Str × List Nat)):Prop where
 li:∀x∈l,KY x
 gg:Ao l gs
 o1:1<=os.length
 oL:os.length<=3
 oo:∀x∈os,((1<=x.2.length/\x.2.length<=3)/\(∀w∈x.2,w < iY l+gs.length)/\∀a b,x.2=[a,b]->∀ms,ms.length=l.length->∀p,pv l gs ms p a=pv l gs ms p b)/\eu 0 (.str x.1)
theorem AQ{S:aH}{k:Nat}{mo ga:Int}(p:zI k S)(Uq:1<=mo/\mo<=6)(UL:0<=ga/\ga<=60){Q:V3->aH->Prop}
 (h:∀(l:List (Str × Nat)) (gs:List Gt) (os:List (Str × List Nat)) S1,1<=l.length->(l.length:Int)<=mo->(gs.length:Int)<=ga->DN l gs os->Ev k S S1->Q (.d (bG l gs os)) S1) :
 W3 (gC [.loc k, .d (.int mo), .d (.int ga), .d (.int 3)] S) Q:=by
 have hz:sizeLine=16777216:=sizeLine_eq;have hk:=p.lt;unfold gC;refine vL (ve rfl ?_);simp only[cv,fM,List.map,List.length,List.replicate,List.cons_append,List.nil_append,Nat.reduceAdd,Nat.reduceSub];unfold kx;refine aA <| a_ (by simp) <| cF <| ax <| w_var (v:= .loc k) rfl <| ax <| bV (d:= .int mo) rfl <| ax <| bV (d:= .int 3) rfl <| b_ <| A_ p Uq fun l S1 Pc zE T_ v1=>⟨_,rfl,?_⟩
 simp only[List.set];have l1:=v1.len;have hbd:=NT.Hd (l:=l) fun x hx=>(Pc x hx).1
 have hwid:1<=iY l/\iY l<=18:=by unfold iY;omega
 refine aA <| a_ (by simp) <| js (ds:=[]) rfl ⟨_,rfl,?_⟩
 simp only[List.set];rw[l1];refine aA <| eT <| lH (ds:=cH (l.map MT.inD)) (zw rfl) ?_
 refine(bM (fun i δ S2=>∃(ks:List Int) (a6 a7 a8:Option V3),JJ (l.take i) ks/\S2=S1++[SO.lst (ks.map .int)]/\δ=[some (.loc k),some (.d (.int mo)),some (.d (.int ga)),some (.d (.int 3)),some (.d (.lst (l.map MT.inD))),some (.loc S.length),a6,a7,a8,none,none,none,none,none,none,none,none])
  ⟨[],none,none,none,JJ.nil,rfl,rfl⟩ ?_).mono fun o S2 ⟨du,eW,ks,a6,a7,a8,hKn,xg,hδ⟩=>⟨du,eW,?_⟩
 .rintro i v δ S2 hv ⟨ks,a6,a7,a8,hKn,rfl,rfl⟩;obtain⟨d,hd,rfl⟩:=pE hv;obtain⟨x,hx,rfl⟩:=NT.pB hd;have hil:=(List.getElem?_eq_some_iff.mp hx).1;have hkl:=hKn.len;have hwt:iY (l.take i)<=100*(l.take i).length:=sV fun y hy=>by have:=(Pc y (List.mem_of_mem_take hy)).1;omega
  rw[List.length_take] at hwt;have hxw:=(Pc x (List.mem_of_getElem? hx)).1;have hg:(S1++[SO.lst (ks.map .int)])[S.length]? =some (.lst (ks.map .int)):=by rw[<-l1];exact ba _ _
  refine⟨[some (.loc k),some (.d (.int mo)),some (.d (.int ga)),some (.d (.int 3)),some (.d (.lst (l.map MT.inD))),some (.loc S.length),some (.d (.int i)),some (.d (.str x.1)),some (.d (nI x.2)),none,none,none,none,none,none,none,none],rfl,?_⟩;unfold l7;refine L1 (k:=S.length) rfl ⟨_,hg⟩ <| bV (d:= .lst ((List.replicate x.2 (i:Int)).map .int)) ?_ ⟨_,_,rfl,hg,by rw[List.length_map,List.length_map,List.length_replicate];omega,_,rfl,ks++List.replicate x.2 (i:Int),_,_,_,?_,?_,rfl⟩
  .refine cX ?_;rw[HC (n:=x.2) (ds:=[.int i]) (lj rfl (by simp;omega)) rfl (by omega) (by simp;omega),HM]
  .have:=hKn.add x.1 x.2;rw[List.length_take,Nat.min_eq_left (by omega)] at this
   rw[List.take_add_one,hx];exact this
  .rw [<-l1,dg,List.map_append]
 subst hδ xg;have hel:((cH (l.map MT.inD)).map V3.d).length=l.length:=by unfold cH;simp
 rw[hel,List.take_length] at hKn;have hkn:=hKn.len;refine aA <| a_ (by simp) <| js (ds:=[]) rfl ⟨_,rfl,?_⟩
 simp only[List.set];rw[show(S1++[SO.lst (ks.map .int)]).length=S.length+1 by simp [l1],List.append_assoc]
 show W3 (aU _ _ _ (S1++[SO.lst (ks.map .int),SO.lst (([]:List Gt).map mT)])) _;have ha2:∀{T:aH} {x y:SO},T.length=S.length->(T++[x,y])[S.length]? =some x:=fun h=>by rw[<-h];exact g1
 refine aA <| a_ (by simp) <| Ds (d:=nI (iY l)) ((sg (ks:=ks) (ha2 l1) rfl).trans (by rw[hkn];rfl)) rfl ⟨_,rfl,?_⟩
 simp only[List.set];refine aA <| eT <| y6 <| draw (k:=k) (m:=ga+1) rfl (v1.p.app (yr _ _)) rfl (by omega) (by omega) fun r S3 h3 h4 v3=>?_
 obtain⟨S4,rfl,v4⟩:=v3.split (by omega)
 obtain⟨n,rfl⟩:=Int.eq_ofNat_of_zero_le h3;refine⟨n,rfl,by omega,?_⟩
 have W4:Ao l []:=fun i g e=>by simp at e
 refine(bM (fun i δ S5=>∃(gs:List Gt) (ks:List Int) (S6:aH) (a6 a7 a8 C9 BC Bx By:Option V3),gs.length=i/\Ao l gs/\KI l gs ks/\Ev k S S6/\S5=S6++[SO.lst (ks.map .int),SO.lst (gs.map mT)]/\δ=sE k S.length (.int mo) (.int ga) (.lst (l.map MT.inD)) (iY l) a6 a7 a8 C9 BC Bx By)
  ⟨[],ks,S4,_,_,_,_,_,_,_,rfl,W4,hKn.ki,v1.trans v4,rfl,rfl⟩ ?_).mono fun o S5 ⟨Yl,e5,gs,Mh,S6,b6,b7,b8,Rb,OS,Rc,Me,Lz,Jv,hK,v6,Xs,hδ⟩=>⟨Yl,e5,?_⟩
 .rintro i v δ S5 hv ⟨gs,Mh,S6,b6,b7,b8,Rb,OS,Rc,Me,Lz,Jv,hK,v6,rfl,rfl⟩;obtain⟨hi,rfl⟩:=NT.nG hv;refine⟨sE k S.length (.int mo) (.int ga) (.lst (l.map MT.inD)) (iY l) (some (.d (.int i))) b7 b8 Rb OS Rc Me,rfl,?_⟩;refine(FK hk hwid.1 (by omega) (by omega) Lz Jv hK (by omega) v6).mono fun o S7 ⟨X3,e7,g,x,S8,c7,c8,UJ,TZ,TJ,TB,Uw,v8,XH,XJ,Xp⟩=>⟨X3,e7,gs++[g],Mh++[x],S8,_,_,_,_,_,_,_,by simp [Lz],XJ,Xp,v8,XH,Uw⟩
 subst hδ Xs;rw[NT.kz] at Lz;have hk5:=hK.len;unfold sE;refine aA <| a_ (by simp) <| js (ds:=[]) rfl ⟨_,rfl,?_⟩
 simp only[List.set];have l6:=v6.len;rw[show(S6++[SO.lst (Mh.map .int),SO.lst (gs.map mT)]).length=S.length+2 by simp [l6],List.append_assoc]
 show W3 (aU _ _ (tE k S.length (.int mo) (.int ga) (.lst (l.map MT.inD)) (iY l) b6 b7 b8 Rb OS Rc Me none) (S6++[SO.lst (Mh.map .int),SO.lst (gs.map mT),SO.lst (([]:List (Str × List Nat)).map Bv)])) _;refine aA <| eT <| y6 <| L5 <| bV (d:= .int 1) rfl <| draw (k:=k) (m:=3) rfl (v6.p.app (rN _ _ _)) rfl (by omega) (by omega) fun r8 S8 h9 RU v8=>?_
 obtain⟨SH,rfl,XR⟩:=v8.split (by omega)
 have vH:=v6.trans XR;obtain⟨n8,rfl⟩:=Int.eq_ofNat_of_zero_le h9;refine⟨_,_, .int ((1+n8:Nat):Int),rfl,rfl,rfl,1+n8,rfl,by omega,?_⟩
 refine(bM (fun i δ S8=>∃(os:List (Str × List Nat)) (S9:aH) (a6 a7 a8 C9 BC Bx By Q7:Option V3),os.length=i/\(∀x∈os,OW Mh x.2/\eu 0 (.str x.1))/\Ev k S S9/\S8=S9++[SO.lst (Mh.map .int),SO.lst (gs.map mT),SO.lst (os.map Bv)]/\δ=tE k S.length (.int mo) (.int ga) (.lst (l.map MT.inD)) (iY l) a6 a7 a8 C9 BC Bx By Q7)
  ⟨[],SH,_,_,_,_,_,_,_,_,rfl,by simp,vH,rfl,rfl⟩ ?_).mono fun o S8 ⟨Ye,e8,os,S9,c6,c7,c8,UJ,TZ,TJ,TB,VH,Mm,hoo,v9,Ya,hδ⟩=>⟨Ye,e8,?_⟩
 .rintro i v δ S8 hv ⟨os,S9,c6,c7,c8,UJ,TZ,TJ,TB,VH,Mm,hoo,v9,rfl,rfl⟩;obtain⟨hi,rfl⟩:=NT.nG hv;refine⟨tE k S.length (.int mo) (.int ga) (.lst (l.map MT.inD)) (iY l) (some (.d (.int i))) c7 c8 UJ TZ TJ TB VH,rfl,?_⟩;refine(G4 hk (by omega) (by omega) (by omega) (by omega) v9).mono fun o RK ⟨TV,Yj,x,OZ,d8,YQ,YO,Ro,v11,UH,Ri,F5⟩=>⟨TV,Yj,os++[x],OZ,_,_,_,_,_,_,_,_,by simp [Mm],?_,v11,UH,Ro⟩
  intro y hy;rcases List.mem_append.mp hy with q | q
  .exact hoo y q
  .rw [List.mem_singleton.mp q];exact⟨Ri,F5⟩
 subst hδ Ya;rw[NT.kz] at Mm;unfold tE;have l9:=v9.len;refine dC <| yp <| ax <| w_var (v:= .d (.lst (l.map MT.inD))) rfl <| ax <| w_var (v:= .loc (S.length+1)) rfl <| ax <| w_var (v:= .loc (S.length+2)) rfl <| b_ ⟨by simp;omega,_,rfl,wA (d:=bG l gs os) v9 (rN _ _ _) ?_ ?_ (h l gs os S9 zE T_ (by omega) ⟨Pc,Jv,by omega,by omega,fun x hx=>⟨⟨(hoo x hx).1.1,by rw[<-hk5];exact(hoo x hx).1.2.1,fun a b Dc ms pR p=>?_⟩,(hoo x hx).2⟩⟩ v9)⟩
 .show gf S.length (.tup [.d (.lst (l.map MT.inD)), .loc (S.length+1), .loc (S.length+2)])=true;simp [gf,rT]
 .show res _ (.tup [.d (.lst (l.map MT.inD)), .loc (S.length+1), .loc (S.length+2)])=_;have eW:(S9++[SO.lst (Mh.map .int),SO.lst (gs.map mT),SO.lst (os.map Bv)])[S.length+1]? =some (.lst (gs.map mT)):=by rw[<-l9];exact t2
  have e3':(S9++[SO.lst (Mh.map .int),SO.lst (gs.map mT),SO.lst (os.map Bv)])[S.length+2]? =some (.lst (os.map Bv)):=by rw[<-l9];exact t3
  simp [res,z_,eW,e3',bG]
 .have:=(hoo x hx).1;exact hK.v ms pR p a b (this.2.1 a (by rw[Dc];simp)) (this.2.1 b (by rw[Dc];simp)) (this.2.2 a b Dc)
end K22
end
section
namespace K22
open PySem PySem.Spec PyProof.Rows L2 L3 MT
def lo:Nat->Nat->List Bool
 | 0,_=>[]
 | k+1,p=>p.testBit k ::lo k p
theorem DC:∀c p,lo (c+1) p=lo c (p / 2)++[p.testBit 0]
 | 0,p=>rfl
 | c+1,p=>by
   show p.testBit (c+1) ::lo (c+1) p=(p / 2).testBit c ::lo c (p / 2)++[p.testBit 0];rw[DC c p,Nat.testBit_succ];rfl
theorem An{α:Type}(f g:α->α):∀(l:List α) (p:Nat),(l.flatMap fun b=>[f b,g b])[p]? =(l[p / 2]?).map fun b=>if p.testBit 0 then g b else f b
 | [],p=>by simp
 | b ::l,0=>rfl
 | b ::l,1=>rfl
 | b ::l,p+2=>by
   rw[List.flatMap_cons];show(f b ::g b ::(l.flatMap fun b=>[f b,g b]))[p+2]? =_
   rw[List.getElem?_cons_succ,List.getElem?_cons_succ,An f g l p,show(p+2) / 2=p / 2+1 by omega,List.getElem?_cons_succ]
   have:(p+2).testBit 0=p.testBit 0:=by rw[Nat.testBit_zero,Nat.testBit_zero,Nat.add_mod_right]
   rw[this]
theorem zY:∀c p,p < 2 ^ c->(df c)[p]? =some (lo c p)
 | 0,p,h=>by
   have:p=0:=by omega
   subst this;rfl
 | c+1,p,h=>by
   unfold df;rw[An (fun b=>b++[false]) (fun b=>b++[true]),zY c (p / 2) (by rw[Nat.pow_succ] at h;omega),DC]
   show some _=some _;congr 1;cases p.testBit 0 <;> rfl
theorem LL:∀c p k,k < c->(lo c p).getD k false=p.testBit (c - 1 - k)
 | 0,_,_,h=>by omega
 | c+1,p,0,_=>rfl
 | c+1,p,k+1,h=>by
   show(lo c p).getD k false=_;rw[LL c p k (by omega)]
   congr 1;omega
theorem JK{c k p:Nat}(hk:k < c)(hp:p < 2 ^ c):xq c k p=p.testBit (c - 1 - k):=by
 unfold xq;rw[List.getD_eq_getElem?_getD (l:=df c),zY c p hp];exact LL c p k hk
theorem zr:∀(N:Nat) (f:M),eJ (N+1) f=eJ N f+(if f N then 2 ^ N else 0)
 | 0,f=>by unfold eJ eJ;simp
 | N+1,f=>by
   have e:∀n (h:M),eJ (n+1) h=(if h 0 then 1 else 0)+2*eJ n (fun i=>h (i+1)):=fun _ _=>rfl
   rw[e (N+1) f,e N f,zr N fun i=>f (i+1),Nat.mul_add,<-Nat.add_assoc]
   congr 1;show 2*(if f (N+1) then 2 ^ N else 0)=if f (N+1) then 2 ^ (N+1) else 0
   split
   .rw [Nat.pow_succ,Nat.mul_comm]
   .rfl
theorem Dg:∀N:Nat,eJ N one+1=2 ^ N
 | 0=>rfl
 | N+1=>by
   rw[zr,show one N=true from rfl,if_pos rfl,Nat.pow_succ]
   have:=Dg N;omega
theorem ze{i j:Nat}(hi:i < 1000)(hj:j < 1000):Fj (.int i) (.int j)= .ok (.int ((i*2 ^ j:Nat):Int)):=by
 show R.bX (decide ((0:Int)<=j/\(j:Int) < 1000/\ -1000 < (i:Int)/\(i:Int) < 1000)) (.ok (D.int ((i:Int)*2 ^ ((j:Int)).toNat)))=_;rw[cJ _ ⟨by omega,by omega,by omega,by omega⟩,Int.toNat_natCast]
 congr 2
theorem JD{i:Nat}{f:aw->R (List D)}{δ:aw}{es ds:List D}(h:f δ= .ok es)(hb:δ[i]? =some (.bld ds))(hl:ds.length+es.length<=sizeLine):GJ i f δ= .ok (.nx (δ.set i (.bld (ds++es)))):=by
 unfold GJ wq;rw[h,R.bj,hb];show R.bX _ _=_;rw[cJ _ hl]
section
variable {c:Nat} {l:List (Str × Nat)} {gs:List Gt} {os:List (Str × List Nat)} {S:aH} {T:List Int}
def bE(nt ins:D)(ws:List D)(a3 a4 a5 a6 a7:Sl):aw:=[.val nt, .val ins, .bld ws,a3,a4,a5,a6,a7]
theorem Hy{nt:D}{ws:List D}{i p:Nat}{a4 a5:Sl}(hc:l.length=c)(uZ:c<=6)(hi:i < c)(hp:p < 2 ^ c) :
 fV (bE nt (.lst (l.map MT.inD)) ws (.val (.int i)) a4 a5 (.val (.int (eJ p (xq c i):Nat))) (.val (.int p)))= .ok (.nx (bE nt (.lst (l.map MT.inD)) ws (.val (.int i)) a4 a5 (.val (.int (eJ (p+1) (xq c i):Nat))) (.val (.int p)))):=by
 have hpow:2 ^ c<=64:=Nat.pow_le_pow_right (by omega) (by omega:c<=6)
 unfold fV;refine j1 (i:=6) (d:= .int (eJ (p+1) (xq c i):Nat)) ?_ (by unfold bE;simp only[List.length_cons,List.length_nil];omega)
 have hb:(p / 2 ^ (c - 1 - i)) % 2=if xq c i p then 1 else 0:=by
  rw[JK hi hp,Nat.testBit_eq_decide_div_mod_eq];by_cases q:p / 2 ^ (c - 1 - i) % 2=1
  .rw [q];rfl
  .rw [decide_eq_false q,if_neg (by decide)];omega
 refine au (a:= .int (eJ p (xq c i):Nat)) (b:= .int (((if xq c i p then 1 else 0)*2 ^ p:Nat):Int)) rfl (au (a:= .int ((if xq c i p then 1 else 0:Nat):Int)) (b:= .int p) (au (a:= .int ((p / 2 ^ (c - 1 - i):Nat):Int)) (b:= .int 1) (au (a:= .int p) (b:= .int ((c - 1 - i:Nat):Int)) rfl (au (a:= .int ((c:Int) - 1)) (b:= .int i) (au (a:= .int c) (b:= .int 1) (bf (ds:=[.lst (l.map MT.inD)]) rfl (by rw[sW,List.length_map,hc])) rfl rfl) rfl ?_) ?_) rfl ?_) rfl (ze (by split <;> omega) (by omega))) ?_
 .show R.ok (D.int ((c:Int) - 1 - i))=_;congr 2;omega
 .show R.bX (decide ((0:Int)<=((c - 1 - i:Nat):Int))) (.ok (D.int ((p:Int) / 2 ^ ((((c - 1 - i:Nat):Int))).toNat)))=_;rw[cJ _ (by omega),Int.toNat_natCast]
  congr 2
 .show R.ok (D.int (Builtin.bitAnd ((p / 2 ^ (c - 1 - i):Nat):Int) ((1:Nat):Int)))=_;rw[vP,Nat.and_one_is_mod,hb]
 .rw [zr];show R.ok (D.int ((eJ p (xq c i):Int)+(((if xq c i p then 1 else 0)*2 ^ p:Nat):Int)))=_
  congr 2;split <;> simp
theorem Bb(N:Nat)(b:M):∀(n:Nat) (ws:List M),(g6 [] b n ws).map (mI N)=ws.map (mI N)++List.replicate n (mI N b)
 | 0,ws=>by simp [g6]
 | n+1,ws=>by
   unfold g6;rw[List.map_append,Bb N b n ws,List.append_assoc,List.replicate_succ'];congr 2;show [mI N fun p=>b p !=false]=[mI N b]
   congr 1;exact fK fun p _=>by cases b p <;> rfl
theorem Lk(d:D)(n:Nat):(List.replicate n [d]).flatten=List.replicate n d:=by
 induction n with
 | zero=>rfl
 | succ n ih=>rw [List.replicate_succ,List.flatten_cons,ih,List.replicate_succ];rfl
theorem Ah(NO:ke l gs os)(hc:l.length=c)(uZ:c<=6):fL [bG l gs os]= .ok (.lst [.lst ((cM l (ju c) [] l.length).map (mI (2 ^ c))),mI (2 ^ c) one]):=by
 have hz:sizeLine=16777216:=sizeLine_eq;have hpow:2 ^ c<=64:=Nat.pow_le_pow_right (by omega) (by omega:c<=6)
 have hwd:=sV NO.hw;have pR:(ju c).length=l.length:=by rw[oE,hc]
 unfold fL oC;refine dv (cm (j1 (d:= .lst (l.map MT.inD)) rfl (by simp [gK,ik])) (cm (D2 (ds:=[]) rfl (by simp [gK,ik])) ?_))
 obtain⟨δ1,e1,a3,a4,a5,a6,a7,xm⟩:=j3 (t:=gb 2 (bJ (aS 3) (bJ (gb 2 (bJ (aS 4) (bJ (aS 5) gp))) gp))) (body:=fU) (ds:=cH (l.map MT.inD))
  (fun i δ=>∃a3 a4 a5 a6 a7,δ=bE (bG l gs os) (.lst (l.map MT.inD)) ((cM l (ju c) [] i).map (mI (2 ^ c))) a3 a4 a5 a6 a7) (δ:=bE (bG l gs os) (.lst (l.map MT.inD)) [] .un .un .un .un .un) ⟨_,_,_,_,_,rfl⟩ (by
    rintro i d δ hd ⟨a3,a4,a5,a6,a7,rfl⟩;have hv:((cH (l.map MT.inD)).map V3.d)[i]? =some (.d d):=by rw[List.getElem?_map,hd];rfl
    obtain⟨d0,OU,ed⟩:=pE hv;cases ed;obtain⟨x,hx,rfl⟩:=NT.pB OU;have hil:=(List.getElem?_eq_some_iff.mp hx).1;have hxw:=NO.hw x (List.mem_of_getElem? hx);have hlen:=mO (bad:=[]) pR i (by omega)
    have hwt:iY (l.take i)<=100*(l.take i).length:=sV fun y hy=>NO.hw y (List.mem_of_mem_take hy)
    rw[List.length_take] at hwt;generalize hW:(cM l (ju c) [] i).map (mI (2 ^ c))=W;have hWl:W.length<=10000:=by rw[<-hW,List.length_map,hlen];have:=NO.hi;omega
    obtain⟨du,eW,b7,Jq⟩:=j3 (t:=aS 7) (body:=fV) (ds:=eY 0 (2 ^ c))
     (fun p δ=>∃b7,δ=bE (bG l gs os) (.lst (l.map MT.inD)) W (.val (.int i)) (.val (.str x.1)) (.val (nI x.2)) (.val (.int (eJ p (xq c i):Nat))) b7) (δ:=bE (bG l gs os) (.lst (l.map MT.inD)) W (.val (.int i)) (.val (.str x.1)) (.val (nI x.2)) (.val (.int 0)) a7) ⟨_,rfl⟩ (by
       rintro p d δ hd ⟨b7,rfl⟩;obtain⟨hp,rfl⟩:=nG hd;exact⟨_,Hy hc uZ (by omega) hp,_,rfl⟩)
    rw[NT.Ef] at Jq;subst Jq;refine⟨bE (bG l gs os) (.lst (l.map MT.inD)) (W++List.replicate x.2 (mI (2 ^ c) (xq c i))) (.val (.int i)) (.val (.str x.1)) (.val (nI x.2)) (.val (mI (2 ^ c) (xq c i))) b7,?_,⟨.val (.int i), .val (.str x.1), .val (nI x.2), .val (mI (2 ^ c) (xq c i)),b7,?_⟩⟩
    .show fU (bE (bG l gs os) (.lst (l.map MT.inD)) W (.val (.int i)) (.val (.str x.1)) (.val (nI x.2)) a6 a7)=_;unfold fU;refine cm (j1 (d:= .int 0) rfl (by unfold bE;simp only[List.length_cons,List.length_nil];omega)) (cm (pH (ds:=eY 0 (2 ^ c)) (mY (n:=2 ^ c) ((au (a:= .int ((1:Nat):Int)) (b:= .int c) rfl (bf (ds:=[.lst (l.map MT.inD)]) rfl (by rw[sW,List.length_map,hc])) (ze (by omega) (by omega))).trans (by rw[Nat.one_mul])) (by omega)) eW) (JD (i:=2) (ds:=W) (es:=List.replicate x.2 (mI (2 ^ c) (xq c i))) ?_ rfl (by rw[List.length_replicate];omega)))
     rw[HC (n:=x.2) (ds:=[mI (2 ^ c) (xq c i)]) (lj rfl (by simp;omega)) rfl (by omega) (by simp;omega),Lk]
    .rw [<-hW]
     conv=>rhs;unfold cM
     have hm:(ju c)[i]? =some (xq c i):=by unfold ju;rw [List.getElem?_map,List.getElem?_range (by omega)];rfl
     rw[hx,hm,Bb])
 refine cm (pH (ds:=cH (l.map MT.inD)) (zw rfl) e1) ?_;have hel:(cH (l.map MT.inD)).length=l.length:=by simp [cH]
 rw[hel] at xm;subst xm;refine(show CY 2 _ _=_ from ?_)
 unfold CY;refine cL (cX (lj (ds:=[.lst ((cM l (ju c) [] l.length).map (mI (2 ^ c))),mI (2 ^ c) one]) (bc rfl (bc ?_ rfl)) (by simp;omega)))
 refine au (a:= .int ((2 ^ (2 ^ c):Nat):Int)) (b:= .int 1) (au (a:= .int ((1:Nat):Int)) (b:= .int ((2 ^ c:Nat):Int)) rfl ((au (a:= .int ((1:Nat):Int)) (b:= .int c) rfl (bf (ds:=[.lst (l.map MT.inD)]) rfl (by rw[sW,List.length_map,hc])) (ze (by omega) (by omega))).trans (by rw[Nat.one_mul])) ((ze (by omega) (by omega)).trans (by rw[Nat.one_mul]))) rfl ?_
 have:=Dg (2 ^ c);show R.ok (D.int (((2 ^ (2 ^ c):Nat):Int) - 1))=R.ok (D.int ((eJ (2 ^ c) one:Nat):Int));congr 2;omega
end
end K22
end
section
namespace K22
open PySem PySem.Spec PyProof.Rows L2 L3 MT
theorem B_{x:D}{xs:List D}:cb (.lst (x ::xs)) (.int 0)= .ok x:=NT.lC (z:=0) rfl
theorem Kw{x y:D}{xs:List D}:cb (.lst (x ::y ::xs)) (.int 1)= .ok y:=NT.lC (z:=1) rfl
theorem RC{x y z:D}{xs:List D}:cb (.lst (x ::y ::z ::xs)) (.int 2)= .ok z:=NT.lC (z:=2) rfl
theorem gq{c:FB}{δ:DE}{S:aH}{QO:Ou->aH->Prop}(h:W3 (c δ S) fun b S1=>b=false/\QO (.nx δ) S1):W3 (n9 c F gy δ S) QO:=j0 (h.mono fun b S1 ⟨e,q⟩=>by subst e;rw [if_neg (by decide)];exact fO q)
theorem t9{c:FB}{F G:FZ}{δ:DE}{S:aH}{QO:Ou->aH->Prop}(h:W3 (c δ S) fun b S1=>b=true/\W3 (F δ S1) QO):W3 (n9 c F G δ S) QO:=j0 (h.mono fun b S1 ⟨e,q⟩=>by subst e;rw [if_pos rfl];exact q)
section
variable {N:Nat} {S:aH}
def wE(nt ah tu full:D)(a:Nat)(a5 a6 a7 a8 a9 Ma:Option V3):DE:=[some (.d nt),some (.d ah),some (.d tu),some (.loc a),some (.d full),a5,a6,a7,a8,a9,Ma]
theorem Mz{nt ah tu:D}{a kd:Nat}{a5 a7 a8:Option V3}{xs:List M}{G:FZ}{QO:Ou->aH->Prop}(hk:kd<=4)(hx:xs.length=ar kd)
 (h:W3 (G (wE nt ah tu (mI N one) a a5 (some (.d (.str (kS kd)))) a7 a8 (some (.d (.lst (xs.map (mI N))))) (some (.d (mI N fun p=>gv kd (xs.map (· p)))))) S) QO) {Ma:Option V3} :
 W3 (aU (bB 10 (xP (e2 cb (ab 9) (eC (.int 0))))) (aU (n9 (bP (b2 jm (ab 6) (eC (.str "not")))) (bB 10 (xP (e2 yM (ab 4) (ab 10)))) gy) (aU (n9 (bP (b2 jm (ab 6) (eC (.str "and")))) (bB 10 (xP (e2 u0 (e2 cb (ab 9) (eC (.int 0))) (e2 cb (ab 9) (eC (.int 1)))))) gy) (aU (n9 (bP (b2 jm (ab 6) (eC (.str "or")))) (bB 10 (xP (e2 xx (e2 cb (ab 9) (eC (.int 0))) (e2 cb (ab 9) (eC (.int 1)))))) gy) (aU (n9 (bP (b2 jm (ab 6) (eC (.str "xor")))) (bB 10 (xP (e2 yM (e2 cb (ab 9) (eC (.int 0))) (e2 cb (ab 9) (eC (.int 1)))))) gy) (aU (n9 (bP (b2 jm (ab 6) (eC (.str "vote")))) (bB 10 (xP (e2 xx (e2 xx (e2 u0 (e2 cb (ab 9) (eC (.int 0))) (e2 cb (ab 9) (eC (.int 1)))) (e2 u0 (e2 cb (ab 9) (eC (.int 0))) (e2 cb (ab 9) (eC (.int 2))))) (e2 u0 (e2 cb (ab 9) (eC (.int 1))) (e2 cb (ab 9) (eC (.int 2))))))) gy) G))))) (wE nt ah tu (mI N one) a a5 (some (.d (.str (kS kd)))) a7 a8 (some (.d (.lst (xs.map (mI N))))) Ma) S) QO:=by
 have q:∀(j:Nat) (b:Option V3),j<=4->b2 jm (ab 6) (eC (.str (kS j))) (down (wE nt ah tu (mI N one) a a5 (some (.d (.str (kS kd)))) a7 a8 (some (.d (.lst (xs.map (mI N))))) b))= .ok (decide (kd=j)):=fun j b hj=>eD (a:= .str (kS kd)) (b:= .str (kS j)) rfl rfl (LQ kd j hk hj)
 have ln:∀b:Option V3,10 < (wE nt ah tu (mI N one) a a5 (some (.d (.str (kS kd)))) a7 a8 (some (.d (.lst (xs.map (mI N))))) b).length:=fun b=>by unfold wE;simp only[List.length_cons,List.length_nil];omega
 match kd,hk,xs,hx with
 | 0,_,[x],_=>
   refine aA <| a_ (ln _) <| bV (d:=mI N x) (au rfl rfl B_) ⟨_,rfl,?_⟩
   refine aA <| t9 <| dt (b:=true) (q 0 _ (by omega)) ⟨rfl,a_ (ln (some (.d (mI N x)))) <| bV (d:=mI N fun p=>!x p) (au rfl rfl (x9 N x)) ⟨_,rfl,?_⟩⟩
   refine aA <| gq <| dt (b:=false) (q 1 _ (by omega)) ⟨rfl,_,rfl,?_⟩
   refine aA <| gq <| dt (b:=false) (q 2 _ (by omega)) ⟨rfl,_,rfl,?_⟩
   refine aA <| gq <| dt (b:=false) (q 3 _ (by omega)) ⟨rfl,_,rfl,?_⟩
   exact aA <| gq <| dt (b:=false) (q 4 _ (by omega)) ⟨rfl,_,rfl,h⟩
 | 1,_,[x,y],_=>
   refine aA <| a_ (ln _) <| bV (d:=mI N x) (au rfl rfl B_) ⟨_,rfl,?_⟩
   refine aA <| gq <| dt (b:=false) (q 0 _ (by omega)) ⟨rfl,_,rfl,?_⟩
   refine aA <| t9 <| dt (b:=true) (q 1 _ (by omega)) ⟨rfl,a_ (ln (some (.d (mI N x)))) <| bV (d:=mI N fun p=>x p && y p) (au (au rfl rfl B_) (au rfl rfl Kw) (kJ N x y)) ⟨_,rfl,?_⟩⟩
   refine aA <| gq <| dt (b:=false) (q 2 _ (by omega)) ⟨rfl,_,rfl,?_⟩
   refine aA <| gq <| dt (b:=false) (q 3 _ (by omega)) ⟨rfl,_,rfl,?_⟩
   exact aA <| gq <| dt (b:=false) (q 4 _ (by omega)) ⟨rfl,_,rfl,h⟩
 | 2,_,[x,y],_=>
   refine aA <| a_ (ln _) <| bV (d:=mI N x) (au rfl rfl B_) ⟨_,rfl,?_⟩
   refine aA <| gq <| dt (b:=false) (q 0 _ (by omega)) ⟨rfl,_,rfl,?_⟩
   refine aA <| gq <| dt (b:=false) (q 1 _ (by omega)) ⟨rfl,_,rfl,?_⟩
   refine aA <| t9 <| dt (b:=true) (q 2 _ (by omega)) ⟨rfl,a_ (ln (some (.d (mI N x)))) <| bV (d:=mI N fun p=>x p || y p) (au (au rfl rfl B_) (au rfl rfl Kw) (pL N x y)) ⟨_,rfl,?_⟩⟩
   refine aA <| gq <| dt (b:=false) (q 3 _ (by omega)) ⟨rfl,_,rfl,?_⟩
   exact aA <| gq <| dt (b:=false) (q 4 _ (by omega)) ⟨rfl,_,rfl,h⟩
 | 3,_,[x,y],_=>
   refine aA <| a_ (ln _) <| bV (d:=mI N x) (au rfl rfl B_) ⟨_,rfl,?_⟩
   refine aA <| gq <| dt (b:=false) (q 0 _ (by omega)) ⟨rfl,_,rfl,?_⟩
   refine aA <| gq <| dt (b:=false) (q 1 _ (by omega)) ⟨rfl,_,rfl,?_⟩
   refine aA <| gq <| dt (b:=false) (q 2 _ (by omega)) ⟨rfl,_,rfl,?_⟩
   refine aA <| t9 <| dt (b:=true) (q 3 _ (by omega)) ⟨rfl,a_ (ln (some (.d (mI N x)))) <| bV (d:=mI N fun p=>x p !=y p) (au (au rfl rfl B_) (au rfl rfl Kw) (t6 N x y)) ⟨_,rfl,?_⟩⟩
   exact aA <| gq <| dt (b:=false) (q 4 _ (by omega)) ⟨rfl,_,rfl,h⟩
 | 4,_,[x,y,z],_=>
   refine aA <| a_ (ln _) <| bV (d:=mI N x) (au rfl rfl B_) ⟨_,rfl,?_⟩
   refine aA <| gq <| dt (b:=false) (q 0 _ (by omega)) ⟨rfl,_,rfl,?_⟩
   refine aA <| gq <| dt (b:=false) (q 1 _ (by omega)) ⟨rfl,_,rfl,?_⟩
   refine aA <| gq <| dt (b:=false) (q 2 _ (by omega)) ⟨rfl,_,rfl,?_⟩
   refine aA <| gq <| dt (b:=false) (q 3 _ (by omega)) ⟨rfl,_,rfl,?_⟩
   exact aA <| t9 <| dt (b:=true) (q 4 _ (by omega)) ⟨rfl,a_ (ln (some (.d (mI N x)))) <| bV (d:=mI N fun p=>(x p && y p || x p && z p) || y p && z p) (au (au (au (au rfl rfl B_) (au rfl rfl Kw) (kJ N x y)) (au (au rfl rfl B_) (au rfl rfl RC) (kJ N x z)) (pL N _ _)) (au (au rfl rfl Kw) (au rfl rfl RC) (kJ N y z)) (pL N _ _)) ⟨_,rfl,h⟩⟩
theorem MI{a:Nat}{ws:List M}{ns:List Nat}{δ:DE}{it:FA}{own:List Str}{kp:List Nat}{Q:V3->aH->Prop}(hn:∀n∈ns,n < ws.length)(hl:ns.length < 1000)(hit:W3 (it δ S) fun vs S1=>vs=(ns.map nI).map V3.d/\S1=S)(Jb:mh own kp δ=[none,some (.loc a)])(e:S[a]? =some (.lst (ws.map (mI N))))(h:Q (.d (.lst ((ns.map (c_ ws)).map (mI N)))) S) :
 W3 (jt it (jH 0) uO (xT (e2 cb (ab 1) (ab 0))) own kp δ S) Q:=by
 have hz:sizeLine=16777216:=sizeLine_eq;refine lA (fun j ds S2=>S2=S/\ds=(((ns.map (c_ ws)).map (mI N)).take j)) (hit.mono fun vs S1 ⟨e1,eW⟩=>?_)
 subst e1 eW;refine⟨by rw[List.length_map,List.length_map];omega,⟨rfl,by simp⟩,?_,?_⟩
 .rintro j v ds S2 hv ⟨rfl,rfl⟩;obtain⟨n,hnj,rfl⟩:=NT.f6 hv;rw[Jb];refine⟨[some (.d (nI n)),some (.loc a)],rfl,ui ?_⟩;rw[if_pos rfl];refine Ds (d:=mI N (c_ ws n)) (au (a:= .lst (ws.map (mI N))) (b:=nI n) (uj rfl (dU e)) rfl (BR (hn n (List.mem_of_getElem? hnj)))) rfl ⟨_,rfl,rfl,?_⟩;rw[List.take_add_one,List.getElem?_map,List.getElem?_map,hnj];rfl
 .rintro ds S2 ⟨rfl,rfl⟩;rw[List.length_map,List.length_map,List.take_of_length_le (by simp)]
  exact h
end
section
variable {c:Nat} {l:List (Str × Nat)} {gs:List Gt} {os:List (Str × List Nat)} {S:aH} {T:List Int}
def Co(c:Nat)(l:List (Str × Nat)):D:= .lst [.lst ((cM l (ju c) [] l.length).map (mI (2 ^ c))),mI (2 ^ c) one]
theorem Im(i:Nat)(T:List Int):Ep (.int i) (.tup (T.map .int))= .ok (.bl (T.contains (i:Int))):=u_ _ _
theorem zf(NO:ke l gs os)(hc:l.length=c)(hS:lP S){Q:V3->aH->Prop}(h:Q (.d (.lst ((Wd c l gs T []).map (mI (2 ^ c))))) S) :
 W3 (fR [.d (bG l gs os), .d (Co c l), .d (.tup (T.map .int))] S) Q:=by
 have hz:sizeLine=16777216:=sizeLine_eq;have hG:=NO.hg;have hI:=NO.hi;have hwd:=sV NO.hw;have pR:(ju c).length=l.length:=by rw[oE,hc]
 have h0:=mO (bad:=[]) pR _ (Nat.le_refl _);rw[List.take_length] at h0;unfold fR;refine kU hS (ve rfl ?_);simp only[cv,eE,List.map,List.length,List.replicate,List.cons_append,List.nil_append,Nat.reduceAdd,Nat.reduceSub];unfold jD;refine aA <| a_ (by simp) <| js (ds:=(cM l (ju c) [] l.length).map (mI (2 ^ c))) rfl ⟨_,rfl,?_⟩
 simp only[List.set];refine aA <| a_ (by simp) <| bV (d:=mI (2 ^ c) one) rfl ⟨_,rfl,?_⟩
 simp only[List.set];refine aA <| eT <| lH (ds:=cH (gs.map mT)) (zw (au (a:=bG l gs os) (b:= .int 1) rfl rfl rfl)) ?_
 refine(bM (fun i δ S2=>S2=S++[SO.lst ((pQ gs T (cM l (ju c) [] l.length) i).map (mI (2 ^ c)))]/\∃a5 a6 a7 a8 a9 Ma,δ=wE (bG l gs os) (Co c l) (.tup (T.map .int)) (mI (2 ^ c) one) S.length a5 a6 a7 a8 a9 Ma)
  ⟨rfl,_,_,_,_,_,_,rfl⟩ ?_).mono fun o S2 ⟨du,eW,xg,a5,a6,a7,a8,a9,Ma,hδ⟩=>⟨du,eW,?_⟩
 .rintro i v δ S2 hv ⟨rfl,a5,a6,a7,a8,a9,Ma,rfl⟩;obtain⟨d,hd,rfl⟩:=pE hv;obtain⟨g,hg,rfl⟩:=NT.pB hd;have hil:=(List.getElem?_eq_some_iff.mp hg).1;have hlen:=px (gs:=gs) (turned:=T) (w0:=cM l (ju c) [] l.length) i (by omega)
  have hgo:=NO.g i g hg;have har:=Df g.1;have hnext:pQ gs T (cM l (ju c) [] l.length) (i+1)=pQ gs T (cM l (ju c) [] l.length) i++[fun p=>gF g (pQ gs T (cM l (ju c) [] l.length) i) p !=T.contains (i:Int)]:=by
   conv=>lhs;unfold pQ
   rw[hg]
  rw[hnext];generalize pQ gs T (cM l (ju c) [] l.length) i=ws at hlen;refine⟨wE (bG l gs os) (Co c l) (.tup (T.map .int)) (mI (2 ^ c) one) S.length (some (.d (.int i))) (some (.d (.str (kS g.1)))) (some (.d (.tup (g.2.1.map nI)))) (some (.d (.bl g.2.2))) a9 Ma,rfl,?_⟩;unfold lg;refine aA <| a_ (by unfold wE;simp only[List.length_cons,List.length_nil];omega) <| MI (a:=S.length) (ws:=ws) (ns:=g.2.1) (fun n hn=>by have:=hgo.2.2 n hn;omega) (by rw[hgo.2.1];omega) (lH (ds:=g.2.1.map nI) (oK rfl) ⟨rfl,rfl⟩) rfl (ba _ _) ⟨_,rfl,?_⟩
  refine Mz (xs:=g.2.1.map (c_ ws)) hgo.1 (by rw[List.length_map];exact hgo.2.1) ?_
  have egF:(fun p=>gv g.1 ((g.2.1.map (c_ ws)).map (· p)))=gF g ws:=by
   funext p;unfold gF;rw[List.map_map];rfl
  rw[egF];have ht:=Cz (2 ^ c) (gF g ws) (T.contains (i:Int));refine aA (W3.mono (Q:=fun o S3=>S3=S++[SO.lst (ws.map (mI (2 ^ c)))]/\o= .nx (wE (bG l gs os) (Co c l) (.tup (T.map .int)) (mI (2 ^ c) one) S.length (some (.d (.int i))) (some (.d (.str (kS g.1)))) (some (.d (.tup (g.2.1.map nI)))) (some (.d (.bl g.2.2))) (some (.d (.lst ((g.2.1.map (c_ ws)).map (mI (2 ^ c)))))) (some (.d (mI (2 ^ c) fun p=>gF g ws p !=T.contains (i:Int)))))) ?_ ?_)
  .cases hb:T.contains (i:Int) with
   | true=>
     rw[hb,if_pos rfl] at ht;refine t9 <| dt (b:=true) (eD (a:= .int i) (b:= .tup (T.map .int)) rfl rfl ((Im i T).trans (by rw[hb]))) ⟨rfl,a_ (by unfold wE;simp only[List.length_cons,List.length_nil];omega) <| bV (au (a:=mI (2 ^ c) one) (b:=mI (2 ^ c) (gF g ws)) rfl rfl ht) ⟨rfl,rfl⟩⟩
   | false=>
     rw[hb,if_neg (by decide)] at ht
     refine gq <| dt (b:=false) (eD (a:= .int i) (b:= .tup (T.map .int)) rfl rfl ((Im i T).trans (by rw[hb]))) ⟨rfl,rfl,?_⟩
     have:=R.ok.inj ht;rw[<-this]
  .rintro o S3 ⟨rfl,rfl⟩;refine⟨_,rfl,?_⟩;refine nU (k:=S.length) rfl ⟨_,ba _ _⟩ <| bV (d:=mI (2 ^ c) fun p=>gF g ws p !=T.contains (i:Int)) rfl ⟨_,_,rfl,ba _ _,by rw[List.length_map];omega,_,rfl,?_,_,_,_,_,_,_,rfl⟩
   rw[dg,List.map_append];rfl
 .subst hδ xg;have hel:((cH (gs.map mT)).map V3.d).length=gs.length:=by unfold cH;simp
  rw[hel];refine dC <| w_var (v:= .loc S.length) rfl ⟨_,rfl,?_,⟨_,rfl⟩,_,dU (ba _ _),h⟩
  show decide (S.length<=S.length)=true;exact decide_eq_true (Nat.le_refl _)
def rX(N:Nat)(ws:List M)(x:Str × List Nat):D:= .tup [mI N fun p=>(pt ws x p).2,mI N fun p=>!((pt ws x p).1 || (pt ws x p).2)]
def rE(nt ah tu fo:D)(a:Nat)(a5 a6 a7 a8:Option V3):DE:=[some (.d nt),some (.d ah),some (.d tu),some (.d fo),some (.loc a),a5,a6,a7,a8]
theorem Na{N:Nat}{ws:List M}{ns:List Nat}{δ:DE}{own:List Str}{kp:List Nat}{it:FA}{Q:V3->aH->Prop}(hn:∀n∈ns,n < ws.length)(hl:ns.length < 1000)(hit:W3 (it δ S) fun vs S1=>vs=(ns.map nI).map V3.d/\S1=S)(Jb:mh own kp δ=[none,some (.d (.lst (ws.map (mI N))))])(h:Q (.d (.lst ((ns.map (c_ ws)).map (mI N)))) S) :
 W3 (jt it (jH 0) uO (xP (e2 cb (ab 1) (ab 0))) own kp δ S) Q:=by
 have hz:sizeLine=16777216:=sizeLine_eq;refine lA (fun j ds S2=>S2=S/\ds=(((ns.map (c_ ws)).map (mI N)).take j)) (hit.mono fun vs S1 ⟨e1,eW⟩=>?_)
 subst e1 eW;refine⟨by rw[List.length_map,List.length_map];omega,⟨rfl,by simp⟩,?_,?_⟩
 .rintro j v ds S2 hv ⟨rfl,rfl⟩;obtain⟨n,hnj,rfl⟩:=NT.f6 hv;rw[Jb];refine⟨[some (.d (nI n)),some (.d (.lst (ws.map (mI N))))],rfl,ui ?_⟩;rw[if_pos rfl];refine bV (d:=mI N (c_ ws n)) (au (a:= .lst (ws.map (mI N))) (b:=nI n) rfl rfl (BR (hn n (List.mem_of_getElem? hnj)))) ⟨_,rfl,rfl,?_⟩;rw[List.take_add_one,List.getElem?_map,List.getElem?_map,hnj];rfl
 .rintro ds S2 ⟨rfl,rfl⟩;rw[List.length_map,List.length_map,List.take_of_length_le (by simp)]
  exact h
theorem Gr(N:Nat):D.int 0=mI N fun _=>false:=by
 unfold mI;rw[wW.mpr fun _ _=>rfl];rfl
theorem Ay(NO:ke l gs os)(hc:l.length=c)(ho:∀x∈os,1<=x.2.length/\x.2.length<=3)(hS:lP S){Q:V3->aH->Prop}(h:Q (.d (.lst (os.map (rX (2 ^ c) (Wd c l gs T []))))) S) :
 W3 (gT [.d (bG l gs os), .d (Co c l), .d (.tup (T.map .int))] S) Q:=by
 have hz:sizeLine=16777216:=sizeLine_eq;have hO:=NO.ho;have pR:(ju c).length=l.length:=by rw[oE,hc]
 unfold gT;refine kU hS (ve rfl ?_);simp only[cv,jz,List.map,List.length,List.replicate,List.cons_append,List.nil_append,Nat.reduceAdd,Nat.reduceSub];unfold oM;refine aA <| a_ (by simp) <| cF <| ax <| bV (d:=bG l gs os) rfl <| ax <| bV (d:=Co c l) rfl <| ax <| bV (d:= .tup (T.map .int)) rfl <| b_ <| zf NO hc hS ⟨_,rfl,?_⟩
 simp only[List.set];have hWl:(Wd c l gs T []).length=iY l+gs.length:=zQ pR;generalize hWW:Wd c l gs T []=W at h hWl;refine aA <| a_ (by simp) <| js (ds:=[]) rfl ⟨_,rfl,?_⟩
 simp only[List.set];refine aA <| eT <| lH (ds:=os.map Bv) (fj (au (a:=bG l gs os) (b:= .int 2) rfl rfl rfl)) ?_
 refine(bM (fun i δ S2=>S2=S++[SO.lst ((os.take i).map (rX (2 ^ c) W))]/\∃a5 a6 a7 a8,δ=rE (bG l gs os) (Co c l) (.tup (T.map .int)) (.lst (W.map (mI (2 ^ c)))) S.length a5 a6 a7 a8)
  ⟨rfl,_,_,_,_,rfl⟩ ?_).mono fun o S2 ⟨du,eW,xg,a5,a6,a7,a8,hδ⟩=>⟨du,eW,?_⟩
 .rintro i v δ S2 hv ⟨rfl,a5,a6,a7,a8,rfl⟩;obtain⟨x,hx,rfl⟩:=NT.f6 hv;have hxm:=List.mem_of_getElem? hx;obtain⟨o1,o2⟩:=NO.o x hxm;have hx3:=ho x hxm;have hlt:((os.take i).map (rX (2 ^ c) W)).length < sizeLine:=by rw[List.length_map,List.length_take];omega
  have hnx:(os.take (i+1)).map (rX (2 ^ c) W)=(os.take i).map (rX (2 ^ c) W)++[rX (2 ^ c) W x]:=by rw[List.take_add_one,hx,List.map_append];rfl
  rw[hnx];generalize (os.take i).map (rX (2 ^ c) W)=L at hlt;refine⟨rE (bG l gs os) (Co c l) (.tup (T.map .int)) (.lst (W.map (mI (2 ^ c)))) S.length (some (.d (.str x.1))) (some (.d (.tup (x.2.map nI)))) a7 a8,rfl,?_⟩;unfold p_;refine aA <| a_ (by unfold rE;simp only[List.length_cons,List.length_nil,List.length_set];omega) <| Na (N:=2 ^ c) (ws:=W) (ns:=x.2) (fun n hn=>by have:=o2 n hn;omega) o1 (lH (ds:=x.2.map nI) (oK rfl) ⟨rfl,rfl⟩) rfl ⟨_,rfl,?_⟩
  have fin:∀(δ:DE),(∃a5 a6 a7 a8,δ=rE (bG l gs os) (Co c l) (.tup (T.map .int)) (.lst (W.map (mI (2 ^ c)))) S.length a5 a6 a7 a8)->∀f:FD,f (down δ)= .ok (rX (2 ^ c) W x)->W3 (mq 4 (xP f) δ (S++[SO.lst L])) fun o S2=>∃du,o= .nx du/\S2=S++[SO.lst (L++[rX (2 ^ c) W x])]/\∃a5 a6 a7 a8,du=rE (bG l gs os) (Co c l) (.tup (T.map .int)) (.lst (W.map (mI (2 ^ c)))) S.length a5 a6 a7 a8:=fun δ ⟨b5,b6,b7,b8,eδ⟩ f hf=>by
   subst eδ;refine nU (k:=S.length) rfl ⟨_,ba _ _⟩ <| bV hf ⟨_,_,rfl,ba _ _,hlt,_,rfl,?_,_,_,_,_,rfl⟩
   rw[dg]
  have hpt:∀p,pt W x p=M5 (x.2.map fun n=>c_ W n p):=fun p=>by unfold pt tell;rw [List.map_map];rfl
  obtain⟨nm,ns⟩:=x
  match ns,hx3 with
  | [a],_=>
    refine t9 <| dt (b:=true) rfl ⟨rfl,fin _ ⟨_,_,_,_,rfl⟩ _ ?_⟩
    refine(dI (ds:=[mI (2 ^ c) (c_ W a),mI (2 ^ c) fun _=>false]) (bc (au rfl rfl B_) (bc (by rw[<-Gr];rfl) rfl)) (by simp;omega)).trans ?_
    have e1:mI (2 ^ c) (c_ W a)=mI (2 ^ c) fun p=>(pt W (nm,[a]) p).2:=fK fun p _=>by rw[hpt];rfl
    have eW:(mI (2 ^ c) fun _=>false)=mI (2 ^ c) fun p=>!((pt W (nm,[a]) p).1 || (pt W (nm,[a]) p).2):=fK fun p _=>by rw[hpt];show false=!(!(c_ W a p) || c_ W a p);cases c_ W a p <;> rfl
    unfold rX;rw[e1,eW]
  | [a,b],_=>
    refine j0 <| dt (b:=false) rfl ?_
    rw[if_neg (by decide)]
    refine t9 <| dt (b:=true) rfl ⟨rfl,fin _ ⟨_,_,_,_,rfl⟩ _ ?_⟩
    refine(dI (ds:=[mI (2 ^ c) fun p=>c_ W a p && c_ W b p,mI (2 ^ c) fun p=>c_ W a p !=c_ W b p]) (bc (au (au rfl rfl B_) (au rfl rfl Kw) (kJ _ _ _)) (bc (au (au rfl rfl B_) (au rfl rfl Kw) (t6 _ _ _)) rfl)) (by simp;omega)).trans ?_
    have e1:(mI (2 ^ c) fun p=>c_ W a p && c_ W b p)=mI (2 ^ c) fun p=>(pt W (nm,[a,b]) p).2:=fK fun p _=>by rw[hpt];rfl
    have eW:(mI (2 ^ c) fun p=>c_ W a p !=c_ W b p)=mI (2 ^ c) fun p=>!((pt W (nm,[a,b]) p).1 || (pt W (nm,[a,b]) p).2):=fK fun p _=>by rw[hpt];show(c_ W a p !=c_ W b p)=!(!(c_ W a p || c_ W b p) || (c_ W a p && c_ W b p));cases c_ W a p <;> cases c_ W b p <;> rfl
    unfold rX;rw[e1,eW]
  | [a,b,d],_=>
    refine j0 <| dt (b:=false) rfl ?_
    rw[if_neg (by decide)]
    refine j0 <| dt (b:=false) rfl ?_
    rw[if_neg (by decide)]
    refine aA <| a_ (by unfold rE;simp only[List.length_cons,List.length_nil,List.length_set];omega) <| bV (d:=mI (2 ^ c) fun p=>(c_ W a p && c_ W b p || c_ W a p && c_ W d p) || c_ W b p && c_ W d p) (au (au (au (au rfl rfl B_) (au rfl rfl Kw) (kJ _ _ _)) (au (au rfl rfl B_) (au rfl rfl RC) (kJ _ _ _)) (pL _ _ _)) (au (au rfl rfl Kw) (au rfl rfl RC) (kJ _ _ _)) (pL _ _ _)) ⟨_,rfl,fin _ ⟨_,_,_,_,rfl⟩ _ ?_⟩
    refine(dI (ds:=[mI (2 ^ c) fun p=>(c_ W a p && c_ W b p || c_ W a p && c_ W d p) || c_ W b p && c_ W d p,mI (2 ^ c) fun _=>false]) (bc rfl (bc (by rw[<-Gr];rfl) rfl)) (by simp;omega)).trans ?_
    have e1:(mI (2 ^ c) fun p=>(c_ W a p && c_ W b p || c_ W a p && c_ W d p) || c_ W b p && c_ W d p)=mI (2 ^ c) fun p=>(pt W (nm,[a,b,d]) p).2:=fK fun p _=>by rw[hpt];rfl
    have eW:(mI (2 ^ c) fun _=>false)=mI (2 ^ c) fun p=>!((pt W (nm,[a,b,d]) p).1 || (pt W (nm,[a,b,d]) p).2):=fK fun p _=>by
     rw[hpt];show false=!(!((c_ W a p && c_ W b p || c_ W a p && c_ W d p) || c_ W b p && c_ W d p) || ((c_ W a p && c_ W b p || c_ W a p && c_ W d p) || c_ W b p && c_ W d p))
     cases((c_ W a p && c_ W b p || c_ W a p && c_ W d p) || c_ W b p && c_ W d p) <;> rfl
    unfold rX;rw[e1,eW]
 .subst hδ xg;rw[List.length_map,List.length_map,List.take_length];refine dC <| w_var (v:= .loc S.length) rfl ⟨_,rfl,?_,⟨_,rfl⟩,_,dU (ba _ _),h⟩
  show decide (S.length<=S.length)=true;exact decide_eq_true (Nat.le_refl _)
end
end K22
end
section
namespace K22
open PySem PySem.Spec PyProof.Rows L2 L3 MT
theorem BZ(ps:List Nat):(List.range ps.length).map (fun a=>ps.getD a 0)=ps:=by
 refine List.ext_getElem? fun i=>?_
 rw[List.getElem?_map];by_cases q:i < ps.length
 .rw [List.getElem?_range q];show some (ps.getD i 0)=_;rw[List.getD_eq_getElem?_getD,List.getElem?_eq_getElem q];rfl
 .rw [List.getElem?_eq_none (by simp;omega),List.getElem?_eq_none (by omega)];rfl
theorem qB(gs:List Gt):(mv gs).Pairwise (· < ·):=List.Pairwise.filter _ List.pairwise_lt_range
theorem Az{α β:Type}(f:α->β):∀xs:List α,(xs.flatMap fun x=>[f x])=xs.map f
 | []=>rfl
 | x ::xs=>by rw[List.flatMap_cons,Az f xs];rfl
theorem Kz(ps:List Nat):gn ps 1=ps.map fun x=>[x]:=by
 show((List.range ps.length).flatMap fun a=>(gn (ps.drop (a+1)) 0).map (ps.getD a 0 ::·))=_
 have:(fun a=>(gn (ps.drop (a+1)) 0).map (ps.getD a 0 ::·))=fun a=>[[ps.getD a 0]]:=by funext a;rfl
 rw[this,Az]
 conv=>rhs;rw [<-BZ ps]
 rw[List.map_map];rfl
theorem ur{free:List Nat}(hs:free.Pairwise (· < ·)){a:Nat}(ha:a < free.length):free.filter (fun o=>decide (o > free.getD a 0))=free.drop (a+1):=by
 have UL:free.getD a 0=free[a]:=by rw[List.getD_eq_getElem?_getD,List.getElem?_eq_getElem ha];rfl
 rw[UL];generalize hx:free[a]=x;have e2:free.filter (fun o=>decide (o > x))=(free.take (a+1)++free.drop (a+1)).filter (fun o=>decide (o > x)):=by rw[List.take_append_drop]
 rw[e2,List.filter_append];subst hx;have h1:(free.take (a+1)).filter (fun o=>decide (o > free[a]))=[]:=by
  rw[List.filter_eq_nil_iff];intro o ho;obtain⟨i,hi,rfl⟩:=List.mem_iff_getElem.mp ho;rw[List.length_take] at hi;rw[List.getElem_take];have hle:free[i]'(by omega)<=free[a]:=by
   rcases Nat.lt_or_ge i a with z | z
   .exact Nat.le_of_lt (List.pairwise_iff_getElem.mp hs i a (by omega) ha z)
   .have:i=a:=by omega
    subst this;exact Nat.le_refl _
  rw[decide_eq_true_eq];omega
 rw[h1,List.nil_append,List.filter_eq_self];intro o ho;obtain⟨i,hi,rfl⟩:=List.mem_iff_getElem.mp ho;rw[List.length_drop] at hi;rw[List.getElem_drop];exact decide_eq_true (List.pairwise_iff_getElem.mp hs a (a+1+i) ha (by omega) (by omega))
def okN(s:List Nat)(o:Nat):Bool:=match s.getLast? with | none=>true | some l=>decide (o > l)
theorem Td{free:List Nat}(hs:free.Pairwise (· < ·)){a:Nat}(ha:a < free.length){s:List Nat}(h:∀x∈s,x∈free.drop (a+1)):free.filter (okN (free.getD a 0 ::s))=(free.drop (a+1)).filter (okN s):=by
 have UL:free.getD a 0=free[a]:=by rw[List.getD_eq_getElem?_getD,List.getElem?_eq_getElem ha];rfl
 cases s with
 | nil=>
   have e1:okN [free.getD a 0]=fun o=>decide (o > free.getD a 0):=rfl
   have e2:(free.drop (a+1)).filter (okN [])=free.drop (a+1):=by rw[List.filter_eq_self];intro o _;rfl
   rw[e1,ur hs ha,e2]
 | cons y r=>
   have e1:okN (free.getD a 0 ::y ::r)=okN (y ::r):=by unfold okN;rw [List.getLast?_cons_cons]
   rw[e1];have hl:∃l,(y ::r).getLast? =some l:=⟨_,List.getLast?_eq_some_getLast (by simp)⟩
   obtain⟨l,hl⟩:=hl;have hlm:=h l (List.mem_of_getLast? hl);have hgt:free[a] < l:=by
    obtain⟨i,hi,rfl⟩:=List.mem_iff_getElem.mp hlm;rw[List.length_drop] at hi;rw[List.getElem_drop];exact List.pairwise_iff_getElem.mp hs a (a+1+i) ha (by omega) (by omega)
   have e2:okN (y ::r)=fun o=>decide (o > l):=by unfold okN;rw [hl]
   rw[e2];have e3:free.filter (fun o=>decide (o > l))=(free.take (a+1)++free.drop (a+1)).filter (fun o=>decide (o > l)):=by rw[List.take_append_drop]
   rw[e3,List.filter_append];have h1:(free.take (a+1)).filter (fun o=>decide (o > l))=[]:=by
    rw[List.filter_eq_nil_iff];intro o ho;obtain⟨i,hi,rfl⟩:=List.mem_iff_getElem.mp ho;rw[List.length_take] at hi;rw[List.getElem_take];have hle:free[i]'(by omega)<=free[a]:=by
     rcases Nat.lt_or_ge i a with z | z
     .exact Nat.le_of_lt (List.pairwise_iff_getElem.mp hs i a (by omega) ha z)
     .have:i=a:=by omega
      subst this;exact Nat.le_refl _
    rw[decide_eq_true_eq];omega
   rw[h1,List.nil_append]
theorem kN{α β:Type}{f g:α->List β}:∀{xs:List α},(∀x∈xs,f x=g x)->xs.flatMap f=xs.flatMap g
 | [],_=>rfl
 | x ::xs,h=>by rw[List.flatMap_cons,List.flatMap_cons,h x List.mem_cons_self,kN fun y hy=>h y (List.mem_cons_of_mem _ hy)]
theorem mX{α β γ:Type}(f:α->β)(g:β->List γ):∀xs:List α,(xs.map f).flatMap g=xs.flatMap fun x=>g (f x)
 | []=>rfl
 | x ::xs=>by rw[List.map_cons,List.flatMap_cons,mX f g xs,List.flatMap_cons]
theorem rW{α β γ:Type}(f:β->γ)(g:α->List β):∀xs:List α,(xs.flatMap g).map f=xs.flatMap fun x=>(g x).map f
 | []=>rfl
 | x ::xs=>by rw[List.flatMap_cons,List.map_append,rW f g xs,List.flatMap_cons]
theorem Bi:∀(k:Nat) (free:List Nat),free.Pairwise (· < ·)->gn free (k+1)=(gn free k).flatMap fun s=>(free.filter (okN s)).map fun o=>s++[o]
 | 0,free,_=>by
   rw[Kz];show _=([[]]:List (List Nat)).flatMap _;rw[List.flatMap_cons,List.flatMap_nil,List.append_nil];have:free.filter (okN [])=free:=by rw[List.filter_eq_self];intro o _;rfl
   rw[this];rfl
 | k+1,free,hs=>by
   show((List.range free.length).flatMap fun a=>(gn (free.drop (a+1)) (k+1)).map (free.getD a 0 ::·))=((List.range free.length).flatMap fun a=>(gn (free.drop (a+1)) k).map (free.getD a 0 ::·)).flatMap _
   rw[List.flatMap_assoc];refine kN fun a ha=>?_
   rw[List.mem_range] at ha;have hd:(free.drop (a+1)).Pairwise (· < ·):=hs.sublist (List.drop_sublist _ _)
   rw[Bi k _ hd,mX,rW];refine kN fun s RJ=>?_
   rw[Td hs ha (g9 RJ).2,List.map_map];rfl
theorem Kd{s:List Nat}{l:Nat}(h:s.getLast? =some l)(hl:s.length < 1000):cb (aR s) (.int (-1))= .ok (nI l):=by
 refine wM ?_;unfold sR Bw;have hp:0 < s.length:=by
  cases s with
  | nil=>cases h
  | cons _ _=>simp
 rw[List.length_map,if_neg (by omega),if_pos (by omega)]
 show(s.map nI)[(((s.length:Int))+ -1).toNat]? =_;rw[List.getElem?_map,show((s.length:Int)+ -1).toNat=s.length - 1 by omega,<-List.getLast?_eq_getElem?,h]
 rfl
theorem eq_nil(s:List Nat):jm (aR s) (.tup [])= .ok (.bl s.isEmpty):=by
 have f:eu 1 (aR s):=eu.tup fun d hd=>by obtain⟨x,_,rfl⟩:=List.mem_map.mp hd;exact eu.int _
 have f2:eu 1 (.tup []):=eu.tup fun d hd=>by cases hd
 unfold jm;have:Gb (aR s) (.tup [])= .ok s.isEmpty:=by
  unfold aR at f ⊢;rw[Ha,f.pl,f.sh (by omega),f2.pl,f2.sh (by omega)]
  cases s with
  | nil=>rfl
  | cons g gs=>rfl
 rw[this];rfl
theorem DR:∀(N:Nat) (f g:M),((eJ N f:Nat):Int) - (eJ N fun i=>f i && g i:Nat)=(eJ N fun i=>f i && !g i:Nat)
 | 0,f,g=>rfl
 | N+1,f,g=>by
   have ih:=DR N (fun i=>f (i+1)) (fun i=>g (i+1))
   have e:∀h:M,eJ (N+1) h=(if h 0 then 1 else 0)+2*eJ N (fun i=>h (i+1)):=fun _=>rfl
   rw[e,e,e];generalize eJ N (fun i=>f (i+1))=a at ih ⊢
   generalize eJ N (fun i=>f (i+1) && g (i+1))=b at ih ⊢
   generalize eJ N (fun i=>f (i+1) && !g (i+1))=c at ih ⊢
   show(((if f 0 then 1 else 0)+2*a:Nat):Int) - ((if(f 0 && g 0) then 1 else 0)+2*b:Nat)=((if(f 0 && !g 0) then 1 else 0)+2*c:Nat)
   cases f 0 <;> cases g 0 <;> simp <;> omega
theorem Nn(N:Nat)(f g:M):u0 (mI N f) (.int (-((eJ N g:Nat):Int) - 1))= .ok (mI N fun i=>f i && !g i):=by
 show R.ok (D.int (Builtin.bitAnd (eJ N f:Int) (-((eJ N g:Nat):Int) - 1)))=_;have:Builtin.bitAnd (eJ N f:Int) (-((eJ N g:Nat):Int) - 1)=((eJ N fun i=>f i && !g i:Nat):Int):=by
  unfold Builtin.bitAnd Builtin.bitNot;rw[decide_eq_true (by omega:(0:Int)<=(eJ N f:Nat)),decide_eq_false (by omega:¬(0:Int)<= -((eJ N g:Nat):Int) - 1)]
  show(eJ N f:Int) - (((eJ N f:Int).toNat &&& (-(-((eJ N g:Nat):Int) - 1) - 1).toNat:Nat):Int)=_;rw[Int.toNat_natCast,show(-(-((eJ N g:Nat):Int) - 1) - 1).toNat=eJ N g by omega,zu,DR]
 rw[this];rfl
section
variable {c:Nat} {l:List (Str × Nat)} {gs:List Gt} {os:List (Str × List Nat)} {S:aH} {T:List Int} {safe:Bool} {N:Nat}
def Kg(safe:Bool)(x y:Bool × Bool):Bool:=if safe then(x.2 !=y.2) && !(!(y.1 || y.2)) else(x.2 !=y.2) || !(y.1 || y.2)
def kE(A B lv:D)(f:D)(a4 a5 a6 a7:Sl):aw:=[.val A, .val B, .val lv, .val f,a4,a5,a6,a7]
theorem EM{W0 W1:List M}(ho:os.length < 1000):fT [.lst (os.map (rX N W0)), .lst (os.map (rX N W1)), .str (lE safe)]= .ok (mI N fun p=>os.any fun x=>Kg safe (pt W0 x p) (pt W1 x p)):=by
 have hz:sizeLine=16777216:=sizeLine_eq;unfold fT qZ;refine dv (cm (δ1:=kE (.lst (os.map (rX N W0))) (.lst (os.map (rX N W1))) (.str (lE safe)) (mI N fun _=>false) .un .un .un .un) ?_ ?_)
 .rw [<-Gr];rfl
 have hzip:sj (os.map (rX N W0)) (os.map (rX N W1))=os.map fun x=> .tup [rX N W0 x,rX N W1 x]:=by
  unfold sj;rw[List.zip_map',List.map_map];rfl
 generalize hA:D.lst (os.map (rX N W0))=A;generalize hB:D.lst (os.map (rX N W1))=B;obtain⟨δ1,e1,a4,a5,a6,a7,xm⟩:=j3 (t:=gb 2 (bJ (gb 2 (bJ (aS 4) (bJ (aS 5) gp))) (bJ (gb 2 (bJ (aS 6) (bJ (aS 7) gp))) gp))) (body:=g8) (ds:=os.map fun x=> .tup [rX N W0 x,rX N W1 x])
  (fun i δ=>∃a4 a5 a6 a7,δ=kE A B (.str (lE safe)) (mI N fun p=>(os.take i).any fun x=>Kg safe (pt W0 x p) (pt W1 x p)) a4 a5 a6 a7) (δ:=kE A B (.str (lE safe)) (mI N fun _=>false) .un .un .un .un) ⟨_,_,_,_,rfl⟩ (by
    rintro i d δ hd ⟨a4,a5,a6,a7,rfl⟩;obtain⟨x,hx,rfl⟩:=NT.pB hd;generalize hm:(fun p=>(os.take i).any fun x=>Kg safe (pt W0 x p) (pt W1 x p))=m
    have hnext:(fun p=>(os.take (i+1)).any fun x=>Kg safe (pt W0 x p) (pt W1 x p))=fun p=>m p || Kg safe (pt W0 x p) (pt W1 x p):=by
     funext p;rw[List.take_add_one,hx,List.any_append,<-hm];simp
    rw[hnext]
    let d0:M:=fun p=>(pt W0 x p).2
    let n0:M:=fun p=>!((pt W0 x p).1 || (pt W0 x p).2)
    let d1:M:=fun p=>(pt W1 x p).2
    let n1:M:=fun p=>!((pt W1 x p).1 || (pt W1 x p).2)
    refine⟨kE A B (.str (lE safe)) (mI N fun p=>m p || Kg safe (pt W0 x p) (pt W1 x p)) (.val (mI N d0)) (.val (mI N n0)) (.val (mI N d1)) (.val (mI N n1)),?_,⟨_,_,_,_,rfl⟩⟩
    show g8 (kE A B (.str (lE safe)) (mI N m) (.val (mI N d0)) (.val (mI N n0)) (.val (mI N d1)) (.val (mI N n1)))=_;unfold g8;have hlv:b2 jm (ab 2) (eC (.str "right")) (kE A B (.str (lE safe)) (mI N m) (.val (mI N d0)) (.val (mI N n0)) (.val (mI N d1)) (.val (mI N n1)))= .ok (!safe):=by
     refine eD (a:= .str (lE safe)) (b:= .str "right") rfl rfl ?_;show R.ok (D.bl (lE safe=="right"))=_;congr 2;cases safe <;> decide+kernel
    cases safe with
    | false=>
      refine vp hlv ((j1 (i:=3) (d:=mI N fun p=>(m p || (d0 p !=d1 p)) || n1 p) (au (au rfl (au rfl rfl (t6 N d0 d1)) (pL _ _ _)) rfl (pL _ _ _)) (by unfold kE;simp only[List.length_cons,List.length_nil];omega)).trans ?_)
      have:(mI N fun p=>(m p || (d0 p !=d1 p)) || n1 p)=mI N fun p=>m p || Kg false (pt W0 x p) (pt W1 x p):=fK fun p _=>by rw[Bool.or_assoc];rfl
      rw[this];rfl
    | true=>
      refine j9 hlv ((j1 (i:=3) (d:=mI N fun p=>m p || ((d0 p !=d1 p) && !n1 p)) (au rfl (au (au rfl rfl (t6 N d0 d1)) (show N7 (ab 7) _= .ok (.int (-((eJ N n1:Nat):Int) - 1)) from rfl) (Nn N _ n1)) (pL _ _ _)) (by unfold kE;simp only[List.length_cons,List.length_nil];omega)).trans ?_)
      rfl)
 refine cm (pH (ds:=os.map fun x=> .tup [rX N W0 x,rX N W1 x]) ?_ e1) ?_
 .unfold Gy;rw[show ab 0 (kE A B (.str (lE safe)) (mI N fun _=>false) .un .un .un .un)= .ok A from rfl,R.bj,show ab 1 (kE A B (.str (lE safe)) (mI N fun _=>false) .un .un .un .un)= .ok B from rfl,R.bj,<-hA,<-hB]
  show R.ok (sj _ _)=_;rw[hzip]
 rw[List.length_map,List.take_length] at xm;subst xm;exact cL rfl
theorem Mp(xs:List Bool):((M5 xs).1 && (M5 xs).2)=false:=by
 unfold M5;split
 .rename_i a;cases a <;> rfl
 .rename_i a b;cases a <;> cases b <;> rfl
 .rename_i a b c;cases a <;> cases b <;> cases c <;> rfl
 .rfl
theorem NQ{x y:Bool × Bool}(hx:x.2=!x.1)(hy:(y.1 && y.2)=false):Kg safe x y=brk safe x y:=by
 obtain⟨x0,x1⟩:=x;obtain⟨y0,y1⟩:=y;simp only at hx hy;subst hx;unfold Kg brk;cases safe <;> cases x0 <;> cases y0 <;> cases y1 <;> first | rfl | cases hy
theorem wH{α:Type}{f g:α->Bool}:∀{xs:List α},(∀x∈xs,f x=g x)->xs.any f=xs.any g
 | [],_=>rfl
 | x ::xs,h=>by rw[List.any_cons,List.any_cons,h x List.mem_cons_self,wH fun y hy=>h y (List.mem_cons_of_mem _ hy)]
theorem FN(ho:os.length < 1000)(F3:∀x∈os,∀p,(pt (Wd c l gs [] []) x p).2=!(pt (Wd c l gs [] []) x p).1):fT [.lst (os.map (rX (2 ^ c) (Wd c l gs [] []))), .lst (os.map (rX (2 ^ c) (Wd c l gs T []))), .str (lE safe)]= .ok (mI (2 ^ c) (N9 safe c l gs os T)):=by
 rw[EM ho];congr 1;refine fK fun p _=>?_
 unfold N9;exact wH fun x hx=>NQ (F3 x hx p) (by unfold pt;exact Mp _)
end
theorem ll:∀(s:Nat) (ps:List Nat),(gn ps s).length<=2 ^ ps.length
 | 0,ps=>by
   show 1<=_;exact Nat.one_le_two_pow
 | s+1,ps=>by
   have key:∀(n:Nat) (qs:List Nat),qs.length=n->∀s,(∀rs:List Nat,(gn rs s).length<=2 ^ rs.length)->((List.range qs.length).map fun a=>(gn (qs.drop (a+1)) s).length).sum+1<=2 ^ n:=by
    intro n
    induction n with
    | zero=>intro qs hq s _;rw [hq];simp
    | succ n ih=>
      intro qs hq s hs
      match qs,hq with
      | x ::qs,hq=>
        rw[List.length_cons] at hq;have h1:=ih qs (by omega) s hs
        rw[List.length_cons,List.range_succ_eq_map,List.map_cons,List.map_map,List.sum_cons];have h2:=hs qs;have e:((fun a=>(gn ((x ::qs).drop (a+1)) s).length) ∘ Nat.succ)=fun a=>(gn (qs.drop (a+1)) s).length:=rfl
        rw[e,show(x ::qs).drop (0+1)=qs from rfl,Nat.pow_succ]
        have:qs.length=n:=by omega
        rw[this] at h2;omega
   unfold gn;rw[List.length_flatMap];have:(List.range ps.length).map (fun a=>((gn (ps.drop (a+1)) s).map (ps.getD a 0 ::·)).length)=(List.range ps.length).map fun a=>(gn (ps.drop (a+1)) s).length:=List.map_congr_left fun a _=>by rw[List.length_map]
   rw[this];have:=key ps.length ps rfl s fun rs=>ll s rs
   omega
def jG(free:List Nat)(m:Nat):List (List Nat):=(List.range (m+1)).flatMap (gn free)
theorem si(free:List Nat)(m:Nat):jG free (m+1)=jG free m++gn free (m+1):=by
 unfold jG;rw[List.range_succ,List.flatMap_append];simp
theorem oh{free:List Nat}(h:free.length<=12):∀m,(jG free m).length<=(m+1)*4096
 | 0=>by show([[]]++[]:List (List Nat)).length<=_;simp
 | m+1=>by
   have:=oh h m;have h2:=ll (m+1) free;have:2 ^ free.length<=4096:=Nat.pow_le_pow_right (by omega) (by omega:free.length<=12)
   rw[si,List.length_append];omega
theorem K8{free T:List Nat}{m:Nat}(h:T∈jG free m):T.length<=m/\∀x∈T,x∈free:=by
 unfold jG at h;obtain⟨s,hs,hT⟩:=List.mem_flatMap.mp h;rw[List.mem_range] at hs;obtain⟨h1,h2⟩:=g9 hT;exact⟨by omega,h2⟩
def gE(fr mm:D)(l2 l3 a4 a5 a6:Option V3):DE:=[some (.d fr),some (.d mm),l2,l3,a4,a5,a6]
theorem Dw(S T:aH)(a:Nat)(x:SO):(S++T).set (S.length+a) x=S++T.set a x:=by rw[List.set_append_right _ _ (by omega),show S.length+a - S.length=a by omega]
theorem rR(S T:aH)(a:Nat):(S++T)[S.length+a]? =T[a]?:=by rw[List.getElem?_append_right (by omega),show S.length+a - S.length=a by omega]
theorem t8{free:List Nat}{m:Nat}{S:aH}(Pg:free.Pairwise (· < ·))(F0:free.length<=12)(hm:m<=12)(hS:lP S){Q:V3->aH->Prop}(h:Q (.d (.lst ((jG free m).map aR))) S) :
 W3 (dw [.d (.lst (free.map nI)), .d (nI m)] S) Q:=by
 have hz:sizeLine=16777216:=sizeLine_eq;unfold dw;refine kU hS (ve rfl ?_);simp only[cv,e_,List.map,List.length,List.replicate,List.cons_append,List.nil_append,Nat.reduceAdd,Nat.reduceSub];unfold kh;refine aA <| a_ (by simp) <| js (ds:=[aR []]) (lj (bc (dI rfl (by simp)) rfl) (by simp;omega)) ⟨_,rfl,?_⟩
 simp only[List.set];refine aA <| a_ (by simp) <| js (ds:=[aR []]) (lj (bc (dI rfl (by simp)) rfl) (by simp;omega)) ⟨_,rfl,?_⟩
 simp only[List.set];rw[List.append_assoc,List.length_append];refine aA <| eT <| lH (ds:=eY 0 m) (mY (n:=m) rfl (by omega)) ?_
 refine(bM (fun i δ S2=>∃(U:aH) (a b:Nat) (a4 a5 a6:Option V3),S2=S++U/\U[a]? =some (.lst ((gn free i).map aR))/\U[b]? =some (.lst ((jG free i).map aR))/\a≠b/\δ=gE (.lst (free.map nI)) (nI m) (some (.loc (S.length+a))) (some (.loc (S.length+b))) a4 a5 a6)
  ⟨[SO.lst [aR []],SO.lst [aR []]],0,1,none,none,none,rfl,rfl,rfl,by omega,rfl⟩ ?_).mono fun o S2 ⟨du,eW,U,a,b,a4,a5,a6,xg,hUa,hUb,Dc,hδ⟩=>⟨du,eW,?_⟩
 .rintro i v δ S2 hv ⟨U,a,b,a4,a5,a6,rfl,hUa,hUb,Dc,rfl⟩;obtain⟨hi,rfl⟩:=NT.nG hv;have hal:a < U.length:=(List.getElem?_eq_some_iff.mp hUa).1;have hbl:b < U.length:=(List.getElem?_eq_some_iff.mp hUb).1;have hcl2:(gn free (i+1)).length<=4096:=Nat.le_trans (ll _ _) (Nat.pow_le_pow_right (by omega) (by omega:free.length<=12))
  have hin:∀s∈gn free i,s.length=i:=fun s hs=>(g9 hs).1
  have hmore:=Bi i free Pg;have hAl:=oh F0 i;have hAi:(i+1)*4096<=13*4096:=Nat.mul_le_mul_right _ (by omega)
  refine⟨gE (.lst (free.map nI)) (nI m) (some (.loc (S.length+a))) (some (.loc (S.length+b))) (some (.d (.int i))) a5 a6,rfl,?_⟩;unfold mJ;refine LH (i:=2) (k:=S.length+a) rfl (by rw[rR];exact hUa) ?_
  rw[Dw];show W3 (aU _ _ (gE (.lst (free.map nI)) (nI m) (some (.d (.lst ((gn free i).map aR)))) (some (.loc (S.length+b))) (some (.d (.int i))) a5 a6) _) _;have hUb1:(U.set a SO.lp)[b]? =some (.lst ((jG free i).map aR)):=by rw[List.getElem?_set_ne Dc];exact hUb
  have hUl:(U.set a SO.lp).length=U.length:=List.length_set;generalize U.set a SO.lp=U1 at hUb1 hUl;rw[si];generalize gn free i=Ci at hin hmore;generalize gn free (i+1)=Cj at hcl2 hmore
  let F:Nat->List (List Nat):=fun j=>(Ci.take j).flatMap fun s=>(free.filter (okN s)).map fun o=>s++[o]
  have hFle:∀j,(F j).length<=Cj.length:=fun j=>by
   rw[hmore];show((Ci.take j).flatMap _).length<=_
   conv=>rhs;rw [<-List.take_append_drop j Ci]
   rw[List.flatMap_append,List.length_append];omega
  refine aA <| a_ (by unfold gE;simp only[List.length_cons,List.length_nil];omega) <| js (ds:=[]) rfl ⟨_,rfl,?_⟩
  rw[List.append_assoc,List.length_append,hUl];show W3 (aU _ _ (gE (.lst (free.map nI)) (nI m) (some (.d (.lst (Ci.map aR)))) (some (.loc (S.length+b))) (some (.d (.int i))) (some (.loc (S.length+U.length))) a6) _) _;refine aA <| eT <| lH (ds:=Ci.map aR) (fj rfl) ?_
  refine(bM (fun j δ S3=>∃b6,S3=S++(U1++[SO.lst ((F j).map aR)])/\δ=gE (.lst (free.map nI)) (nI m) (some (.d (.lst (Ci.map aR)))) (some (.loc (S.length+b))) (some (.d (.int i))) (some (.loc (S.length+U.length))) b6)
   ⟨a6,by simp [F],rfl⟩ ?_).mono fun o S3 ⟨ED,e3,b6,EF,xf⟩=>⟨ED,e3,?_⟩
  .rintro j v δ S3 hv ⟨b6,rfl,rfl⟩;obtain⟨s,hsj,rfl⟩:=NT.f6 hv;have hsl:=hin s (List.mem_of_getElem? hsj);have hFs:F (j+1)=F j++(free.filter (okN s)).map fun o=>s++[o]:=by
    show(Ci.take (j+1)).flatMap _=_;rw[List.take_add_one,hsj,List.flatMap_append];simp [F]
   have hFl:=hFle (j+1);rw[hFs,List.length_append] at hFl;rw[hFs,List.map_append];generalize F j=G at hFl ⊢;refine⟨gE (.lst (free.map nI)) (nI m) (some (.d (.lst (Ci.map aR)))) (some (.loc (S.length+b))) (some (.d (.int i))) (some (.loc (S.length+U.length))) (some (.d (aR s))),rfl,?_⟩;unfold mw;have hg:(S++(U1++[SO.lst (G.map aR)]))[S.length+U.length]? =some (.lst (G.map aR)):=by rw[rR,<-hUl];exact ba _ _
   refine L1 (k:=S.length+U.length) rfl ⟨_,hg⟩ <| bV (d:= .lst (((free.filter (okN s)).map fun o=>s++[o]).map aR)) (cX (cT (ds:=free.map nI) (fj rfl) (by rw[List.length_map];omega) ?_)) ⟨_,_,rfl,hg,?_,_,rfl,_,?_,rfl⟩
   .rw [List.map_map];refine NT.dN (okN s) nI _ fun o ho=>⟨[.val (nI o), .val (aR s)],rfl,?_,fun _=>?_⟩
    .have e1:b2 jm (ab 1) (il bb) [.val (nI o), .val (aR s)]= .ok s.isEmpty:=eD (a:=aR s) (b:= .tup []) rfl (dI rfl (by simp)) (eq_nil s)
     unfold O8;rw[e1,R.bj];cases hl:s.getLast? with
     | none=>
       have:s=[]:=List.getLast?_eq_none_iff.mp hl;subst this;rfl
     | some l=>
       have xS:s.isEmpty=false:=by
        cases s with
        | nil=>cases hl
        | cons _ _=>rfl
       rw[xS,if_neg (by decide)]
       have:okN s o=decide (o > l):=by unfold okN;rw [hl]
       rw[this];refine eD (a:=nI o) (b:=nI l) rfl (au (a:=aR s) (b:= .int (-1)) rfl rfl (Kd hl (by omega))) ?_
       show R.ok (D.bl (decide ((o:Int) > (l:Int))))=_;congr 2;by_cases q:o > l
       .rw [decide_eq_true q,decide_eq_true (by omega)]
       .rw [decide_eq_false q,decide_eq_false (by omega)]
    .refine au (a:=aR s) (b:= .tup [nI o]) rfl (dI rfl (by simp;omega)) ?_
     show oB (.tup (s.map nI)) (.tup [nI o])= .ok (.tup ((s++[o]).map nI));rw[List.map_append];exact CZ (by rw[List.length_map];simp;omega)
   .rw [List.length_map,List.length_map];omega
   .rw [Dw];congr 1;rw[<-hUl,dg]
  .subst xf EF;rw[List.length_map,List.length_map];have hfull:F Ci.length=Cj:=by rw[hmore];show(Ci.take Ci.length).flatMap _=_;rw [List.take_length]
   rw[hfull];refine aA <| a_ (by unfold gE;simp only[List.length_cons,List.length_nil];omega) <| w_var (v:= .loc (S.length+U.length)) rfl ⟨_,rfl,?_⟩
   have hg:(S++(U1++[SO.lst (Cj.map aR)]))[S.length+U.length]? =some (.lst (Cj.map aR)):=by rw[rR,<-hUl];exact ba _ _
   have hgb:(S++(U1++[SO.lst (Cj.map aR)]))[S.length+b]? =some (.lst ((jG free i).map aR)):=by rw[rR,List.getElem?_append_left (by omega)];exact hUb1
   refine a_ (by unfold gE;simp only[List.length_cons,List.length_nil,List.length_set];omega) <| Pt <| w_var (v:= .loc (S.length+b)) rfl <| w_var (v:= .loc (S.length+U.length)) rfl ⟨(jG free i).map aR,Cj.map aR,by unfold Bc dh;simp only[hgb],by unfold Bc dh;simp only[hg],by rw[List.length_map,List.length_map];omega,_,rfl,U1++[SO.lst (Cj.map aR)]++[SO.lst ((jG free i++Cj).map aR)],U.length,U.length+1,some (.d (.int i)),some (.loc (S.length+U.length)),b6,?_,?_,?_,by omega,?_⟩
   .rw [List.map_append,List.append_assoc S]
   .rw [List.getElem?_append_left (by simp;omega),<-hUl];exact ba _ _
   .rw [show U.length+1=(U1++[SO.lst (Cj.map aR)]).length by simp [hUl]];exact ba _ _
   .have:(S++(U1++[SO.lst (Cj.map aR)])).length=S.length+(U.length+1):=by simp [hUl]
    rw[this];rfl
 .subst hδ xg;rw[NT.kz] at hUb;unfold gE;refine dC <| w_var (v:= .loc (S.length+b)) rfl ⟨_,rfl,?_,⟨_,rfl⟩,_,dU (by rw[rR];exact hUb),h⟩
  show decide (S.length<=S.length+b)=true;exact decide_eq_true (by omega)
end K22
end
section
namespace K22
open PySem PySem.Spec PyProof.Rows L2 L3 MT
def subB(T o:List Nat):Bool:=o.all fun x=>T.contains x
def x5(B:List Nat->Bool)(f:List (List Nat))(T:List Nat):List (List Nat):=if f.any (subB T) then f else if B T then f++[T] else f
def pP(B:List Nat->Bool)(sets:List (List Nat)):List (List Nat):=sets.foldl (x5 B) []
theorem qR(B:List Nat->Bool):∀(xs f:List (List Nat)),(xs.foldl (x5 B) f).length<=f.length+xs.length
 | [],f=>by simp
 | x ::xs,f=>by
   have:=qR B xs (x5 B f x);rw[List.foldl_cons,List.length_cons];have h2:(x5 B f x).length<=f.length+1:=by unfold x5;split <;> (try split) <;> simp
   omega
theorem Ew(B:List Nat->Bool):∀(xs f:List (List Nat)),∀T∈xs.foldl (x5 B) f,T∈f\/T∈xs
 | [],f,T,h=> .inl h
 | x ::xs,f,T,h=>by
   rw[List.foldl_cons] at h;rcases Ew B xs _ T h with q | q
   .unfold x5 at q;split at q
    .exact .inl q
    .split at q
     .rcases List.mem_append.mp q with z | z
      .exact .inl z
      .exact .inr (by rw[List.mem_singleton.mp z];exact List.mem_cons_self)
     .exact .inl q
   .exact .inr (List.mem_cons_of_mem _ q)
theorem N3(x:Nat)(T:List Nat):Ep (nI x) (aR T)= .ok (.bl (T.contains x)):=by
 have h:=u_ (x:Int) (nZ T);rw[GU,GF] at h;exact h
theorem CO{T o:List Nat}(ho:o.length < 1000):j4 [aR T,aR o]= .ok (.bl (subB T o)):=by
 have hz:sizeLine=16777216:=sizeLine_eq;unfold j4 yg;refine dv (cL (bf (ds:=[.lst ((o.map fun x=>T.contains x).map .bl)]) (bc (cX (cT (ds:=o.map nI) (oK rfl) (by rw[List.length_map];omega) ?_)) rfl) ?_))
 .rw [List.map_map];exact NT.er nI _ fun x _=>⟨[.val (nI x), .val (aR T)],rfl,rfl,au (a:=nI x) (b:=aR T) rfl rfl (N3 x T)⟩
 .show(match bls? ((o.map fun x=>T.contains x).map D.bl) with | some bs=>R.ok (D.bl (bs.all id)) | none=> .no)=_
  rw[vd];show R.ok (D.bl ((o.map fun x=>T.contains x).all id))=_
  rw[List.all_map];rfl
theorem LJ(xs:List (List Nat)):Gb (.lst (xs.map aR)) (.lst [])= .ok xs.isEmpty:=by
 have f:eu 2 (.lst (xs.map aR)):=eu.lst fun d hd=>by
  obtain⟨x,_,rfl⟩:=List.mem_map.mp hd;exact eu.tup fun d hd=>by obtain⟨x,_,rfl⟩:=List.mem_map.mp hd;exact eu.int _
 have f2:eu 1 (.lst []):=eu.lst fun d hd=>by cases hd
 rw[CS,f.pl,f.sh (by omega),f2.pl,f2.sh (by omega)]
 cases xs with
 | nil=>rfl
 | cons g gs=>rfl
theorem IZ(s:List Nat):Gb (.lst (s.map nI)) (.lst [])= .ok s.isEmpty:=by
 have f:eu 1 (.lst (s.map nI)):=eu.lst fun d hd=>by obtain⟨x,_,rfl⟩:=List.mem_map.mp hd;exact eu.int _
 have f2:eu 1 (.lst []):=eu.lst fun d hd=>by cases hd
 rw[CS,f.pl,f.sh (by omega),f2.pl,f2.sh (by omega)]
 cases s with
 | nil=>rfl
 | cons g gs=>rfl
theorem vn{a b:D}{k:Bool}(h:Gb a b= .ok k):jm a b= .ok (.bl k):=by unfold jm;rw [h];rfl
theorem AI{a b:D}{k:Bool}(h:Ep a b= .ok (.bl k)):tG a b= .ok (.bl (!k)):=by
 unfold Ep at h;unfold tG;cases q:inD a b with
 | ok c=>rw [q] at h;cases h;rfl
 | ex c=>rw [q] at h;cases h
 | no=>rw [q] at h;cases h
theorem Ia{o T:List Nat}{δ:aw}(hl:o.length < 1000)(h0:ab 0 δ= .ok (aR o))(hk:uH ["place"] [1] δ=[.un, .val (aR T)]):b2 jm (eNew (dj (cI (ab 0)) (aS 0) (b2 tG (ab 0) (ab 1)) (ab 0) ["place"] [1])) (eNew (eB bb)) δ= .ok (subB T o):=by
 have hz:sizeLine=16777216:=sizeLine_eq;refine eD (a:= .lst ((o.filter fun x=>!T.contains x).map nI)) (b:= .lst []) (cX (cT (ds:=o.map nI) (oK h0) (by rw[List.length_map];omega) ?_)) rfl ((vn (IZ _)).trans ?_)
 .rw [hk];exact NT.dN (fun x=>!T.contains x) nI nI fun x _=>⟨[.val (nI x), .val (aR T)],rfl,eD (a:=nI x) (b:=aR T) rfl rfl (AI (N3 x T)),fun _=>rfl⟩
 .congr 2;unfold subB;rw[Bool.eq_iff_iff,List.isEmpty_iff,List.filter_eq_nil_iff,List.all_eq_true];exact⟨fun h x hx=>by have:=h x hx;simpa using this,fun h x hx=>by rw[h x hx];decide⟩
theorem HW(T:List Nat):rH (aR T)=true:=Ag T
theorem L4:∀xs:List (List Nat),lh (xs.map aR)=true
 | []=>by rw[List.map_nil];unfold lh;rfl
 | x ::xs=>by rw[List.map_cons];unfold lh;rw [HW,L4 xs];rfl
section
variable {c:Nat} {l:List (Str × Nat)} {gs:List Gt} {os:List (Str × List Nat)} {S:aH} {safe:Bool} {m:Nat}
theorem yw{δ:aw}(hg:gs.length < 1000)(h1:ab 0 δ= .ok (bG l gs os)):dj (eO (e2 cb (ab 0) (eC (.int 1)))) (gb 2 (bJ (aS 0) (bJ (aS 1) gp))) (xw (rF (e2 cb (ab 1) (eC (.int 2))))) (ab 0) ["place","gate"] [] δ= .ok ((mv gs).map nI):=by
 have h:=Aq (ins:=l) (os:=os) (δ:=[.un, .val (bG l gs os)]) hg rfl;unfold dj at h ⊢;have e:eO (e2 cb (ab 0) (eC (.int 1))) δ=eO (e2 cb (ab 1) (eC (.int 1))) [.un, .val (bG l gs os)]:=by
  unfold eO e2;rw[h1];rfl
 rw[e];exact h
def BT(safe:Bool)(c:Nat)(l:List (Str × Nat))(gs:List Gt)(os:List (Str × List Nat))(T:List Nat):Bool:=!(decide (eJ (2 ^ c) (N9 safe c l gs os (nZ T))=0))
def pJ(safe:Bool)(c:Nat)(l:List (Str × Nat))(gs:List Gt)(os:List (Str × List Nat))(m:Nat):List (List Nat):=pP (BT safe c l gs os) (jG (mv gs) m)
theorem U6(f:M)(N:Nat):Pb (mI N f) (.int 0)= .ok (.bl (!(decide (eJ N f=0)))):=by
 show R.ok (D.bl (!((eJ N f:Int)==0)))=_;congr 3;by_cases q:eJ N f=0
 .rw [q];rfl
 .rw [decide_eq_false q];exact beq_eq_false_iff_ne.mpr (by omega)
theorem qC{xs:List (List Nat)}{B:List Nat->Bool}(hx:∀T∈xs,T.length < 1000):∀o∈pP B xs,o.length < 1000:=fun o ho=>by
 rcases Ew B xs [] o ho with q | q
 .cases q
 .exact hx o q
theorem yk(B:List Nat->Bool)(xs:List (List Nat))(T:List Nat):pP B (xs++[T])=x5 B (pP B xs) T:=by unfold pP;rw [List.foldl_append];rfl
theorem wZ{free:List Nat}(hm:m<=12):∀T∈jG free m,T.length < 1000:=fun T hT=>by have:=(K8 hT).1;omega
def qE(nt mm lv ah pl:D)(a:Nat)(a6 a7:Option V3):DE:=[some (.d nt),some (.d mm),some (.d lv),some (.d ah),some (.d pl),some (.loc a),a6,a7]
theorem uV(NO:ke l gs os)(hc:l.length=c)(uZ:c<=6)(ho:∀x∈os,1<=x.2.length/\x.2.length<=3)(F3:∀x∈os,∀p,(pt (Wd c l gs [] []) x p).2=!(pt (Wd c l gs [] []) x p).1)(hg:gs.length<=12)(hm:m<=3)(hS:lP S){Q:V3->aH->Prop}
 (h:Q (.d (.lst ((pJ safe c l gs os m).map aR))) S):W3 (gB [.d (bG l gs os), .d (nI m), .d (.str (lE safe))] S) Q:=by
 have hz:sizeLine=16777216:=sizeLine_eq;have hO:=NO.ho;have F0:(mv gs).length<=12:=Nat.le_trans pq hg;unfold gB;refine kU hS (ve rfl ?_);simp only[cv,fw,List.map,List.length,List.replicate,List.cons_append,List.nil_append,Nat.reduceAdd,Nat.reduceSub];unfold kf;refine aA <| a_ (by simp) <| bV (d:=Co c l) (bf (ds:=[bG l gs os]) rfl (Ah NO hc uZ)) ⟨_,rfl,?_⟩
 simp only[List.set];refine aA <| a_ (by simp) <| cF <| ax <| bV (d:=bG l gs os) rfl <| ax <| bV (d:=Co c l) rfl <| ax <| bV (d:= .tup (([]:List Int).map .int)) (dI rfl (by simp)) <| b_ <| Ay NO hc ho hS ⟨_,rfl,?_⟩
 simp only[List.set];refine aA <| a_ (by simp) <| js (ds:=[]) rfl ⟨_,rfl,?_⟩
 simp only[List.set];have Q0:lP (S++[SO.lst []]):=lP.push hS (pZ _);refine aA <| eT <| pI <| cF <| ax <| bV (d:= .lst ((mv gs).map nI)) (bf (ds:=[bG l gs os]) rfl ?_) <| ax <| bV (d:=nI m) rfl <| b_ <| t8 (qB gs) F0 (by omega) Q0 ⟨_,rfl,?_⟩
 .unfold de jJ;exact dv (cL (cX (yw NO.hg rfl)))
 have hAl:=oh F0 m;have hAs:=wZ (free:=mv gs) (m:=m) (by omega)
 generalize hPl:D.lst (os.map (rX (2 ^ c) (Wd c l gs [] [])))=Pl;unfold pJ at h;generalize hB:BT safe c l gs os=B at h;generalize jG (mv gs) m=A at hAl hAs h;have hA2:(m+1)*4096<=16384:=Nat.mul_le_mul_right 4096 (by omega:m+1<=4)
 refine(bM (fun i δ S2=>lP S2/\∃(U:aH) (a6 a7:Option V3),S2=S++SO.lst ((pP B (A.take i)).map aR) ::U/\δ=qE (bG l gs os) (nI m) (.str (lE safe)) (Co c l) Pl S.length a6 a7)
  ⟨Q0,[],none,none,rfl,rfl⟩ ?_).mono fun o S2 ⟨du,eW,hcl,U,a6,a7,xg,hδ⟩=>⟨du,eW,?_⟩
 .rintro i v δ S2 hv ⟨hcl,U,a6,a7,rfl,rfl⟩;obtain⟨T,hT,rfl⟩:=NT.f6 hv;have hil:=(List.getElem?_eq_some_iff.mp hT).1;have Ml:∀o∈pP B (A.take i),o.length < 1000:=qC fun T hT=>hAs T (List.mem_of_mem_take hT)
  have RO:(pP B (A.take i)).length<=16384:=by
   have:=qR B (A.take i) [];rw[List.length_take] at this;unfold pP;simp only[List.length_nil] at this;omega
  rw[List.take_add_one,hT];rw[show(some T).toList=[T] from rfl,yk]
  generalize pP B (A.take i)=f at Ml RO hcl;have hg0:(S++SO.lst (f.map aR) ::U)[S.length]? =some (.lst (f.map aR)):=by rw[List.getElem?_append_right (Nat.le_refl _),Nat.sub_self];rfl
  refine⟨qE (bG l gs os) (nI m) (.str (lE safe)) (Co c l) Pl S.length (some (.d (aR T))) a7,rfl,?_⟩;unfold mj;refine aA <| a_ (by unfold qE;simp only[List.length_cons,List.length_nil];omega) <| NJ (ds:=(f.filter (subB T)).map aR) (cT (ds:=f.map aR) (fj (uj rfl (dU hg0))) (by rw[List.length_map];omega) (NT.dN (subB T) aR aR fun o ho=>⟨[.val (aR o), .val (aR T)],rfl,Ia (Ml o ho) rfl rfl,fun _=>rfl⟩)) (L4 _) ⟨_,rfl,?_⟩
  have F6:lP (S++SO.lst (f.map aR) ::U++[SO.lst ((f.filter (subB T)).map aR)]):=lP.push hcl (pZ _);have VA:∀W:aH,(S++SO.lst (f.map aR) ::U++W)[S.length]? =some (.lst (f.map aR)):=fun W=>by rw[List.append_assoc,List.getElem?_append_right (Nat.le_refl _),Nat.sub_self];rfl
  have has:∀(f':List (List Nat)) W,S++SO.lst (f'.map aR) ::U++W=S++SO.lst (f'.map aR) ::(U++W):=fun f' W=>by rw[List.append_assoc];rfl
  have hemp:(f.filter (subB T)).isEmpty=!(f.any (subB T)):=by
   rw[Bool.eq_iff_iff,List.isEmpty_iff,List.filter_eq_nil_iff];simp
  refine j0 <| IK <| La (b:=(f.filter (subB T)).isEmpty) (eD (a:= .lst ((f.filter (subB T)).map aR)) (b:= .lst []) (uj rfl (dU (ba _ _))) rfl (vn (LJ _))) ?_
  rw[hemp];unfold x5;cases hany:f.any (subB T) with
  | true=>exact .inl ⟨rfl,by rw[if_neg (by decide)];exact fO ⟨_,rfl,F6,U++_,_,_,has _ _,rfl⟩⟩
  | false=>
    refine .inr ⟨rfl,Ki <| rj <| ax <| bV (d:=Pl) rfl <| ax <| cF <| ax <| bV (d:=bG l gs os) rfl <| ax <| bV (d:=Co c l) rfl <| ax <| bV (d:= .tup ((nZ T).map .int)) (by rw[GU];rfl) <| b_ <| Ay NO hc ho F6 <| ax <| bV (d:= .str (lE safe)) rfl <| b_ ⟨[Pl,_,_],_,rfl,(by rw[<-hPl];exact FN hO F3),bV (d:= .int 0) rfl ⟨_,_,_,rfl,rfl,U6 _ _,?_⟩⟩⟩
    have hBT:(!(decide (eJ (2 ^ c) (N9 safe c l gs os (nZ T))=0)))=B T:=by rw[<-hB];rfl
    rw[hBT,if_neg (show ¬(false=true) by decide)]
    cases B T with
    | true=>
      rw[if_pos rfl,if_pos rfl];refine nU (k:=S.length) rfl ⟨_,VA _⟩ <| bV (d:=aR T) rfl ⟨_,_,rfl,VA _,by rw[List.length_map];omega,_,rfl,lP.set F6 _ (pZ _),U++[SO.lst ((f.filter (subB T)).map aR)],_,_,?_,rfl⟩
      rw[has,List.set_append_right _ _ (Nat.le_refl _),Nat.sub_self,List.map_append];rfl
    | false=>
      rw[if_neg (by decide),if_neg (by decide)]
      exact fO ⟨_,rfl,F6,U++_,_,_,has _ _,rfl⟩
 .subst hδ xg;rw[List.length_map,List.length_map,List.take_length];unfold qE;refine dC <| w_var (v:= .loc S.length) rfl ⟨_,rfl,?_,⟨_,rfl⟩,_,dU (by rw[List.getElem?_append_right (Nat.le_refl _),Nat.sub_self];rfl),h⟩
  show decide (S.length<=S.length)=true;exact decide_eq_true (Nat.le_refl _)
def yE(nt mm lv:D)(n:Nat)(a5 a6:Option V3):DE:=[some (.d nt),some (.d mm),some (.d lv),some (.loc n),some (.loc (n+2)),a5,a6]
def YS(S:aH)(c:Nat)(l:List (Str × Nat))(gs:List Gt)(os:List (Str × List Nat))(f:List (List Nat)):aH:=S++[.ins 1 (iR c l gs os (S.length+1)), .ins 0 (fB c (bG l gs os)), .lst (f.map aR)]
theorem NX(hS:lP S)(f:List (List Nat)):lP (YS S c l gs os f):=by
 have:YS S c l gs os f=S++[.ins 1 (iR c l gs os (S.length+1)), .ins 0 (fB c (bG l gs os))]++[.lst (f.map aR)]:=by unfold YS;simp
 rw[this];refine lP.push (Oh hS ?_ rfl) (pZ _);show(decide (S.length+1 < S.length+2) && true)=true;rw[decide_eq_true (by omega)];rfl
theorem HB{mm:D}{f:List (List Nat)}{T:List Nat}{a5:Option V3}(NO:ke l gs os)(hc:l.length=c)(ho:∀x∈os,1<=x.2.length/\x.2.length<=3)(hS:lP S)(Ml:∀o∈f,o.length < 1000)(RO:f.length < 100000) :
 W3 (mU (yE (bG l gs os) mm (.str (lE safe)) S.length a5 (some (.d (aR T)))) (YS S c l gs os f)) fun o S2=>o= .nx (yE (bG l gs os) mm (.str (lE safe)) S.length a5 (some (.d (aR T))))/\S2=YS S c l gs os (x5 (BT safe c l gs os) f T):=by
 have hz:sizeLine=16777216:=sizeLine_eq;have hg:(YS S c l gs os f)[S.length+2]? =some (.lst (f.map aR)):=t3;have hk:(YS S c l gs os f)[S.length]? =some (.ins 1 (iR c l gs os (S.length+1))):=t1;have hb:(YS S c l gs os f)[S.length+1]? =some (.ins 0 (fB c (bG l gs os))):=t2;unfold mU;refine j0 <| La (b:=f.any (subB T)) ?_ ?_
 .have e:bw HL (az (eNew (dj (cI (ab 4)) (aS 0) sM (bw j4 (az (ab 1) (az (ab 0) bb))) ["others"] [6])) bb) (cO (YS S c l gs os f) (yE (bG l gs os) mm (.str (lE safe)) S.length a5 (some (.d (aR T)))))= .ok (.bl (f.any (subB T))):=by
   refine bf (ds:=[.lst ((f.map (subB T)).map .bl)]) (bc (cX (cT (ds:=f.map aR) (fj (uj rfl (dU hg))) (by rw[List.length_map];omega) ?_)) rfl) ?_
   .rw [List.map_map];exact NT.er aR _ fun o FW=>⟨[.val (aR o), .val (aR T)],rfl,rfl,bf (ds:=[aR T,aR o]) rfl (CO (Ml o FW))⟩
   .show(match bls? ((f.map (subB T)).map D.bl) with | some bs=>R.ok (D.bl (bs.any id)) | none=> .no)=_
    rw[vd];show R.ok (D.bl ((f.map (subB T)).any id))=_;rw[List.any_map];rfl
  unfold rF;rw[e];rfl
 unfold x5;cases hany:f.any (subB T) with
 | true=>rw [if_pos rfl,if_pos rfl];exact fO ⟨rfl,rfl⟩
 | false=>
   rw[if_neg (by decide),if_neg (by decide)]
   refine j0 <| Ki <| y8 (k:=S.length) <| w_var (v:= .loc S.length) rfl ⟨_,rfl,hk,Qk _ (by decide+kernel) (by decide+kernel) (by decide+kernel),?_⟩
   refine ax <| bV (d:= .tup ((nZ T).map .int)) (by rw[GU];rfl) <| ax <| bV (d:= .str (lE safe)) rfl <| b_ <| ET NO hc ho (NX hS f) hk hb <| bV (d:= .int 0) rfl ⟨_,_,_,rfl,rfl,U6 _ _,?_⟩
   show if BT safe c l gs os T then _ else _
   cases BT safe c l gs os T with
   | true=>
     rw[if_pos rfl,if_pos rfl];refine nU (k:=S.length+2) rfl ⟨_,hg⟩ <| bV (d:=aR T) rfl ⟨_,_,rfl,hg,by rw[List.length_map];omega,rfl,?_⟩
     unfold YS;rw[u3,List.map_append];rfl
   | false=>rw [if_neg (by decide),if_neg (by decide)];exact fO ⟨rfl,rfl⟩
theorem CG(NO:ke l gs os)(hc:l.length=c)(uZ:c<=10)(ho:∀x∈os,1<=x.2.length/\x.2.length<=3)(hg:gs.length<=12)(hm:m<=3)(hS:lP S){Q:V3->aH->Prop}(h:Q (.loc (S.length+2)) (YS S c l gs os (pJ safe c l gs os m))) :
 W3 (o7 [.d (bG l gs os), .d (nI m), .d (.str (lE safe))] S) Q:=by
 have hz:sizeLine=16777216:=sizeLine_eq;have F0:(mv gs).length<=12:=Nat.le_trans pq hg;unfold o7;refine ve rfl ?_;simp only[cv,iT,List.map,List.length,List.replicate,List.cons_append,List.nil_append,Nat.reduceAdd,Nat.reduceSub];unfold nF;refine aA <| a_ (by simp) <| G9 <| ax <| bV (d:=bG l gs os) rfl <| b_ <| Gw NO hc uZ ho hS ⟨rfl,_,rfl,?_⟩
 simp only[List.set];refine aA <| a_ (by simp) <| js (ds:=[]) rfl ⟨_,rfl,?_⟩
 simp only[List.set];have e0:TS S c l gs os++[SO.lst []]=YS S c l gs os []:=by unfold TS YS;simp
 have el:(TS S c l gs os).length=S.length+2:=by unfold TS;simp
 rw[e0,el];show W3 (aU _ _ (yE (bG l gs os) (nI m) (.str (lE safe)) S.length none none) _) _;generalize hB:BT safe c l gs os=B;have hbl:∀i,i<=4->∀j,(pP B ((List.range i).flatMap (gn (mv gs))++(gn (mv gs) i).take j)).length<=32768:=fun i hi j=>by
  have h1:=qR B ((List.range i).flatMap (gn (mv gs))++(gn (mv gs) i).take j) [];have h2:(List.range i).flatMap (gn (mv gs))=if i=0 then [] else jG (mv gs) (i - 1):=by
   cases i with
   | zero=>rfl
   | succ i=>rw [if_neg (by omega)];rfl
  have h3:((List.range i).flatMap (gn (mv gs))).length<=16384:=by
   rw[h2];split
   .simp
   .have:=oh F0 (i - 1);have:(i - 1+1)*4096<=4*4096:=Nat.mul_le_mul_right _ (by omega)
    omega
  have h4:((gn (mv gs) i).take j).length<=4096:=by
   rw[List.length_take];have:=ll i (mv gs);have:2 ^ (mv gs).length<=4096:=Nat.pow_le_pow_right (by omega) (by omega:(mv gs).length<=12)
   omega
  rw[List.length_append] at h1;unfold pP;simp only[List.length_nil] at h1;omega
 refine aA <| eT <| lH (ds:=eY 0 (m+1)) (mY (n:=m+1) (au (a:=nI m) (b:= .int 1) rfl rfl rfl) (by omega)) ?_
 refine(bM (fun i δ S2=>S2=YS S c l gs os (pP B ((List.range i).flatMap (gn (mv gs))))/\∃a5 a6,δ=yE (bG l gs os) (nI m) (.str (lE safe)) S.length a5 a6)
  ⟨rfl,_,_,rfl⟩ ?_).mono fun o S2 ⟨du,eW,xg,a5,a6,hδ⟩=>⟨du,eW,?_⟩
 .rintro i v δ S2 hv ⟨rfl,a5,a6,rfl⟩;obtain⟨hi,rfl⟩:=NT.nG hv;refine⟨yE (bG l gs os) (nI m) (.str (lE safe)) S.length (some (.d (.int i))) a6,rfl,?_⟩;have hcs:eM 4 [.lst ((mv gs).map nI), .int i]= .ok (.lst ((gn (mv gs) i).map aR)):=vB 3 i (mv gs) (by omega) (by omega) (by omega)
  unfold rL;refine eT <| pI <| rj <| ax <| w_fld (k:=S.length) <| w_var (v:= .loc S.length) rfl ⟨_,_,rfl,t1,Mn,ax <| bV (d:= .int i) rfl <| b_ ⟨[.lst ((mv gs).map nI), .int i],_,rfl,hcs,_,rfl,?_⟩⟩
  refine(bM (fun j δ S3=>S3=YS S c l gs os (pP B ((List.range i).flatMap (gn (mv gs))++(gn (mv gs) i).take j))/\∃a6,δ=yE (bG l gs os) (nI m) (.str (lE safe)) S.length (some (.d (.int i))) a6)
   ⟨by simp,_,rfl⟩ ?_).mono fun o S3 ⟨ED,e3,EF,b6,xf⟩=>⟨ED,e3,?_,_,_,xf⟩
  .rintro j v δ S3 hv ⟨rfl,b6,rfl⟩;obtain⟨T,hT,rfl⟩:=NT.f6 hv;refine⟨yE (bG l gs os) (nI m) (.str (lE safe)) S.length (some (.d (.int i))) (some (.d (aR T))),rfl,?_⟩;refine(HB NO hc ho hS (qC fun o FW=>?_) (Nat.lt_of_le_of_lt (hbl i (by omega) j) (by omega))).mono fun o S4 ⟨e4,TY⟩=>⟨_,e4,?_,_,rfl⟩
   .rcases List.mem_append.mp FW with q | q
    .obtain⟨s,hs,hq⟩:=List.mem_flatMap.mp q;rw[List.mem_range] at hs;rw[(g9 hq).1];omega
    .rw [(g9 (List.mem_of_mem_take q)).1];omega
   .rw [TY,hB,List.take_add_one,hT,<-List.append_assoc,show(some T).toList=[T] from rfl,yk]
  .rw [List.length_map,List.length_map,List.take_length] at EF;rw[EF,List.range_succ,List.flatMap_append];simp
 .subst hδ xg;rw[NT.kz];unfold yE;refine dC <| w_var (v:= .loc (S.length+2)) rfl ⟨_,rfl,?_⟩
  rw[<-hB];exact h
theorem Cd(NO:ke l gs os)(hc:l.length=c)(uZ:c<=10)(ho:∀x∈os,1<=x.2.length/\x.2.length<=3)(hg:gs.length<=12)(hm:m<=3)(hS:lP S){Q:V3->aH->Prop}(h:Q (.d (.lst ((pJ safe c l gs os m).map aR))) S) :
 W3 (lB [.d (bG l gs os), .d (nI m), .d (.str (lE safe))] S) Q:=by
 have e:lB [.d (bG l gs os), .d (nI m), .d (.str (lE safe))] S=n6 iT nF [.d (bG l gs os), .d (nI m), .d (.str (lE safe))] S:=rfl;rw[e];refine kU hS ?_;refine CG NO hc uZ ho hg hm hS ⟨?_,⟨_,rfl⟩,_,dU t3,h⟩;show decide (S.length<=S.length+2)=true;exact decide_eq_true (by omega)
end
end K22
end
section
namespace K22
open PySem PySem.Spec PyProof.Rows L2 L3 MT
section
variable {c:Nat} {ins:List (Str × Nat)} {gs:List Gt} {os:List (Str × List Nat)}
theorem Iq{x:Str × List Nat}{p:Nat}(hl:1<=x.2.length/\x.2.length<=3)(h2:∀a b,x.2=[a,b]->c_ (Wd c ins gs [] []) a p=c_ (Wd c ins gs [] []) b p):(pt (Wd c ins gs [] []) x p).2=!(pt (Wd c ins gs [] []) x p).1:=by
 unfold pt tell;rw[List.map_map];obtain⟨s,ws⟩:=x
 match ws,hl,h2 with
 | [a],_,_=>show c_ _ a p=!(!(c_ _ a p));rw [Bool.not_not]
 | [a,b],_,h2=>
   show(c_ (Wd c ins gs [] []) a p && c_ (Wd c ins gs [] []) b p)=!(!(c_ (Wd c ins gs [] []) a p || c_ (Wd c ins gs [] []) b p))
   rw[h2 a b rfl];cases c_ (Wd c ins gs [] []) b p <;> rfl
 | [a,b,d],_,_=>
   show _=!(!_);rw[Bool.not_not];rfl
theorem DN.no(h:DN ins gs os)(hi:ins.length < 100)(hg:gs.length < 1000):ke ins gs os:=⟨hi,fun x hx=>by have:=(h.li x hx).1;omega,hg,h.gg,by have:=h.oL;omega,fun x hx=>⟨by have:=(h.oo x hx).1.1;omega,(h.oo x hx).1.2.1⟩⟩
theorem DN.w3(h:DN ins gs os):∀x∈os,1<=x.2.length/\x.2.length<=3:=fun x hx=>(h.oo x hx).1.1
theorem DN.sd(h:DN ins gs os)(hc:ins.length=c):∀x∈os,∀p,(pt (Wd c ins gs [] []) x p).2=!(pt (Wd c ins gs [] []) x p).1:=fun x hx p=>Iq (h.w3 x hx) fun a b Dc=>(h.oo x hx).1.2.2 a b Dc (ju c) (by rw[oE,hc]) p
theorem MW{x:Str × Nat}(h:KY x):eu 1 (MT.inD x):=eu.tup fun d hd=>by
 simp only[List.mem_cons,List.not_mem_nil,or_false] at hd;rcases hd with rfl | rfl
 .exact h.2
 .exact eu.int _
theorem NH{x:Str × List Nat}(h:eu 0 (.str x.1)):eu 2 (Bv x):=eu.tup fun d hd=>by
 simp only[List.mem_cons,List.not_mem_nil,or_false] at hd;rcases hd with rfl | rfl
 .exact h.mono (by omega)
 .exact eu.tup fun d hd=>by obtain⟨z,_,rfl⟩:=List.mem_map.mp hd;exact eu.int _
theorem DN.fit(h:DN ins gs os):eu 4 (bG ins gs os):=eu.tup fun d hd=>by
 simp only[List.mem_cons,List.not_mem_nil,or_false] at hd;rcases hd with rfl | rfl | rfl
 .exact eu.lst fun d hd=>by obtain⟨x,hx,rfl⟩:=List.mem_map.mp hd;exact(MW (h.li x hx)).mono (by omega)
 .exact eu.lst fun d hd=>by obtain⟨x,hx,rfl⟩:=List.mem_map.mp hd;exact Gg
 .exact eu.lst fun d hd=>by obtain⟨x,hx,rfl⟩:=List.mem_map.mp hd;exact NH (h.oo x hx).2
theorem DN.eq(h:DN ins gs os):jm (bG ins gs os) (bG ins gs os)= .ok (.bl true):=NT.eq_self h.fit (by omega)
end
def HS(n:Nat)(S:aH):Prop:=Flat S/\S.length=n/\∀k,k < n->zI k S
theorem Kn(cs:List Int)(hc:cs.length<=63){Q:V3->aH->Prop}(h:∀(n:Nat) S1,0 < n->HS n S1->Q (.lst ((List.range n).map .loc)) S1):W3 (lr [.d (.lst (cs.map .int))] []) Q:=by
 have hz:sizeLine=16777216:=sizeLine_eq;unfold lr;refine ve rfl ?_;simp only[cv,kr,List.map,List.length,List.replicate,List.cons_append,List.nil_append,Nat.reduceAdd,Nat.reduceSub];unfold qf;cases cs with
 | nil=>
   refine GZ (j0 (dt (b:=true) rfl ?_));rw[if_pos rfl];refine dC (QQ (ax (js (ds:=[.int 0, .int 0]) (lj rfl (by simp;omega)) (b_ ⟨by simp;omega,_,rfl,_,rfl,?_⟩))))
   refine h 1 _ (by omega) ⟨AA _,rfl,fun k hk=>⟨AA _,0,0,?_⟩⟩
   .obtain rfl:k=0:=by omega
    rfl
 | cons c cs=>
   refine aA (j0 (dt (b:=false) ?_ ?_))
   .refine eD (a:= .int ((c ::cs).length:Nat)) (b:= .int 0) ?_ rfl ?_
    .exact bf (ds:=[.lst ((c ::cs).map .int)]) rfl (by rw[sW,List.length_map])
    .have:¬(((c ::cs).length:Int)=0):=by rw[List.length_cons];omega
     show R.ok (D.bl (decide (((c ::cs).length:Int)=0)))=_;rw[decide_eq_false this]
   rw[if_neg (by decide)]
   refine fO ⟨_,rfl,dC (IB (lH (ds:=(c ::cs).map .int) ?_ ⟨by simp at hc ⊢;omega,?_⟩))⟩
   .refine fj (Cm (d:= .lst ((c ::cs).map .int)) (lo:=none) (hi:=some 63) rfl rfl rfl ?_);show R.ok (D.lst (L2.cutD _ none (some 63)))=_;rw[HN _ (by omega),List.take_of_length_le (by simp at hc ⊢;omega)]
   generalize hcc:c ::cs=cc at hc;have hpos:0 < cc.length:=by rw[<-hcc];simp
   refine(yb (fun i ys S=>ys=(List.range i).map V3.loc/\Flat S/\S.length=i/\∀k,k < i->∃a c,S[k]? =some (.lst [.int a, .int c])) ⟨rfl,(by intro o ho;cases ho),rfl,fun k hk=>(by omega)⟩ ?_).mono fun ys S2 ⟨e,hL,hl,hp⟩=>⟨_,rfl,?_⟩
   .rintro i v ys S hv ⟨rfl,hL,hl,hp⟩;obtain⟨d,hd,rfl⟩:=List.mem_map.mp (List.mem_of_getElem? hv);obtain⟨x,_,rfl⟩:=List.mem_map.mp hd;refine⟨_,rfl,ui ?_⟩;rw[if_pos rfl];refine js (ds:=[.int x, .int 0]) (lj rfl (by simp;omega)) ⟨?_,hL.push (pZ _),by simp [hl],fun k hk=>?_⟩
    .rw [List.range_succ,List.map_append,hl];rfl
    .by_cases hki:k < i
     .obtain⟨a,c,e⟩:=hp k hki;exact⟨a,c,by rw[List.getElem?_append_left (by omega)];exact e⟩
     .obtain rfl:k=i:=by omega
      refine⟨x,0,?_⟩;rw[<-hl];exact ba _ _
   .rw [List.length_map,List.length_map] at e hl hp;have hm:uh ys= .lst ((List.range cc.length).map .loc):=by
     rw[e];obtain⟨m,hm⟩:∃m,cc.length=m+1:=⟨cc.length - 1,by omega⟩
     rw[hm,List.range_succ_eq_map,List.map_cons];rfl
    rw[hm];exact h cc.length S2 hpos ⟨hL,hl,fun k hk=>⟨hL,hp k hk⟩⟩
theorem HS.ev{n k:Nat}{S S1:aH}(h:HS n S)(hk:k < n)(v:Ev k S S1):HS n S1:=⟨v.p.1,by rw[v.len];exact h.2.1,fun j hj=>by
 by_cases q:j=k
 .subst q;exact v.p
 .obtain⟨_,a,c,e⟩:=h.2.2 j hj;exact⟨v.p.1,a,c,by rw[v.oth j q];exact e⟩⟩
end K22
end
section
namespace K22
open PySem PySem.Spec PyProof.Rows L2 L3 MT
def hit(T G:List Nat):Bool:=G.any fun x=>T.contains x
def gQ(groups:List (List Nat))(T:List Nat):Bool:=groups.all (hit T)
theorem DU{T G:List Nat}:hit T G=true↔∃x∈G,x∈T:=by
 unfold hit;rw[List.any_eq_true];exact⟨fun⟨x,h1,h2⟩=>⟨x,h1,by simpa using h2⟩,fun⟨x,h1,h2⟩=>⟨x,h1,by simpa using h2⟩⟩
theorem ic{groups:List (List Nat)}{T:List Nat}:gQ groups T=true↔∀G∈groups,∃x∈G,x∈T:=by
 unfold gQ;rw[List.all_eq_true];exact⟨fun h G hG=>DU.mp (h G hG),fun h G hG=>DU.mpr (h G hG)⟩
structure Good (free:List Nat) (groups:List (List Nat)):Prop where
 so:free.Pairwise (· < ·)
 g:∀G∈groups,G≠[]/\G.Sublist free
def gD(G:List Nat):D:= .lst (G.map nI)
def uA(groups:List (List Nat)):D:= .lst (groups.map gD)
def dK(ks:List Nat):List (Key × D):=ks.map fun(k:Nat)=>((Sum.inl (k:Int):Key),D.bl true)
def sJ(ks:List Nat)(x:Nat):List Nat:=if ks.contains x then ks else ks++[x]
theorem NA(k x:Nat):decide ((Sum.inl (k:Int):Key)=Sum.inl (x:Int))=(k==x):=by
 by_cases q:k=x
 .subst q;simp
 .have:¬(Sum.inl (k:Int):Key)=Sum.inl (x:Int):=fun e=>q (by have:=Sum.inl.inj e;omega)
  rw[decide_eq_false this];exact(beq_eq_false_iff_ne.mpr q).symm
theorem Gx(ks:List Nat)(x:Nat):((dK ks).any fun kv=>decide (kv.1=(Sum.inl (x:Int):Key)))=ks.contains x:=by
 unfold dK;rw[List.any_map]
 induction ks with
 | nil=>rfl
 | cons k ks ih=>
   rw[List.any_cons,List.contains_cons,ih];congr 1;show decide ((Sum.inl (k:Int):Key)=Sum.inl (x:Int))=(x==k);rw[NA];rw[Bool.eq_iff_iff,beq_iff_eq,beq_iff_eq];exact⟨Eq.symm,Eq.symm⟩
theorem HX(ks:List Nat)(x:Nat):Bh (dK ks) (Sum.inl (x:Int)) (.bl true)=dK (sJ ks x):=by
 unfold Bh;rw[Gx];unfold sJ;by_cases q:ks.contains x=true
 .rw [if_pos q,if_pos q];unfold dK;rw[List.map_map];refine List.map_congr_left fun k _=>?_
  show(if(Sum.inl (k:Int):Key)=Sum.inl (x:Int) then((Sum.inl (k:Int):Key),D.bl true) else((Sum.inl (k:Int):Key),D.bl true))=_
  split <;> rfl
 .rw [if_neg q,if_neg q];unfold dK;rw[List.map_append];rfl
theorem z9{ks:List Nat}{x y:Nat}:y∈sJ ks x↔y∈ks\/y=x:=by
 unfold sJ;split
 .rename_i h;have h:x∈ks:=by simpa using h
  exact⟨.inl,fun z=>z.elim id fun e=>by subst e;exact h⟩
 .simp
theorem K7{ks:List Nat}{x:Nat}(h:ks.Nodup):(sJ ks x).Nodup:=by
 unfold sJ;split
 .exact h
 .rename_i hx;have hx:x ∉ ks:=by simpa using hx
  rw[List.nodup_append];exact⟨h,by simp,fun a ha b hb=>by rw[List.mem_singleton.mp hb];intro e;subst e;exact hx ha⟩
theorem G8{ks:List Nat}{x:Nat}:(sJ ks x).length<=ks.length+1:=by unfold sJ;split <;> simp
def lJ(ks G:List Nat):List Nat:=G.foldl sJ ks
theorem qi:∀{G ks:List Nat} {y:Nat},y∈lJ ks G↔y∈ks\/y∈G
 | [],ks,y=>by simp [lJ]
 | x ::G,ks,y=>by
   show y∈lJ (sJ ks x) G↔_;rw[qi,z9,List.mem_cons,or_assoc]
theorem qu:∀{G ks:List Nat},(lJ ks G).length<=ks.length+G.length
 | [],ks=>by simp [lJ]
 | x ::G,ks=>by
   show(lJ (sJ ks x) G).length<=_;have:=qu (G:=G) (ks:=sJ ks x);have:=G8 (ks:=ks) (x:=x);rw[List.length_cons];omega
theorem xA{T:List Nat}{p q:Nat->Bool}(h:∀x∈T,p x=true->q x=true){x:Nat}(hx:x∈T)(h1:p x=false)(h2:q x=true):(T.filter p).length+1<=(T.filter q).length:=by
 induction T with
 | nil=>cases hx
 | cons y T ih=>
   rcases List.mem_cons.mp hx with rfl | OK
   .have hle:(T.filter p).length<=(T.filter q).length:=by
     clear ih hx
     induction T with
     | nil=>exact Nat.le_refl _
     | cons z T ih=>
       have ih':=ih fun w hw=>h w (by rcases List.mem_cons.mp hw with e | e;exact e▸List.mem_cons_self;exact List.mem_cons_of_mem _ (List.mem_cons_of_mem _ e))
       have hz:=h z (List.mem_cons_of_mem _ List.mem_cons_self);rw[List.filter_cons,List.filter_cons];cases hp:p z with
       | true=>rw [if_pos rfl,if_pos (hz hp),List.length_cons,List.length_cons];omega
       | false=>
         rw[if_neg (by decide)]
         split
         .rw [List.length_cons];omega
         .exact ih'
    rw[List.filter_cons,if_neg (by rw[h1];decide),List.filter_cons,if_pos h2,List.length_cons]
    omega
   .have ih':=ih (fun z hz=>h z (List.mem_cons_of_mem _ hz)) OK
    have hy:=h y List.mem_cons_self;rw[List.filter_cons,List.filter_cons];cases hp:p y with
    | true=>rw [if_pos rfl,if_pos (hy hp),List.length_cons,List.length_cons];omega
    | false=>
      rw[if_neg (by decide)]
      split
      .rw [List.length_cons];omega
      .exact ih'
section
variable {S:aH} {groups:List (List Nat)} {free:List Nat}
def cE(gs:D)(n:Nat)(c:D)(a3 a4:Option V3):DE:=[some (.d gs),some (.loc n),some (.d c),a3,a4]
theorem Ib(hG:Good free groups)(hf:free.length<=12)(hl:groups.length<=20000)(hS:lP S){Q:V3->aH->Prop}
 (h:∀c:Nat,(∀T,gQ groups T=true->c<=T.length)->(groups≠[]->1<=c)->Q (.d (nI c)) S):W3 (ib [.d (uA groups)] S) Q:=by
 have hz:sizeLine=16777216:=sizeLine_eq;unfold ib;refine kU hS (ve rfl ?_);simp only[cv,gx,List.map,List.length,List.replicate,List.cons_append,List.nil_append,Nat.reduceAdd,Nat.reduceSub];unfold lI;refine aA <| a_ (by simp) <| GX ⟨_,rfl,?_⟩
 simp only[List.set];refine aA <| a_ (by simp) <| bV (d:=nI 0) rfl ⟨_,rfl,?_⟩
 simp only[List.set];refine aA <| eT <| lH (ds:=groups.map gD) (fj rfl) ?_
 refine(bM (fun i δ S2=>∃(ks:List Nat) (c:Nat) (a3 a4:Option V3),S2=S++[SO.dct (dK ks)]/\ks.length<=12*i/\(∀T,gQ groups T=true->c<=(T.filter fun x=>ks.contains x).length)/\(0 < i->1<=c)/\(i=0->ks=[])/\δ=cE (uA groups) S.length (nI c) a3 a4)
  ⟨[],0,none,none,rfl,by simp,fun T _=>by omega,fun z=>by omega,fun _=>rfl,rfl⟩ ?_).mono fun o S2 ⟨du,eW,ks,c,a3,a4,xg,hkl,hc,uZ,_,hδ⟩=>⟨du,eW,?_⟩
 .rintro i v δ S2 hv ⟨ks,c,a3,a4,rfl,hkl,hc,uZ,XF,rfl⟩;obtain⟨G,hGi,rfl⟩:=NT.f6 hv;have hil:=(List.getElem?_eq_some_iff.mp hGi).1;have zB:=List.mem_of_getElem? hGi;obtain⟨hGn,hGs⟩:=hG.g G zB;have hGl:G.length<=12:=Nat.le_trans hGs.length_le hf;have hg:(S++[SO.dct (dK ks)])[S.length]? =some (.dct (dK ks)):=ba _ _;refine⟨cE (uA groups) S.length (nI c) (some (.d (gD G))) a4,rfl,?_⟩;unfold nX;refine j0 <| w_not <| LK <| rj <| ax <| lA (fun j ds S3=>S3=S++[SO.dct (dK ks)]/\ds=((G.map fun x=>ks.contains x).take j).map .bl) (lH (ds:=G.map nI) (fj rfl) ⟨by rw[List.length_map,List.length_map];omega,⟨rfl,by simp⟩,?_,?_⟩)
  .rintro j u ds S3 hu ⟨rfl,rfl⟩;obtain⟨x,hx,rfl⟩:=NT.f6 hu;refine⟨[some (.d (nI x)),some (.loc S.length)],rfl,ui ?_⟩;rw[if_pos rfl];refine QL <| bV (d:=nI x) rfl <| w_var (v:= .loc S.length) rfl ⟨_,_,_,rfl,rfl,hg,_,rfl,rfl,?_⟩
   rw[Gx,List.take_add_one,List.getElem?_map,hx,List.map_append];rfl
  .rintro ds S3 ⟨rfl,rfl⟩;rw[List.length_map,List.length_map,List.take_of_length_le (by simp)]
   refine b_ ⟨[.lst ((G.map fun x=>ks.contains x).map .bl)], .bl (G.any fun x=>ks.contains x),rfl,?_,_,_,rfl,rfl,?_⟩
   .show(match bls? ((G.map fun x=>ks.contains x).map D.bl) with | some bs=>R.ok (D.bl (bs.any id)) | none=> .no)=_
    rw[vd];show R.ok (D.bl ((G.map fun x=>ks.contains x).any id))=_
    rw[List.any_map];rfl
   cases hany:G.any fun x=>ks.contains x with
   | true=>
     rw[if_neg (by decide)]
     refine fO ⟨_,rfl,ks,c,_,_,rfl,by omega,hc,fun _=>?_,fun z=>by omega,rfl⟩
     refine uZ (Nat.pos_of_ne_zero fun z=>?_)
     rw[XF z] at hany;obtain⟨x,_,hx⟩:=List.any_eq_true.mp hany;simp at hx
   | false=>
     rw[if_pos (by decide)]
     have hdis:∀x∈G,ks.contains x=false:=fun x hx=>by
      cases q:ks.contains x with
      | false=>rfl
      | true=>have:=List.any_eq_true.mpr ⟨x,hx,q⟩;rw [hany] at this;cases this
     refine aA <| a_ (by unfold cE;simp only[List.length_cons,List.length_nil];omega) <| bV (d:=nI (c+1)) (au (a:=nI c) (b:= .int 1) rfl rfl rfl) ⟨_,rfl,?_⟩
     show W3 (iC _ _ _ (cE (uA groups) S.length (nI (c+1)) (some (.d (gD G))) a4) _) _;refine eT <| lH (ds:=G.map nI) (fj rfl) ?_
     refine(bM (fun j δ S3=>∃b4,S3=S++[SO.dct (dK (lJ ks (G.take j)))]/\δ=cE (uA groups) S.length (nI (c+1)) (some (.d (gD G))) b4)
      ⟨a4,rfl,rfl⟩ ?_).mono fun o S3 ⟨ED,e3,b4,EF,xf⟩=>⟨ED,e3,lJ ks G,c+1,some (.d (gD G)),b4,?_,?_,?_,fun _=>by omega,fun z=>by omega,xf⟩
     .rintro j u δ S3 hu ⟨b4,rfl,rfl⟩;obtain⟨x,hx,rfl⟩:=NT.f6 hu;refine⟨cE (uA groups) S.length (nI (c+1)) (some (.d (gD G))) (some (.d (nI x))),rfl,?_⟩;unfold nP;have hlen:=qu (G:=G.take j) (ks:=ks);rw[List.length_take] at hlen;refine HQ <| bV (d:= .bl true) rfl <| w_var (v:= .loc S.length) rfl <| bV (d:=nI x) rfl ⟨_,_,_,_,rfl,rfl,rfl,ba _ _,by unfold dK;rw [List.length_map];omega,_,rfl,_,?_,rfl⟩
      rw[dg,HX,List.take_add_one,hx];unfold lJ;rw[List.foldl_append];rfl
     .rw [List.length_map,List.length_map,List.take_length] at EF;exact EF
     .have:=qu (G:=G) (ks:=ks);omega
     .intro T hT;obtain⟨x,LA,hxT⟩:=ic.mp hT G zB;have h1:=hc T hT;have h2:=xA (T:=T) (p:=fun x=>ks.contains x) (q:=fun x=>(lJ ks G).contains x) (fun y _ hy=>by
       have hy:y∈ks:=by simpa using hy
       simpa using qi.mpr (.inl hy)) hxT (hdis x LA) (by simpa using qi.mpr (.inr LA))
      omega
 .subst hδ xg;rw[List.length_map,List.length_map] at uZ;unfold cE;refine dC <| bV (d:=nI c) rfl ⟨_,rfl,by unfold gf;rfl,⟨_,rfl⟩,_,by unfold res;rfl,h c (fun T hT=>Nat.le_trans (hc T hT) (List.length_filter_le _ _)) fun xS=>uZ (List.length_pos_iff.mpr xS)⟩
end
end K22
end
section
namespace K22
open PySem PySem.Spec PyProof.Rows L2 L3 MT
def fr(free:List Nat)(x:Nat):List Nat:=free.filter fun y=>decide (y > x)
def left(groups:List (List Nat))(x:Nat):List (List Nat):=(groups.filter fun G=>!G.contains x).map fun G=>fr G x
def kL(free:List Nat)(s:Nat)(groups:List (List Nat)):Option (List Nat):=(gn free s).find? (gQ groups)
def Kv(free:List Nat)(groups:List (List Nat))(m:Nat):Option (List Nat)->Prop
 | none=>∀T:List Nat,T.Sublist free->gQ groups T=true->m < T.length
 | some T0=>T0.Sublist free/\gQ groups T0=true/\T0.length<=m/\((∀T:List Nat,T.Sublist free->gQ groups T=true->m<=T.length)->kL free m groups=some T0)
theorem DH:∀{T free:List Nat},T.Sublist free->T∈gn free T.length
 | [],free,_=>by unfold gn;simp
 | x ::T,free,h=>by
   induction free with
   | nil=>cases h
   | cons y free ih=>
     have hstep:gn (y ::free) (x ::T).length=(gn free T.length).map (y ::·)++gn free (x ::T).length:=by
      show((List.range (y ::free).length).flatMap fun a=>(gn ((y ::free).drop (a+1)) T.length).map ((y ::free).getD a 0 ::·))=_
      rw[List.length_cons,List.range_succ_eq_map,List.flatMap_cons];congr 1;show(List.map Nat.succ (List.range free.length)).flatMap _=(List.range free.length).flatMap fun a=>(gn (free.drop (a+1)) T.length).map (free.getD a 0 ::·)
      rw[mX];rfl
     rw[hstep];cases h with
     | cons _ h=>exact List.mem_append_right _ (ih h)
     | cons_cons _ h=>exact List.mem_append_left _ (List.mem_map_of_mem (DH h))
theorem rM:∀(s:Nat) (free T:List Nat),T∈gn free s->T.Sublist free
 | 0,free,T,h=>by unfold gn at h;rw [List.mem_singleton.mp h];exact List.nil_sublist _
 | s+1,free,T,h=>by
   unfold gn at h;obtain⟨a,ha,h⟩:=List.mem_flatMap.mp h;obtain⟨R,hR,rfl⟩:=List.mem_map.mp h;rw[List.mem_range] at ha;have:=rM s _ R hR;have e:free.drop a=free.getD a 0 ::free.drop (a+1):=by
    rw[List.drop_eq_getElem_cons ha,List.getD_eq_getElem?_getD,List.getElem?_eq_getElem ha];rfl
   exact(e▸List.Sublist.cons_cons _ this).trans (List.drop_sublist a free)
theorem o5{free:List Nat}{x y:Nat}:y∈fr free x↔y∈free/\x < y:=by unfold fr;rw [List.mem_filter];simp
theorem IX{free R:List Nat}{x:Nat}(hs:free.Pairwise (· < ·))(h:(x ::R).Sublist free):x∈free/\R.Sublist (fr free x):=by
 refine⟨h.subset List.mem_cons_self,?_⟩;have hp:=(hs.sublist h);have hR:R=R.filter fun y=>decide (y > x):=by
  rw[eq_comm,List.filter_eq_self];intro y hy;exact decide_eq_true ((List.pairwise_cons.mp hp).1 y hy)
 rw[hR];exact((List.sublist_cons_self x R).trans h).filter _
theorem yK{x:Nat}:∀{free:List Nat},free.Pairwise (· < ·)->x∈free->(x ::fr free x).Sublist free
 | [],_,h=>by cases h
 | y ::f,hs,h=>by
   obtain⟨h1,h2⟩:=List.pairwise_cons.mp hs;rcases List.mem_cons.mp h with rfl | hx
   .unfold fr;rw[List.filter_cons,if_neg (by simp)]
    exact List.Sublist.cons_cons _ List.filter_sublist
   .have hlt:=h1 x hx;unfold fr;rw[List.filter_cons,if_neg (by simp;omega)]
    exact(yK h2 hx).cons y
theorem vY{free R:List Nat}{x:Nat}(hs:free.Pairwise (· < ·))(hx:x∈free)(h:R.Sublist (fr free x)):(x ::R).Sublist free:=(List.Sublist.cons_cons x h).trans (yK hs hx)
theorem oQ{groups:List (List Nat)}{R:List Nat}{x:Nat}(hR:∀y∈R,x < y):gQ (left groups x) R=gQ groups (x ::R):=by
 rw[Bool.eq_iff_iff,ic,ic];constructor
 .intro h G hG;by_cases q:x∈G
  .exact⟨x,q,List.mem_cons_self⟩
  .obtain⟨y,h1,h2⟩:=h (fr G x) (List.mem_map.mpr ⟨G,List.mem_filter.mpr ⟨hG,by simpa using q⟩,rfl⟩)
   exact⟨y,(o5.mp h1).1,List.mem_cons_of_mem _ h2⟩
 .intro h G' OT;obtain⟨G,hG,rfl⟩:=List.mem_map.mp OT;obtain⟨hG,hx⟩:=List.mem_filter.mp hG;have hx:x ∉ G:=by simpa using hx
  obtain⟨y,h1,h2⟩:=h G hG;rcases List.mem_cons.mp h2 with rfl | h2
  .exact absurd h1 hx
  .exact⟨y,o5.mpr ⟨h1,hR y h2⟩,h2⟩
theorem vA{β:Type}{f:Nat->Option β}{v:β}{n a:Nat}(ha:a < n)(hv:f a=some v)(hn:∀b,b < a->f b=none):(List.range n).findSome? f=some v:=by
 rw[List.range_eq_range'];have:∀(m lo:Nat),lo<=a->a < lo+m->(List.range' lo m).findSome? f=some v:=by
  intro m
  induction m with
  | zero=>intro lo h1 h2;omega
  | succ m ih=>
    intro lo h1 h2;rw[List.range'_succ,List.findSome?_cons];by_cases q:lo=a
    .subst q;rw [hv]
    .rw [hn lo (by omega)]
     exact ih (lo+1) (by omega) (by omega)
 exact this n 0 (by omega) (by omega)
theorem xu{free:List Nat}(hs:free.Pairwise (· < ·))(s:Nat)(groups:List (List Nat)):kL free (s+1) groups=(List.range free.length).findSome? fun a=>(kL (fr free (free.getD a 0)) s (left groups (free.getD a 0))).map (free.getD a 0 ::·):=by
 unfold kL;show((List.range free.length).flatMap fun a=>(gn (free.drop (a+1)) s).map (free.getD a 0 ::·)).find? (gQ groups)=_
 rw[List.find?_flatMap];have cong:∀(xs:List Nat) (f g:Nat->Option (List Nat)),(∀x∈xs,f x=g x)->xs.findSome? f=xs.findSome? g:=by
  intro xs
  induction xs with
  | nil=>intro f g _;rfl
  | cons x xs ih=>intro f g h;rw [List.findSome?_cons,List.findSome?_cons,h x List.mem_cons_self,ih f g fun y hy=>h y (List.mem_cons_of_mem _ hy)]
 refine cong _ _ _ fun a ha=>?_
 rw[List.mem_range] at ha;have hd:free.drop (a+1)=fr free (free.getD a 0):=(ur hs ha).symm;rw[List.find?_map,hd];congr 1;have cf:∀(xs:List (List Nat)) (p q:List Nat->Bool),(∀x∈xs,p x=q x)->xs.find? p=xs.find? q:=by
  intro xs
  induction xs with
  | nil=>intro p q _;rfl
  | cons x xs ih=>intro p q h;rw [List.find?_cons,List.find?_cons,h x List.mem_cons_self,ih p q fun y hy=>h y (List.mem_cons_of_mem _ hy)]
 refine cf _ _ _ fun R hR=>?_
 show gQ groups (free.getD a 0 ::R)=_;exact(oQ fun y hy=>(o5.mp ((g9 hR).2 y hy)).2).symm
section
variable {free:List Nat} {groups:List (List Nat)} {last m:Nat} {ks:List Nat}
structure Nd (free:List Nat) (groups:List (List Nat)) (last:Nat) (ks:List Nat):Prop where
 good:Good free groups
 ne:groups≠[]
 up:∀G∈groups,∃y∈G,last<=y
 lo:∃G∈groups,∀y∈G,y<=last
 ks:∀x,x∈ks↔(∃G∈groups,x∈G)/\x<=last
theorem Nd.low(N:Nd free groups last ks){x:Nat}{R:List Nat}(hT:(x ::R).Sublist free)(hh:gQ groups (x ::R)=true):x<=last:=by
 obtain⟨G,hG,hl⟩:=N.lo;obtain⟨y,h1,h2⟩:=ic.mp hh G hG;have hy:=hl y h1;have hp:=N.good.so.sublist hT;rcases List.mem_cons.mp h2 with rfl | h2
 .exact hy
 .have:=(List.pairwise_cons.mp hp).1 y h2;omega
theorem Nd.skip(N:Nd free groups last ks){x:Nat}{R:List Nat}(hT:(x ::R).Sublist free)(hh:gQ groups (x ::R)=true)(hx:x ∉ ks):gQ groups R=true:=by
 have hl:=N.low hT hh;have hno:∀G∈groups,x ∉ G:=fun G hG LA=>hx ((N.ks x).mpr ⟨⟨G,hG,LA⟩,hl⟩)
 refine ic.mpr fun G hG=>?_
 obtain⟨y,h1,h2⟩:=ic.mp hh G hG;rcases List.mem_cons.mp h2 with rfl | h2
 .exact absurd h1 (hno G hG)
 .exact⟨y,h1,h2⟩
theorem Nd.left(N:Nd free groups last ks){x:Nat}(hx:x<=last):Good (fr free x) (left groups x):=by
 refine⟨N.good.so.filter _,fun G' OT=>?_⟩
 obtain⟨G,hG,rfl⟩:=List.mem_map.mp OT;obtain⟨hG,LA⟩:=List.mem_filter.mp hG;have LA:x ∉ G:=by simpa using LA
 obtain⟨y,hy,hly⟩:=N.up G hG;have xS:y≠x:=fun e=>LA (e▸hy)
 refine⟨fun e=>?_,(N.good.g G hG).2.filter _⟩
 have:y∈fr G x:=o5.mpr ⟨hy,by omega⟩
 rw[e] at this;cases this
theorem Nd.Vf(N:Nd free groups last ks)(h:∀x∈free.filter (fun x=>ks.contains x),Kv (fr free x) (K22.left groups x) m none):∀T:List Nat,T.Sublist free->gQ groups T=true->m+1 < T.length
 | [],_,hh=>by
   obtain⟨G,hG⟩:=List.exists_mem_of_ne_nil _ N.ne;obtain⟨y,_,hy⟩:=ic.mp hh G hG;cases hy
 | x ::R,hT,hh=>by
   obtain⟨hx,hR⟩:=IX N.good.so hT;by_cases q:x∈ks
   .have h1:=h x (List.mem_filter.mpr ⟨hx,by simpa using q⟩) R hR (by rw[oQ fun y hy=>(o5.mp (hR.subset hy)).2];exact hh)
    rw[List.length_cons];omega
   .have:=Nd.Vf N h R ((List.sublist_cons_self x R).trans hT) (N.skip hT hh q);rw[List.length_cons];omega
theorem Nd.yes(N:Nd free groups last ks){ys zs:List Nat}{x0:Nat}{R0:List Nat}(e:free.filter (fun x=>ks.contains x)=ys++x0 ::zs)(hy:∀y∈ys,Kv (fr free y) (K22.left groups y) m none)(h0:Kv (fr free x0) (K22.left groups x0) m (some R0)):Kv free groups (m+1) (some (x0 ::R0)):=by
 obtain⟨h1,h2,h3,h4⟩:=h0;have T5:x0∈free:=(List.mem_filter (p:=fun x=>ks.contains x) |>.mp (by rw[e];simp)).1
 have hgt:∀y∈R0,x0 < y:=fun y hy=>(o5.mp (h1.subset hy)).2
 refine⟨vY N.good.so T5 h1,by rw[<-oQ hgt];exact h2,by rw[List.length_cons];omega,fun xU=>?_⟩
 rw[xu N.good.so];obtain⟨a0,UC,hxa⟩:=List.mem_iff_getElem.mp T5;have hg0:free.getD a0 0=x0:=by rw[List.getD_eq_getElem?_getD,List.getElem?_eq_getElem UC,hxa];rfl
 refine vA UC ?_ fun b hb=>?_
 .rw [hg0,h4 fun R hR hh=>?_]
  .rfl
  .have:=xU (x0 ::R) (vY N.good.so T5 hR) (by rw[<-oQ fun y hy=>(o5.mp (hR.subset hy)).2];exact hh)
   rw[List.length_cons] at this;omega
 .have hbl:b < free.length:=by omega
  have hgb:free.getD b 0=free[b]:=by rw[List.getD_eq_getElem?_getD,List.getElem?_eq_getElem hbl];rfl
  rw[hgb];cases hf:kL (fr free free[b]) m (K22.left groups free[b]) with
  | none=>rfl
  | some R=>
    exfalso
    unfold kL at hf;have hRm:=List.mem_of_find?_eq_some hf;have hRh:=List.find?_some hf;have hRs:=rM _ _ _ hRm;have hRl:=(g9 hRm).1;have hbm:free[b]∈free:=List.getElem_mem hbl;have hlt:free[b] < x0:=by rw[<-hxa];exact List.pairwise_iff_getElem.mp N.good.so b a0 hbl UC hb
    have hT:=vY N.good.so hbm hRs;have hh:gQ groups (free[b] ::R)=true:=by rw[<-oQ fun y hy=>(o5.mp (hRs.subset hy)).2];exact hRh
    by_cases q:free[b]∈ks
    .have hin:free[b]∈free.filter (fun x=>ks.contains x):=List.mem_filter.mpr ⟨hbm,by simpa using q⟩
     rw[e] at hin;have Pg:(ys++x0 ::zs).Pairwise (· < ·):=by rw[<-e];exact N.good.so.filter _
     have hys:free[b]∈ys:=by
      rcases List.mem_append.mp hin with z | z
      .exact z
      .rcases List.mem_cons.mp z with z | z
       .omega
       .have:=(List.pairwise_cons.mp (List.pairwise_append.mp Pg).2.1).1 _ z;omega
     have:=hy _ hys R hRs hRh;omega
    .have h5:=xU R ((List.sublist_cons_self _ R).trans hT) (N.skip hT hh q);omega
end
end K22
end
section
namespace K22
open PySem PySem.Spec PyProof.Rows L2 L3 MT
theorem RZ(x:Nat)(ns:List Nat):Ep (nI x) (.lst (ns.map nI))= .ok (.bl (ns.contains x)):=by
 have h:Ep (.int (x:Int)) (.lst ((nZ ns).map .int))= .ok (.bl ((nZ ns).contains (x:Int))):=by
  show((match ints? ((nZ ns).map D.int) with | some ss=>R.ok (ss.contains (x:Int)) | none=> .no)).bind (fun b=>R.ok (D.bl b))=_
  rw[L2.ints_map];rfl
 rw[GU,GF] at h;exact h
theorem Qm(y x:Nat):Pn (nI y) (nI x)= .ok (.bl (decide (y > x))):=by
 show R.ok (D.bl (decide ((y:Int) > (x:Int))))=_;congr 2;by_cases q:y > x
 .rw [decide_eq_true q,decide_eq_true (by omega)]
 .rw [decide_eq_false q,decide_eq_false (by omega)]
theorem Tv(y x:Nat):SG (nI y) (nI x)= .ok (.bl (decide (y<=x))):=by
 show R.ok (D.bl (decide ((y:Int)<=(x:Int))))=_;congr 2;by_cases q:y<=x
 .rw [decide_eq_true q,decide_eq_true (by omega)]
 .rw [decide_eq_false q,decide_eq_false (by omega)]
theorem Fu{G:List Nat}{x:Nat}(hl:G.length < 1000):oa [gD G,nI x]= .ok (gD (fr G x)):=by
 have hz:sizeLine=16777216:=sizeLine_eq;unfold oa Bm;refine dv (cL (cX (cT (ds:=G.map nI) (fj rfl) (by rw[List.length_map];omega) ?_)))
 exact NT.dN (fun y=>decide (y > x)) nI nI fun y _=>⟨[.val (nI y), .val (nI x)],rfl,eD (a:=nI y) (b:=nI x) rfl rfl (Qm y x),fun _=>rfl⟩
theorem KJ{groups:List (List Nat)}{x:Nat}(hl:∀G∈groups,G.length < 1000)(hn:groups.length<=20000):gc [uA groups,nI x]= .ok (uA (left groups x)):=by
 have hz:sizeLine=16777216:=sizeLine_eq;unfold gc p7;refine dv (cL (cX (cT (ds:=groups.map gD) (fj rfl) (by rw[List.length_map];omega) ?_)))
 unfold left;rw[List.map_map];exact NT.dN (fun G:List Nat=>!G.contains x) gD _ fun G hG=>⟨[.val (gD G), .val (nI x)],rfl,eD (a:=nI x) (b:=gD G) rfl rfl (AI (RZ x G)),fun _=>bf (ds:=[gD G,nI x]) rfl (Fu (hl G hG))⟩
theorem Qa{G:List Nat}{l:Nat}(h:G.getLast? =some l):cb (gD G) (.int (-1))= .ok (nI l):=by
 refine wy ?_;unfold sR Bw;have hp:0 < G.length:=by
  cases G with
  | nil=>cases h
  | cons _ _=>simp
 rw[List.length_map,if_neg (by omega),if_pos (by omega)]
 show(G.map nI)[(((-1:Int))+(G.length:Int)).toNat]? =_;rw[List.getElem?_map,show((-1:Int)+(G.length:Int)).toNat=G.length - 1 by omega,<-List.getLast?_eq_getElem?,h]
 rfl
theorem yo{α:Type}{t:FG}{body:FZ}{S:aH}(g:α->V3)(E:DE->Prop)(N:α->Prop)(Y:α->V3->Prop):∀{xs:List α} {δ:DE},E δ->
 (∀x∈xs,∀δ,E δ->∃δ1,t (g x) δ=some δ1/\W3 (body δ1 S) fun o S1=>S1=S/\((∃du,o= .nx du/\E du/\N x)\/∃v,o= .rt v/\Y x v))->
 W3 (jU t body (xs.map g) δ S) fun o S1=>S1=S/\((∃du,o= .nx du/\E du/\∀x∈xs,N x)\/∃ys x zs v,xs=ys++x ::zs/\(∀y∈ys,N y)/\o= .rt v/\Y x v)
 | [],δ,h0,_=>W3.ok ⟨rfl, .inl ⟨δ,rfl,h0,fun x hx=>by cases hx⟩⟩
 | x ::xs,δ,h0,hs=>by
   obtain⟨δ1,e1,o,S1,eW,rfl,h2⟩:=hs x List.mem_cons_self δ h0;rw[List.map_cons];unfold jU;rw[e1];refine W3.bind ⟨_,_,eW,?_⟩;rcases h2 with⟨du,rfl,hE,hN⟩ | ⟨v,rfl,hY⟩
   .refine(yo g E N Y hE fun y hy=>hs y (List.mem_cons_of_mem _ hy)).mono fun o S2 ⟨eS,hq⟩=>⟨eS,?_⟩
    rcases hq with⟨ED,e3,XM,Xc⟩ | ⟨ys,z,zs,v,exs,hys,eo,hY⟩
    .exact .inl ⟨ED,e3,XM,fun y hy=>(List.mem_cons.mp hy).elim (fun e=>e▸hN) (Xc y)⟩
    .exact .inr ⟨x ::ys,z,zs,v,by rw[exs];rfl,fun y hy=>(List.mem_cons.mp hy).elim (fun e=>e▸hN) (hys y),eo,hY⟩
   .exact W3.ok ⟨rfl, .inr ⟨[],x,xs,v,rfl,(fun y hy=>by cases hy),rfl,hY⟩⟩
def rD:Option (List Nat)->D | none=> .cK | some T=>aR T
section
variable {free:List Nat} {groups:List (List Nat)}
def fE(gs m:D)(a2 a3 a4 a5 a6:Option V3):DE:=[some (.d gs),some (.d m),a2,a3,a4,a5,a6]
theorem JN(hG:Good free groups)(xS:groups≠[])(hl:groups.length<=20000){δ:aw}(h0:ab 0 δ= .ok (uA groups)):∃last:Nat,bw t7 (az (eNew (dj (cI (ab 0)) (aS 0) sM (e2 cb (ab 0) (GY (eC (.int 1)))) ["group"] [])) bb) δ= .ok (nI last)/\(∀G∈groups,∃y∈G,last<=y)/\∃G∈groups,∀y∈G,y<=last:=by
 have hz:sizeLine=16777216:=sizeLine_eq
 let mx:List Nat->Nat:=fun G=>G.getLast?.getD 0
 have hmx:∀G∈groups,G.getLast? =some (mx G)/\mx G∈G/\∀y∈G,y<=mx G:=fun G zB=>by
  obtain⟨h1,h2⟩:=hG.g G zB;obtain⟨l,Rf⟩:∃l,G.getLast? =some l:=⟨_,List.getLast?_eq_some_getLast h1⟩;have e:mx G=l:=by show G.getLast?.getD 0=l;rw [Rf];rfl
  rw[e];refine⟨Rf,List.mem_of_getLast? Rf,fun y hy=>?_⟩
  have hs:=hG.so.sublist h2;obtain⟨i,hi,rfl⟩:=List.mem_iff_getElem.mp hy;rw[List.getLast?_eq_getElem?] at Rf;obtain⟨h3,h4⟩:=List.getElem?_eq_some_iff.mp Rf;rcases Nat.lt_or_ge i (G.length - 1) with q | q
  .exact Nat.le_of_lt (by rw[<-h4];exact List.pairwise_iff_getElem.mp hs i _ hi h3 q)
  .have:i=G.length - 1:=by omega
   subst this;omega
 obtain⟨G0,gr,rfl⟩:∃G0 gr,groups=G0 ::gr:=by
  cases groups with
  | nil=>exact absurd rfl xS
  | cons a r=>exact⟨a,r,rfl⟩
 have hcomp:eNew (dj (cI (ab 0)) (aS 0) sM (e2 cb (ab 0) (GY (eC (.int 1)))) ["group"] []) δ= .ok (.lst (((G0 ::gr).map fun G=>((mx G:Nat):Int)).map .int)):=by
  refine cX (cT (ds:=(G0 ::gr).map gD) (fj h0) (by rw[List.length_map];omega) ?_)
  rw[List.map_map];exact NT.er gD _ fun G zB=>⟨[.val (gD G)],rfl,rfl,au (a:=gD G) (b:= .int (-1)) rfl rfl (Qa (hmx G zB).1)⟩
 obtain⟨h1,h2⟩:=L2.fold_min (gr.map fun G=>((mx G:Nat):Int)) ((mx G0:Nat):Int)
 obtain⟨G1,VJ,e1⟩:∃G∈G0 ::gr,((mx G:Nat):Int)=(gr.map fun G=>((mx G:Nat):Int)).foldl min ((mx G0:Nat):Int):=by
  rcases List.mem_cons.mp h1 with q | q
  .exact⟨G0,List.mem_cons_self,q.symm⟩
  .obtain⟨G,zB,e⟩:=List.mem_map.mp q;exact⟨G,List.mem_cons_of_mem _ zB,e⟩
 refine⟨mx G1,?_,fun G zB=>?_,G1,VJ,(hmx G1 VJ).2.2⟩
 .refine bf (bc hcomp rfl) ?_;show(match ints? (((G0 ::gr).map fun G=>((mx G:Nat):Int)).map D.int) with | some (n ::ns)=>R.ok (D.int (ns.foldl min n)) | _=> .no)=_
  rw[L2.ints_map];show R.ok (D.int ((gr.map fun G=>((mx G:Nat):Int)).foldl min ((mx G0:Nat):Int)))=_
  rw[<-e1];rfl
 .refine⟨mx G,(hmx G zB).2.1,?_⟩;have h3:(gr.map fun G=>((mx G:Nat):Int)).foldl min ((mx G0:Nat):Int)<=((mx G:Nat):Int):=by
   refine h2 _ ?_;rcases List.mem_cons.mp zB with rfl | q
   .exact List.mem_cons_self
   .exact List.mem_cons_of_mem _ (List.mem_map.mpr ⟨G,q,rfl⟩)
  rw[<-e1] at h3;omega
theorem JZ{ks:List Nat}(hs:free.Pairwise (· < ·))(hn:ks.Nodup)(hk:∀x∈ks,x∈free):uq (nZ ks)=nZ (free.filter fun x=>ks.contains x):=by
 have hnf:free.Nodup:=hs.imp fun h=>Nat.ne_of_lt h
 have hperm:(free.filter fun x=>ks.contains x).Perm ks:=(List.perm_ext_iff_of_nodup (hnf.filter _) hn).mpr fun x=>by
  rw[List.mem_filter];exact⟨fun h=>by simpa using h.2,fun h=>⟨hk x h,by simpa using h⟩⟩
 refine(AK (a:=nZ (free.filter fun x=>ks.contains x)) (hperm.map _) ?_).symm
 unfold nZ;rw[List.pairwise_map];exact(hs.filter _).imp fun h=>by omega
theorem GB:∀(n m:Nat),m < n->∀(free:List Nat) (groups:List (List Nat)) (S:aH),Good free groups->free.length<=12->groups.length<=20000->lP S->∀(Q:V3->aH->Prop),(∀r,Kv free groups m r->Q (.d (rD r)) S)->W3 (dc n [.d (uA groups), .d (nI m)] S) Q
 | 0,m,hm=>by omega
 | n+1,m,hm=>by
   intro free groups S hG hf hl hS Q h;have hz:sizeLine=16777216:=sizeLine_eq;have Lz:∀G∈groups,G.length < 1000:=fun G zB=>by have:=(hG.g G zB).2.length_le;omega
   show W3 (n6 fF (kK (dc n)) _ S) Q;refine kU hS (ve rfl ?_);simp only[cv,fF,List.map,List.length,List.replicate,List.cons_append,List.nil_append,Nat.reduceAdd,Nat.reduceSub];unfold kK;have fin:∀(r:Option (List Nat)) (T:aH),Kv free groups m r->gf S.length (.d (rD r))=true/\(∃U,S++T=S++U)/\∃d,res (S++T) (.d (rD r))=some d/\Q (.d d) S:=fun r T hr=>⟨by unfold gf;rfl,⟨T,rfl⟩,_,by unfold res;rfl,h r hr⟩
   refine vQ <| j0 <| Ki <| cF <| ax <| bV (d:=uA groups) rfl <| b_ <| Ib hG hf hl hS fun c hc uZ=>bV (d:=nI m) rfl ⟨_,_,_,rfl,rfl,Qm c m,?_⟩
   by_cases hcm:c > m
   .rw [decide_eq_true hcm,if_pos rfl];refine dC <| bV (d:= .cK) rfl ⟨_,rfl,?_⟩
    have:=fin none [] fun T _ hh=>by have:=hc T hh;omega
    rw[List.append_nil] at this;exact this
   rw[decide_eq_false hcm,if_neg (by decide)]
   refine fO ?_;by_cases xS:groups=[]
   .subst xS;refine vQ <| j0 <| dt (b:=true) rfl ?_
    rw[if_pos rfl];refine dC <| bV (d:=aR []) (dI rfl (by simp)) ⟨_,rfl,?_⟩
    have:=fin (some []) [] ⟨List.nil_sublist _,rfl,by simp,fun xU=>?_⟩
    .rw [List.append_nil] at this;exact this
    .have h0:=xU [] (List.nil_sublist _) rfl;have:m=0:=by simpa using h0
     subst this;rfl
   obtain⟨G0,gr,T7⟩:∃G0 gr,groups=G0 ::gr:=by
    cases groups with
    | nil=>exact absurd rfl xS
    | cons a r=>exact⟨a,r,rfl⟩
   refine vQ <| j0 <| dt (b:=false) (by rw[T7];rfl) ?_
   rw[if_neg (by decide)]
   refine fO ?_;have TM:1<=m:=by have:=uZ xS;omega
   obtain⟨last,elast,hup,hlo⟩:=JN hG xS hl (δ:=down [some (.d (uA groups)),some (.d (nI m)),none,none,none,none,none]) rfl;refine aA <| a_ (by simp) <| bV (d:=nI last) elast ⟨_,rfl,?_⟩
   simp only[List.set];refine aA <| a_ (by simp) <| GX ⟨_,rfl,?_⟩
   simp only[List.set];refine aA <| eT <| lH (ds:=groups.map gD) (fj rfl) ?_
   refine(bM (fun i δ S2=>∃(ks:List Nat) (a4 a5:Option V3),S2=S++[SO.dct (dK ks)]/\ks.Nodup/\(∀x,x∈ks↔(∃G∈groups.take i,x∈G)/\x<=last)/\δ=fE (uA groups) (nI m) (some (.d (nI last))) (some (.loc S.length)) a4 a5 none)
    ⟨[],none,none,rfl,List.nodup_nil,fun x=>by simp,rfl⟩ ?_).mono fun o S2 ⟨du,eW,ks,a4,a5,xg,hnd,hks,hδ⟩=>⟨du,eW,?_⟩
   .rintro i v δ S2 hv ⟨ks,a4,a5,rfl,hnd,hks,rfl⟩;obtain⟨G,hGi,rfl⟩:=NT.f6 hv;have zB:=List.mem_of_getElem? hGi;have hGs:=(hG.g G zB).2;have hkf:∀x∈ks,x∈free:=fun x hx=>by
     obtain⟨⟨G',OT,OK⟩,_⟩:=(hks x).mp hx;exact(hG.g G' (List.mem_of_mem_take OT)).2.subset OK
    refine⟨fE (uA groups) (nI m) (some (.d (nI last))) (some (.loc S.length)) (some (.d (gD G))) a5 none,rfl,?_⟩;unfold mL;refine eT <| lH (ds:=G.map nI) (fj rfl) ?_
    refine(bM (fun j δ S3=>∃(Jo:List Nat) (b5:Option V3),S3=S++[SO.dct (dK Jo)]/\Jo.Nodup/\(∀x,x∈Jo↔x∈ks\/(x∈G.take j/\x<=last))/\δ=fE (uA groups) (nI m) (some (.d (nI last))) (some (.loc S.length)) (some (.d (gD G))) b5 none)
     ⟨ks,a5,rfl,hnd,fun x=>by simp,rfl⟩ ?_).mono fun o S3 ⟨ED,e3,Jo,b5,EF,Jh,Jk,xf⟩=>⟨ED,e3,Jo,_,b5,EF,Jh,fun x=>?_,xf⟩
    .rintro j u δ S3 hu ⟨Jo,b5,rfl,Jh,Jk,rfl⟩;obtain⟨x,hx,rfl⟩:=NT.f6 hu;have LA:=List.mem_of_getElem? hx;refine⟨fE (uA groups) (nI m) (some (.d (nI last))) (some (.loc S.length)) (some (.d (gD G))) (some (.d (nI x))) none,rfl,?_⟩;unfold me;have hkl:Jo.length<=12:=by
      have hsub:∀y∈Jo,y∈free:=fun y hy=>by
       rcases(Jk y).mp hy with q | q
       .exact hkf y q
       .exact hGs.subset (List.mem_of_mem_take q.1)
      exact Nat.le_trans (L2.BI _ _ Jh hsub) hf
     have hstep:∀y,(y∈ks\/(y∈G.take (j+1)/\y<=last))↔(y∈Jo\/(y=x/\x<=last)):=fun y=>by
      rw[Jk y,List.take_add_one,hx];simp only[Option.toList_some,List.mem_append,List.mem_singleton];constructor
      .rintro(q | ⟨q | q,q2⟩)
       .exact .inl (.inl q)
       .exact .inl (.inr ⟨q,q2⟩)
       .exact .inr ⟨q,q▸q2⟩
      .rintro((q | ⟨q,q2⟩) | ⟨q,q2⟩)
       .exact .inl q
       .exact .inr ⟨.inl q,q2⟩
       .exact .inr ⟨.inr q,q▸q2⟩
     refine j0 <| dt (b:=decide (x<=last)) (eD (a:=nI x) (b:=nI last) rfl rfl (Tv x last)) ?_
     by_cases q:x<=last
     .rw [decide_eq_true q,if_pos rfl];refine HQ <| bV (d:= .bl true) rfl <| w_var (v:= .loc S.length) rfl <| bV (d:=nI x) rfl ⟨_,_,_,_,rfl,rfl,rfl,ba _ _,by unfold dK;rw [List.length_map];omega,_,rfl,sJ Jo x,_,?_,K7 Jh,fun y=>?_,rfl⟩
      .rw [dg,HX]
      .rw [z9,hstep y];exact⟨fun z=>z.elim .inl fun e=> .inr ⟨e,q⟩,fun z=>z.elim .inl fun e=> .inr e.1⟩
     .rw [decide_eq_false q,if_neg (by decide)]
      refine fO ⟨_,rfl,Jo,_,rfl,Jh,fun y=>?_,rfl⟩
      rw[hstep y];exact⟨.inl,fun z=>z.elim id fun e=>absurd e.2 q⟩
    .rw [List.length_map,List.length_map,List.take_length] at Jk;rw[Jk x,hks x,List.take_add_one,hGi];simp only[Option.toList_some,List.mem_append,List.mem_singleton];constructor
     .rintro(⟨⟨G',h1,h2⟩,h3⟩ | ⟨h1,h2⟩)
      .exact⟨⟨G', .inl h1,h2⟩,h3⟩
      .exact⟨⟨G, .inr rfl,h1⟩,h2⟩
     .rintro⟨⟨G',h1 | h1,h2⟩,h3⟩
      .exact .inl ⟨⟨G',h1,h2⟩,h3⟩
      .exact .inr ⟨h1▸h2,h3⟩
   rw[List.length_map,List.length_map,List.take_length] at hks;subst hδ xg;have N:Nd free groups last ks:=⟨hG,xS,hup,hlo,hks⟩;have hkf:∀x∈ks,x∈free:=fun x hx=>by
    obtain⟨⟨G',OT,OK⟩,_⟩:=(hks x).mp hx;exact(hG.g G' OT).2.subset OK
   have hkl:ks.length<=12:=Nat.le_trans (L2.BI _ _ hnd hkf) hf;have F6:lP (S++[SO.dct (dK ks)]):=lP.push hS fun _=>rfl
   unfold fE;refine vQ <| eT <| pI <| JE <| w_var (v:= .loc S.length) rfl ⟨_,_,nZ ks,rfl,ba _ _,?_,by unfold nZ;rw [List.length_map];omega,_,rfl,?_⟩
   .unfold dK nZ;rw[List.map_map,List.map_map];rfl
   rw[JZ hG.so hnd hkf,GU,List.map_map];refine(yo (S:=S++[SO.dct (dK ks)]) (V3.d ∘ nI) (fun δ=>∃a5 a6,δ=fE (uA groups) (nI m) (some (.d (nI last))) (some (.loc S.length)) a4 a5 a6) (fun x=>Kv (fr free x) (left groups x) (m - 1) none) (fun x v=>∃R,v= .d (aR (x ::R))/\Kv (fr free x) (left groups x) (m - 1) (some R))
    ⟨_,_,rfl⟩ ?_).mono fun o S2 ⟨XE,hq⟩=>?_
   .rintro x hx δ ⟨b5,b6,rfl⟩;have OV:x∈ks:=by have:=(List.mem_filter.mp hx).2;simpa using this
    have Md:=((hks x).mp OV).2;refine⟨fE (uA groups) (nI m) (some (.d (nI last))) (some (.loc S.length)) a4 (some (.d (nI x))) b6,rfl,?_⟩;unfold mC;refine aA <| a_ (by unfold fE;simp only[List.length_cons,List.length_nil];omega) <| cF <| ax <| bV (d:=uA (left groups x)) (bf (ds:=[uA groups,nI x]) rfl (KJ Lz hl)) <| ax <| bV (d:=nI (m - 1)) (au (a:=nI m) (b:= .int 1) rfl rfl ?_) <| b_ <| GB n (m - 1) (by omega) _ _ _ (N.left Md) (Nat.le_trans (List.length_filter_le _ _) hf) (by unfold left;rw [List.length_map];exact Nat.le_trans (List.length_filter_le _ _) hl) F6 _ fun r hr=>⟨_,rfl,?_⟩
    .show R.ok (D.int ((m:Int) - 1))=R.ok (D.int ((m - 1:Nat):Int));congr 2;omega
    cases r with
    | none=>
      refine j0 <| dt (b:=false) rfl ?_
      rw[if_neg (by decide)]
      exact fO ⟨rfl, .inl ⟨_,rfl,⟨_,_,rfl⟩,hr⟩⟩
    | some R=>
      refine j0 <| dt (b:=true) rfl ?_
      rw[if_pos rfl];have hRl:R.length<=12:=Nat.le_trans hr.1.length_le (Nat.le_trans (List.length_filter_le _ _) hf);refine dC <| bV (d:=aR (x ::R)) (au (a:= .tup [nI x]) (b:=aR R) (dI rfl (by simp;omega)) rfl (CZ (by rw[List.length_map];simp;omega))) ⟨rfl, .inr ⟨_,rfl,R,rfl,hr⟩⟩
   .subst XE;have hmm:m - 1+1=m:=by omega
    rcases hq with⟨ED,rfl,⟨b5,b6,rfl⟩,hN⟩ | ⟨ys,x,zs,v,eps,hys,rfl,R,rfl,hR⟩
    .refine dC <| bV (d:= .cK) rfl ⟨_,rfl,?_⟩
     have:=N.Vf hN;rw[hmm] at this;exact fin none _ this
    .have:=N.yes eps hys hR;rw[hmm] at this;exact⟨_,rfl,fin (some (x ::R)) _ this⟩
end
end K22
end
section
namespace K22
open PySem PySem.Spec PyProof.Rows L2 L3 MT
theorem A3{T o:List Nat}:subB T o=true↔∀x∈o,x∈T:=by
 unfold subB;rw[List.all_eq_true];exact⟨fun h x hx=>by have:=h x hx;simpa using this,fun h x hx=>by simpa using h x hx⟩
theorem As{B:List Nat->Bool}{f:List (List Nat)}{T o:List Nat}(h:o∈f):o∈x5 B f T:=by
 unfold x5;split
 .exact h
 .split
  .exact List.mem_append_left _ h
  .exact h
theorem se{B:List Nat->Bool}:∀(xs:List (List Nat)) {f:List (List Nat)} {o:List Nat},o∈f->o∈xs.foldl (x5 B) f
 | [],_,_,h=>h
 | x ::xs,f,o,h=>by rw[List.foldl_cons];exact se xs (As h)
theorem Ar{B:List Nat->Bool}:∀(xs f:List (List Nat)) {T:List Nat},T∈xs->B T=true->∃o∈xs.foldl (x5 B) f,∀x∈o,x∈T
 | x ::xs,f,T,h,hB=>by
   rw[List.foldl_cons];rcases List.mem_cons.mp h with rfl | h
   .by_cases q:f.any (subB T)=true
    .obtain⟨o,ho,hs⟩:=List.any_eq_true.mp q;exact⟨o,se xs (As ho),A3.mp hs⟩
    .refine⟨T,se xs ?_,fun x hx=>hx⟩
     unfold x5;rw[if_neg q,if_pos hB];exact List.mem_append_right _ (List.mem_singleton.mpr rfl)
   .exact Ar xs _ h hB
theorem AE{B:List Nat->Bool}:∀(xs f:List (List Nat)) {T:List Nat},T∈xs.foldl (x5 B) f->T∈f\/∃ys zs,xs=ys++T ::zs/\B T=true/\(ys.foldl (x5 B) f).any (subB T)=false
 | [],f,T,h=> .inl h
 | x ::xs,f,T,h=>by
   rw[List.foldl_cons] at h;rcases AE xs _ h with q | ⟨ys,zs,e,hB,hn⟩
   .unfold x5 at q;split at q
    .exact .inl q
    .rename_i hany;split at q
     .rename_i hBx;rcases List.mem_append.mp q with z | z
      .exact .inl z
      .rw [List.mem_singleton.mp z];exact .inr ⟨[],xs,rfl,hBx,by cases hq:f.any (subB x) with | false=>exact hq | true=>exact absurd hq hany⟩
     .exact .inl q
   .exact .inr ⟨x ::ys,zs,by rw[e];rfl,hB,by rw[List.foldl_cons];exact hn⟩
theorem vW{free T:List Nat}{m:Nat}:T∈jG free m↔T.Sublist free/\T.length<=m:=by
 unfold jG;rw[List.mem_flatMap];constructor
 .rintro⟨s,hs,h⟩;rw[List.mem_range] at hs;exact⟨rM s free T h,by rw[(g9 h).1];omega⟩
 .rintro⟨h1,h2⟩;exact⟨T.length,List.mem_range.mpr (by omega),DH h1⟩
theorem um(free:List Nat):∀m,(jG free m).Pairwise (fun a b=>a.length<=b.length)
 | 0=>by show([[]]:List (List Nat)).Pairwise _;simp
 | m+1=>by
   rw[si,List.pairwise_append];refine⟨um free m,?_,fun a ha b hb=>?_⟩
   .refine List.pairwise_iff_forall_sublist.mpr fun {a b} Dc=>?_
    have ha:=Dc.subset (List.mem_cons_self);have hb:=Dc.subset (List.mem_cons_of_mem _ (List.mem_singleton.mpr rfl));rw[(g9 ha).1,(g9 hb).1];omega
   .rw [(g9 hb).1];have:=(vW.mp ha).2;omega
theorem Ac{B:List Nat->Bool}{free:List Nat}{m:Nat}{T:List Nat}(h:T∈pP B (jG free m)):T.Sublist free/\T.length<=m/\B T=true/\∀R:List Nat,R.Sublist T->R.length < T.length->B R=false:=by
 rcases AE _ [] h with q | ⟨ys,zs,e,hB,hn⟩
 .cases q
 have hT:T∈jG free m:=by rw[e];simp
 obtain⟨h1,h2⟩:=vW.mp hT;refine⟨h1,h2,hB,fun R hR hl=>?_⟩
 cases hBR:B R with
 | false=>rfl
 | true=>
   have hRA:R∈jG free m:=vW.mpr ⟨hR.trans h1,by omega⟩
   have Pg:=um free m;rw[e] at hRA Pg;have hRy:R∈ys:=by
    rcases List.mem_append.mp hRA with q | q
    .exact q
    .exfalso
     have h3:=(List.pairwise_append.mp Pg).2.1;rcases List.mem_cons.mp q with rfl | q
     .omega
     .have:=(List.pairwise_cons.mp h3).1 R q;omega
   obtain⟨o,ho,hoR⟩:=Ar ys [] hRy hBR;have:(ys.foldl (x5 B) []).any (subB T)=true:=List.any_eq_true.mpr ⟨o,ho,A3.mpr fun x hx=>hR.subset (hoR x hx)⟩
   rw[hn] at this;cases this
section
variable {c:Nat} {ins:List (Str × Nat)} {gs:List Gt} {os:List (Str × List Nat)} {safe:Bool} {S:aH} {m:Nat}
theorem KG{p:Nat}(F3:∀x∈os,∀p,(pt (Wd c ins gs [] []) x p).2=!(pt (Wd c ins gs [] []) x p).1):N9 safe c ins gs os (nZ []) p=false:=by
 show(os.any fun x=>brk safe (pt (Wd c ins gs [] []) x p) (pt (Wd c ins gs [] []) x p))=false
 rw[List.any_eq_false];intro x hx;have h:=F3 x hx p;generalize pt (Wd c ins gs [] []) x p=A at h ⊢;obtain⟨a,b⟩:=A;have h:b=!a:=h;subst h;cases a <;> cases safe <;> decide
theorem N8(F3:∀x∈os,∀p,(pt (Wd c ins gs [] []) x p).2=!(pt (Wd c ins gs [] []) x p).1):BT safe c ins gs os []=false:=by
 unfold BT;rw[decide_eq_true (wW.mpr fun p _=>KG F3)];rfl
theorem GQ{free:List Nat}(F3:∀x∈os,∀p,(pt (Wd c ins gs [] []) x p).2=!(pt (Wd c ins gs [] []) x p).1)(hs:free.Pairwise (· < ·))(hu:(mv gs).Sublist free):Good free (pJ safe c ins gs os m):=by
 refine⟨hs,fun G hG=>?_⟩
 obtain⟨h1,_,h3,_⟩:=Ac hG;refine⟨fun e=>?_,h1.trans hu⟩
 subst e;rw[N8 F3] at h3;cases h3
theorem D3(hg:gs.length<=12)(hm:m<=3):(pJ safe c ins gs os m).length<=16384:=by
 have h1:=qR (BT safe c ins gs os) (jG (mv gs) m) [];have h2:=oh (free:=mv gs) (Nat.le_trans pq hg) m;have h3:(m+1)*4096<=4*4096:=Nat.mul_le_mul_right _ (by omega)
 unfold pJ pP;simp only[List.length_nil] at h1;omega
structure SU (free:List Nat) (F:List (List Nat)) (T0:List Nat):Prop where
 sub:T0.Sublist free
 hit:gQ F T0=true
 min:∀T:List Nat,T.Sublist free->gQ F T=true->T0.length<=T.length
 fst:kL free T0.length F=some T0
def vE(nt mm lv gr:D)(mo pl:D):DE:=[some (.d nt),some (.d mm),some (.d lv),some (.d gr),some (.d mo),some (.d pl)]
theorem x_{nt mm lv:D}{free:List Nat}{F:List (List Nat)}(hG:Good free F)(hf:free.length<=11)(hl:F.length<=20000)(hS:lP S):∀(n k:Nat) (r:Option (List Nat)),free.length < n+k->Kv free F k r->(∀T:List Nat,T.Sublist free->gQ F T=true->k<=T.length)->
 W3 (mZ (bP (b2 Rw (ab 5) (eC .cK))) qv n (vE nt mm lv (uA F) (nI k) (rD r)) S) fun o S1=>S1=S/\∃T0 k',o= .nx (vE nt mm lv (uA F) (nI k') (aR T0))/\SU free F T0
 | 0,k,r,hn,hr,xU=>by
   exfalso
   have xV:gQ F free=true:=ic.mpr fun G zB=>by
    obtain⟨h1,h2⟩:=hG.g G zB;obtain⟨x,hx⟩:=List.exists_mem_of_ne_nil _ h1;exact⟨x,hx,h2.subset hx⟩
   have:=xU free (List.Sublist.refl _) xV;omega
 | n+1,k,r,hn,hr,xU=>by
   unfold mZ;cases r with
   | some T0=>
     refine W3.bind (dt (b:=false) rfl ?_);rw[if_neg (by decide)]
     obtain⟨h1,h2,h3,h4⟩:=hr;have hk:k=T0.length:=by have:=xU T0 h1 h2;omega
     exact W3.ok ⟨rfl,T0,k,rfl,h1,h2,fun T hT hh=>by rw[<-hk];exact xU T hT hh,by rw[<-hk];exact h4 xU⟩
   | none=>
     refine W3.bind (dt (b:=true) rfl ?_);rw[if_pos rfl];have xV:gQ F free=true:=ic.mpr fun G zB=>by
      obtain⟨h1,h2⟩:=hG.g G zB;obtain⟨x,hx⟩:=List.exists_mem_of_ne_nil _ h1;exact⟨x,hx,h2.subset hx⟩
     have hkf:k < free.length:=hr free (List.Sublist.refl _) xV;unfold qv;refine W3.bind ?_;refine aA <| a_ (by unfold vE;simp only[List.length_cons,List.length_nil];omega) <| bV (d:=nI (k+1)) (au (a:=nI k) (b:= .int 1) rfl rfl rfl) ⟨_,rfl,?_⟩
     refine a_ (by unfold vE;simp only[List.length_cons,List.length_nil,List.length_set];omega) <| cF <| ax <| bV (d:=uA F) rfl <| ax <| bV (d:=nI (k+1)) rfl <| b_ <| GB 12 (k+1) (by omega) free F S hG (by omega) hl hS _ fun r' W9=>?_
     show W3 (mZ _ _ n (vE nt mm lv (uA F) (nI (k+1)) (rD r')) S) _;exact x_ hG hf hl hS n (k+1) r' (by omega) W9 fun T hT hh=>hr T hT hh
theorem Fz{free:List Nat}(NO:ke ins gs os)(hc:ins.length=c)(uZ:c<=10)(ho:∀x∈os,1<=x.2.length/\x.2.length<=3)(F3:∀x∈os,∀p,(pt (Wd c ins gs [] []) x p).2=!(pt (Wd c ins gs [] []) x p).1)(hg:gs.length<=11)(hm:m<=3)(hs:free.Pairwise (· < ·))(hu:(mv gs).Sublist free)(hf:free.length<=11)(hS:lP S){Q:V3->aH->Prop}
 (h:∀T0,SU free (pJ safe c ins gs os m) T0->Q (.d (aR T0)) S):W3 (pj [.d (bG ins gs os), .d (nI m), .d (.str (lE safe))] S) Q:=by
 have hz:sizeLine=16777216:=sizeLine_eq;have hG:Good free (pJ safe c ins gs os m):=GQ F3 hs hu;have hl:(pJ safe c ins gs os m).length<=16384:=D3 (by omega) hm
 unfold pj;refine kU hS (ve rfl ?_);simp only[cv,oH,List.map,List.length,List.replicate,List.cons_append,List.nil_append,Nat.reduceAdd,Nat.reduceSub];unfold vR;refine aA <| a_ (by simp) <| lA (fun j ds S2=>S2=S/\ds=((pJ safe c ins gs os m).take j).map gD) (pI <| cF <| ax <| bV (d:=bG ins gs os) rfl <| ax <| bV (d:=nI m) rfl <| ax <| bV (d:= .str (lE safe)) rfl <| b_ <| Cd NO hc uZ ho (by omega) hm hS ⟨_,rfl,by rw[List.length_map,List.length_map];omega,⟨rfl,by simp⟩,?_,?_⟩)
 .rintro j v ds S2 hv ⟨rfl,rfl⟩;obtain⟨T,hT,rfl⟩:=NT.f6 hv;refine⟨[some (.d (aR T))],rfl,ui ?_⟩;rw[if_pos rfl];refine bV (d:=gD T) (bf (ds:=[aR T]) rfl rfl) ⟨_,rfl,rfl,?_⟩;rw[List.take_add_one,hT,List.map_append];rfl
 .rintro ds S2 ⟨rfl,rfl⟩;rw[List.length_map,List.length_map,List.take_length];generalize pJ safe c ins gs os m=F at hG hl h;refine⟨_,rfl,?_⟩;simp only[List.set];refine aA <| a_ (by simp) <| bV (d:=nI 0) rfl ⟨_,rfl,?_⟩
  simp only[List.set];refine aA <| a_ (by simp) <| cF <| ax <| bV (d:=uA F) rfl <| ax <| bV (d:=nI 0) rfl <| b_ <| GB 12 0 (by omega) free F _ hG (by omega) (by omega) hS _ fun r hr=>⟨_,rfl,?_⟩
  simp only[List.set];refine aA ?_;unfold B5;refine(x_ (nt:=bG ins gs os) (mm:=nI m) (lv:= .str (lE safe)) hG hf (by omega) hS 1000 0 r (by omega) hr fun T _ _=>by omega).mono fun o S3 ⟨eS,T0,k',eo,hSU⟩=>⟨_,eo,?_⟩
  subst eS;unfold vE;exact dC <| bV (d:=aR T0) rfl ⟨_,rfl,by unfold gf;rfl,⟨[],by simp⟩,_,by unfold res;rfl,h T0 hSU⟩
end
theorem ES{free:List Nat}{F:List (List Nat)}{T0:List Nat}(h:SU free F T0){n:Nat}(hn:T0.length<=n):(jG free n).find? (gQ F)=some T0:=by
 unfold jG;rw[List.find?_flatMap];refine vA (a:=T0.length) (by omega) h.fst fun b hb=>?_
 cases hf:(gn free b).find? (gQ F) with
 | none=>rfl
 | some T=>
   exfalso
   have hm:=List.mem_of_find?_eq_some hf;have:=h.min T (rM _ _ _ hm) (List.find?_some hf);rw[(g9 hm).1] at this;omega
end K22
end
section
namespace K22
open PySem PySem.Spec PyProof.Rows L2 L3 MT
theorem KP{ins:List (Str × Nat)}{gs:List Gt}{os:List (Str × List Nat)}:nc [bG ins gs os]= .ok (bG ins gs os):=rfl
theorem xE{T:List Nat}(h:T.length < 1000):dY [aR T]= .ok (.bl true):=by
 have hz:sizeLine=16777216:=sizeLine_eq;unfold dY mD;refine dv (cm (j9 rfl rfl) (cL (au (a:= .lst (([]:List Nat).map nI)) (b:= .lst []) (cX (cT (ds:=T.map nI) (oK rfl) (by rw[List.length_map];omega) ?_)) rfl (vn (IZ [])))))
 have:=NT.dN (t:=aS 0) (c:=O8 (rF (FF "bool" (ab 0))) (xw (rF (FF "int" (ab 0))))) (f:=ab 0) (δ:=[.un]) (fun _:Nat=>false) nI nI (xs:=T) fun x _=>⟨[.val (nI x)],rfl,rfl,fun z=>by cases z⟩
 have hf:T.filter (fun _=>false)=[]:=by simp
 rw[hf] at this;exact this
theorem E8{o T:List Nat}{δ:aw}(hl:o.length < 1000)(h0:ab 0 δ= .ok (aR o))(hk:uH ["place"] [1] δ=[.un, .val (aR T)]):b2 jm (eNew (dj (cI (ab 0)) (aS 0) (b2 Ep (ab 0) (ab 1)) (ab 0) ["place"] [1])) (eNew (eB bb)) δ= .ok (!hit T o):=by
 have hz:sizeLine=16777216:=sizeLine_eq;refine eD (a:= .lst ((o.filter fun x=>T.contains x).map nI)) (b:= .lst []) (cX (cT (ds:=o.map nI) (oK h0) (by rw[List.length_map];omega) ?_)) rfl ((vn (IZ _)).trans ?_)
 .rw [hk];exact NT.dN (fun x=>T.contains x) nI nI fun x _=>⟨[.val (nI x), .val (aR T)],rfl,eD (a:=nI x) (b:=aR T) rfl rfl (N3 x T),fun _=>rfl⟩
 .congr 2;unfold hit;rw[Bool.eq_iff_iff,List.isEmpty_iff,List.filter_eq_nil_iff];simp
section
variable {c:Nat} {l:List (Str × Nat)} {gs:List Gt} {os:List (Str × List Nat)} {safe:Bool} {S:aH} {m:Nat}
theorem pT{α:Type}(p:α->Bool)(g:α->V3):∀xs:List α,(xs.findSome? fun x=>if p x then some (g x) else none)=(xs.find? p).map g
 | []=>rfl
 | x ::xs=>by
   rw[List.findSome?_cons,List.find?_cons];cases p x with
   | true=>rfl
   | false=>exact pT p g xs
theorem Nl(NO:ke l gs os)(hc:l.length=c)(uZ:c<=6)(ho:∀x∈os,1<=x.2.length/\x.2.length<=3)(F3:∀x∈os,∀p,(pt (Wd c l gs [] []) x p).2=!(pt (Wd c l gs [] []) x p).1)(hg:gs.length<=11)(hm:m<=3)(hS:lP S){T0:List Nat}(hU:SU (mv gs) (pJ safe c l gs os m) T0){Q:V3->aH->Prop}
 (h:Q (.d (aR T0)) S):W3 (nD [.d (bG l gs os), .d (nI m), .d (.str (lE safe))] S) Q:=by
 have hz:sizeLine=16777216:=sizeLine_eq;have F0:(mv gs).length<=gs.length:=pq;unfold nD;refine kU hS (ve rfl ?_);simp only[cv,l4,List.map,List.length,List.replicate,List.cons_append,List.nil_append,Nat.reduceAdd,Nat.reduceSub];unfold sZ;refine aA <| a_ (by simp) <| cF <| ax <| bV (d:=bG l gs os) rfl <| ax <| bV (d:=nI m) rfl <| ax <| bV (d:= .str (lE safe)) rfl <| b_ <| uV NO hc uZ ho F3 (by omega) hm hS ⟨_,rfl,?_⟩
 simp only[List.set];have hF:=ES hU (n:=gs.length) (Nat.le_trans hU.sub.length_le F0);have hsm:∀o∈pJ safe c l gs os m,o.length < 1000:=qC (wZ (by omega))
 have RO:(pJ safe c l gs os m).length<=16384:=D3 (by omega) hm
 generalize pJ safe c l gs os m=F at hF hsm RO;refine vQ <| eT <| pI <| cF <| ax <| bV (d:= .lst ((mv gs).map nI)) (bf (ds:=[bG l gs os]) rfl ?_) <| ax <| bV (d:=nI gs.length) (bf (ds:=[.lst (gs.map mT)]) (bc (au (a:=bG l gs os) (b:= .int 1) rfl rfl rfl) rfl) (by rw[sW,List.length_map];rfl)) <| b_ <| t8 (qB gs) (by omega) (by omega) hS ⟨_,rfl,?_⟩
 .unfold de jJ;exact dv (cL (cX (yw NO.hg rfl)))
 rw[List.map_map];refine(w9 (S:=S) (V3.d ∘ aR) (fun T=>if gQ F T then some (.d (aR T)) else none) (fun δ=>∃a4,δ=[some (.d (bG l gs os)),some (.d (nI m)),some (.d (.str (lE safe))),some (.d (.lst (F.map aR))),a4])
  ⟨_,rfl⟩ ?_).mono fun o S1 ⟨e1,h1⟩=>?_
 .rintro T hT δ ⟨a4,rfl⟩;refine⟨[some (.d (bG l gs os)),some (.d (nI m)),some (.d (.str (lE safe))),some (.d (.lst (F.map aR))),some (.d (aR T))],rfl,?_⟩;unfold uo;have hfe:(F.filter fun o=>!hit T o).isEmpty=gQ F T:=by
   rw[Bool.eq_iff_iff,List.isEmpty_iff,List.filter_eq_nil_iff];unfold gQ;rw[List.all_eq_true];simp
  refine j0 <| dt (b:=gQ F T) (eD (a:= .lst ((F.filter fun o=>!hit T o).map aR)) (b:= .lst []) (cX (cT (ds:=F.map aR) (fj rfl) (by rw[List.length_map];omega) (NT.dN (fun o=>!hit T o) aR aR fun o FW=>⟨[.val (aR o), .val (aR T)],rfl,E8 (hsm o FW) rfl rfl,fun _=>rfl⟩))) rfl ((vn (LJ _)).trans (by rw[hfe]))) ?_
  cases gQ F T with
  | true=>rw [if_pos rfl,if_pos rfl];exact dC <| bV (d:=aR T) rfl ⟨rfl,rfl⟩
  | false=>rw [if_neg (by decide),if_neg (by decide)];exact fO ⟨rfl,_,rfl,_,rfl⟩
 .subst e1;rw[pT (gQ F) (fun T=>V3.d (aR T)),hF] at h1
  subst h1;exact⟨_,rfl,by unfold gf;rfl,⟨[],by simp⟩,_,by unfold res;rfl,h⟩
end
theorem Lf{S:aH}{k:Nat}(p:zI k S){Q:V3->aH->Prop}(h:∀S1,Ev k S S1->Q (.d (.bl true)) S1):W3 (oJ [.loc k] S) Q:=by
 have hz:sizeLine=16777216:=sizeLine_eq;have hk:=p.lt;unfold oJ;refine vL (ve rfl ?_);simp only[cv,m5,List.map,List.length,List.replicate,List.cons_append,List.nil_append,Nat.reduceAdd,Nat.reduceSub];unfold qt;refine aA <| a_ (by simp) <| cF <| ax <| w_var (v:= .loc k) rfl <| ax <| bV (d:= .int 3) rfl <| ax <| bV (d:= .int 7) rfl <| ax <| bV (d:= .int 3) rfl <| b_ <| AQ p ⟨by omega,by omega⟩ ⟨by omega,by omega⟩ fun l gs os S1 zE T_ Lz hD v1=>⟨_,rfl,?_⟩
 simp only[List.set];refine aA <| a_ (by simp) <| draw (k:=k) rfl v1.p rfl (by omega) (by omega) fun r S2 h1 h2 v2=>⟨_,rfl,?_⟩
 simp only[List.set];obtain⟨m,rfl⟩:=Int.eq_ofNat_of_zero_le h1;refine aA <| a_ (by simp) <| Nb <| bV (d:= .lst [.str "right", .str "safe"]) rfl <| draw (k:=k) rfl v2.p rfl (by omega) (by omega) fun r3 S3 h3 h4 v3=>?_
 obtain⟨safe,es⟩:∃safe,cb (.lst [.str "right", .str "safe"]) (.int r3)= .ok (.str (lE safe)):=by
  have:r3=0\/r3=1:=by omega
  rcases this with rfl | rfl
  .exact⟨false,rfl⟩
  .exact⟨true,rfl⟩
 refine⟨_,_,_,rfl,rfl,es,_,rfl,?_⟩;simp only[List.set];have v3':=(v1.trans v2).trans v3;have hcl:lP S3:=v3.p.1.V6;generalize hc:l.length=c at zE T_;have NO:=hD.no (by omega) (by omega)
 refine aA <| a_ (by simp) <| bV (d:=bG l gs os) (bf (ds:=[bG l gs os]) rfl KP) ⟨_,rfl,?_⟩
 simp only[List.set];refine aA <| a_ (by simp) <| cF <| ax <| bV (d:=bG l gs os) rfl <| ax <| bV (d:=nI m) rfl <| ax <| bV (d:= .str (lE safe)) rfl <| b_ <| Fz (free:=mv gs) NO hc (by omega) hD.w3 (hD.sd hc) (by omega) (by omega) (qB gs) (List.Sublist.refl _) (Nat.le_trans pq (by omega)) hcl fun T0 hU=>⟨_,rfl,?_⟩
 simp only[List.set];have hTl:T0.length < 1000:=by have h5:=hU.sub.length_le;have h6:=pq (gs:=gs);omega
 have hfT:eu 1 (aR T0):=eu.tup fun d hd=>by obtain⟨x,_,rfl⟩:=List.mem_map.mp hd;exact eu.int _
 refine dC <| w_and <| bV (d:= .bl true) (bf (ds:=[aR T0]) rfl (xE hTl)) ⟨rfl,?_⟩
 refine w_and <| L5 <| bV (d:=aR T0) rfl <| cF <| ax <| bV (d:=bG l gs os) rfl <| ax <| bV (d:=nI m) rfl <| ax <| bV (d:= .str (lE safe)) rfl <| b_ <| Nl NO hc (by omega) hD.w3 (hD.sd hc) (by omega) (by omega) hcl hU ⟨_,_, .bl true,rfl,rfl,NT.eq_self hfT (by omega),rfl,?_⟩
 refine bV (d:= .bl true) (au (a:=bG l gs os) (b:=bG l gs os) rfl rfl hD.eq) ⟨_,rfl,?_⟩;have:=wA (X:=[]) (v:= .d (.bl true)) (d:= .bl true) (Q:=Q) v3' Flat.nil rfl (by unfold res;rfl) (h S3 v3')
 rw[List.append_nil] at this;exact this
theorem Gq(ns:List Int)(hn:ns.length<=63):Em [.lst (ns.map D.int)]= .ok (.bl true):=by
 have hz:sizeLine=16777216:=sizeLine_eq;have key:W3 (n6 wX x8 [.d (.lst (ns.map .int))] []) fun v S1=>v= .d (.bl true)/\S1=[]:=by
  refine vL (ve rfl ?_);simp only[cv,wX,List.map,List.length,List.replicate,List.cons_append,List.nil_append,Nat.reduceAdd,Nat.reduceSub];unfold x8;refine aA (eT (K3 (cF (ax (bV (d:= .lst ((ns.take 3).map .int)) ?_ (b_ (Kn _ ?_ fun n S1 YU hP=>⟨_,rfl,?_⟩)))))))
  .refine Cm (d:= .lst (ns.map .int)) (lo:=none) (hi:=some 3) rfl rfl rfl ?_;show R.ok (D.lst (L2.cutD _ none (some 3)))=_;rw[HN _ (by omega),List.map_take]
   rfl
  .rw [List.length_take];omega
  refine(bM (fun i δ S2=>(∃x,δ=[some (.d (.lst (ns.map .int))),x])/\HS n S2) ⟨⟨_,rfl⟩,hP⟩ ?_).mono fun o S2 ⟨du,e,⟨x,hδ⟩,hP2⟩=>⟨du,e,?_⟩
  .rintro i v δ S2 hv ⟨⟨x,rfl⟩,hP2⟩;obtain⟨k,hk,rfl⟩:=List.mem_map.mp (List.mem_of_getElem? hv);rw[List.mem_range] at hk;refine⟨_,rfl,?_⟩;unfold DP;refine j0 (w_not (LK (cF (ax (w_var (v:= .loc k) rfl (b_ (Lf (hP2.2.2 k hk) fun S3 v3=>⟨_,true,rfl,rfl,?_⟩)))))))
   rw[if_neg (by decide)]
   exact fO ⟨_,rfl,⟨_,rfl⟩,hP2.ev hk v3⟩
  .subst hδ;refine dC (bV (d:= .bl true) rfl ⟨_,rfl,hP2.1,by unfold gf;rfl, .bl true,by unfold res;rfl,rfl,?_⟩)
   rfl
 obtain⟨v,S1,e,rfl,rfl⟩:=key;unfold Em RB;simp only[List.map_cons,List.map_nil];rw[e];rfl
end K22
end
open PySem PySem.W PyProof.Rows
set_option maxRecDepth 100000 in
set_option maxHeartbeats 0 in
theorem PySem.Challenge.cw_bearfaults_k22_surest_by_trial_holds : PySem.Challenge.rw_bearfaults_k22_surest_by_trial.Holds := by
 w_on;o_law;k_head;(case hw=>w_witness2)
 k_fill
 refine L2.PF (l:=PySem.Challenge.rw_bearfaults_k22_surest_by_trial) (n:=63) (k:=18) (x:="script") (g:=K22.Em) rfl (by decide) rfl ⟨rfl,by decide,by decide⟩ (fun w h Y=>PySem.W.kIn_of Y) ?F K22.Gq
 case F=>
  intro w mg fa h KX G QX
  have tW:L2.Def (L2.eL KX) mg "vote_of" K22.l0:=by
   dsimp only[L2.eL]
   refine' L2.bZ KX G ?a ?l ?c ?k
   (case a=>k_is);(case l=>k_is);(case c=>k_is);(case k=>k_is)
  have o9:L2.Def (L2.eL KX) mg "gate_mask" K22.jv:=by
   dsimp only[L2.eL]
   refine' L2.bZ KX G ?a ?l ?c ?k
   (case a=>k_is);(case l=>k_is);(case c=>k_is);(case k=>k_is)
  have jN:L2.Def (L2.eL KX) mg "in_wire_masks" K22.eA:=by
   dsimp only[L2.eL]
   refine' L2.bZ KX G ?a ?l ?c ?k
   (case a=>k_is);(case l=>k_is);(case c=>k_is);(case k=>k_is)
  have qN:L2.Def (L2.eL KX) mg "masks_at" K22.ka:=by
   dsimp only[L2.eL]
   refine' L2.bZ KX G ?a ?l ?c ?k
   (case a=>k_is);(case l=>k_is);(case c=>k_is);(case k=>k_is)
  have nM:L2.Def (L2.eL KX) mg "wire_masks" K22.h_:=by
   dsimp only[L2.eL]
   refine' L2.bZ KX G ?a ?l ?c ?k
   (case a=>k_is);(case l=>k_is);(case c=>k_is);(case k=>k_is)
  have o8:L2.Def (L2.eL KX) mg "out_masks" K22.jA:=by
   dsimp only[L2.eL]
   refine' L2.bZ KX G ?a ?l ?c ?k
   (case a=>k_is);(case l=>k_is);(case c=>k_is);(case k=>k_is)
  have tY:L2.Def (L2.eL KX) mg "reading" K22.my:=by
   dsimp only[L2.eL]
   refine' L2.bZ KX G ?a ?l ?c ?k
   (case a=>k_is);(case l=>k_is);(case c=>k_is);(case k=>k_is)
  have nK:L2.Def (L2.eL KX) mg "all_inputs" K22.gS:=by
   dsimp only[L2.eL]
   refine' L2.bZ KX G ?a ?l ?c ?k
   (case a=>k_is);(case l=>k_is);(case c=>k_is);(case k=>k_is)
  have tJ:L2.Def (L2.eL KX) mg "mask_of" K22.mf:=by
   dsimp only[L2.eL]
   refine' L2.bZ KX G ?a ?l ?c ?k
   (case a=>k_is);(case l=>k_is);(case c=>k_is);(case k=>k_is)
  have tT:L2.Def (L2.eL KX) mg "in_mask" K22.mz:=by
   dsimp only[L2.eL]
   refine' L2.bZ KX G ?a ?l ?c ?k
   (case a=>k_is);(case l=>k_is);(case c=>k_is);(case k=>k_is)
  have tQ:L2.Def (L2.eL KX) mg "choices" K22.mM:=by
   dsimp only[L2.eL]
   refine' L2.bZ KX G ?a ?l ?c ?k
   (case a=>k_is);(case l=>k_is);(case c=>k_is);(case k=>k_is)
  have tK:L2.Def (L2.eL KX) mg "has_all" K22.mK:=by
   dsimp only[L2.eL]
   refine' L2.bZ KX G ?a ?l ?c ?k
   (case a=>k_is);(case l=>k_is);(case c=>k_is);(case k=>k_is)
  have qJ:L2.Def (L2.eL KX) mg "breaking" K22.kg:=by
   dsimp only[L2.eL]
   refine' L2.bZ KX G ?a ?l ?c ?k
   (case a=>k_is);(case l=>k_is);(case c=>k_is);(case k=>k_is)
  have lX:L2.Def (L2.eL KX) mg "count_apart" K22.f9:=by
   dsimp only[L2.eL]
   refine' L2.bZ KX G ?a ?l ?c ?k
   (case a=>k_is);(case l=>k_is);(case c=>k_is);(case k=>k_is)
  have xi:L2.Def (L2.eL KX) mg "behind" K22.oY:=by
   dsimp only[L2.eL]
   refine' L2.bZ KX G ?a ?l ?c ?k
   (case a=>k_is);(case l=>k_is);(case c=>k_is);(case k=>k_is)
  have lV:L2.Def (L2.eL KX) mg "groups_left" K22.gu:=by
   dsimp only[L2.eL]
   refine' L2.bZ KX G ?a ?l ?c ?k
   (case a=>k_is);(case l=>k_is);(case c=>k_is);(case k=>k_is)
  have kY:L2.Def (L2.eL KX) mg "first_places" K22.fk:=by
   dsimp only[L2.eL]
   refine' L2.bZ KX G ?a ?l ?c ?k
   (case a=>k_is);(case l=>k_is);(case c=>k_is);(case k=>k_is)
  have xh:L2.Def (L2.eL KX) mg "surest" K22.oZ:=by
   dsimp only[L2.eL]
   refine' L2.bZ KX G ?a ?l ?c ?k
   (case a=>k_is);(case l=>k_is);(case c=>k_is);(case k=>k_is)
  have qI:L2.Def (L2.eL KX) mg "_law_next" K22.kR:=by
   dsimp only[L2.eL]
   refine' L2.bZ KX G ?a ?l ?c ?k
   (case a=>k_is);(case l=>k_is);(case c=>k_is);(case k=>k_is)
  have qD:L2.Def (L2.eL KX) mg "_law_pots" K22.kO:=by
   dsimp only[L2.eL]
   refine' L2.bZ KX G ?a ?l ?c ?k
   (case a=>k_is);(case l=>k_is);(case c=>k_is);(case k=>k_is)
  have k3:L2.Def (L2.eL KX) mg "_law_some_ins" K22.fG:=by
   dsimp only[L2.eL]
   refine' L2.bZ KX G ?a ?l ?c ?k
   (case a=>k_is);(case l=>k_is);(case c=>k_is);(case k=>k_is)
  have qK:L2.Def (L2.eL KX) mg "_law_gate" K22.kq:=by
   dsimp only[L2.eL]
   refine' L2.bZ KX G ?a ?l ?c ?k
   (case a=>k_is);(case l=>k_is);(case c=>k_is);(case k=>k_is)
  have qH:L2.Def (L2.eL KX) mg "_law_twin" K22.kA:=by
   dsimp only[L2.eL]
   refine' L2.bZ KX G ?a ?l ?c ?k
   (case a=>k_is);(case l=>k_is);(case c=>k_is);(case k=>k_is)
  have k9:L2.Def (L2.eL KX) mg "_law_some_net" K22.fg:=by
   dsimp only[L2.eL]
   refine' L2.bZ KX G ?a ?l ?c ?k
   (case a=>k_is);(case l=>k_is);(case c=>k_is);(case k=>k_is)
  have k8:L2.Def (L2.eL KX) mg "_law_ins_bits" K22.fq:=by
   dsimp only[L2.eL]
   refine' L2.bZ KX G ?a ?l ?c ?k
   (case a=>k_is);(case l=>k_is);(case c=>k_is);(case k=>k_is)
  have jP:L2.Def (L2.eL KX) mg "_law_all_wires" K22.eI:=by
   dsimp only[L2.eL]
   refine' L2.bZ KX G ?a ?l ?c ?k
   (case a=>k_is);(case l=>k_is);(case c=>k_is);(case k=>k_is)
  have pd:L2.Def (L2.eL KX) mg "_law_reads" K22.jx:=by
   dsimp only[L2.eL]
   refine' L2.bZ KX G ?a ?l ?c ?k
   (case a=>k_is);(case l=>k_is);(case c=>k_is);(case k=>k_is)
  have nL:L2.Def (L2.eL KX) mg "_law_broken" K22.ig:=by
   dsimp only[L2.eL]
   refine' L2.bZ KX G ?a ?l ?c ?k
   (case a=>k_is);(case l=>k_is);(case c=>k_is);(case k=>k_is)
  have k6:L2.Def (L2.eL KX) mg "_law_all_sets" K22.fH:=by
   dsimp only[L2.eL]
   refine' L2.bZ KX G ?a ?l ?c ?k
   (case a=>k_is);(case l=>k_is);(case c=>k_is);(case k=>k_is)
  have jR:L2.Def (L2.eL KX) mg "_law_free_ones" K22.eF:=by
   dsimp only[L2.eL]
   refine' L2.bZ KX G ?a ?l ?c ?k
   (case a=>k_is);(case l=>k_is);(case c=>k_is);(case k=>k_is)
  have k4:L2.Def (L2.eL KX) mg "_law_breaking" K22.fD:=by
   dsimp only[L2.eL]
   refine' L2.bZ KX G ?a ?l ?c ?k
   (case a=>k_is);(case l=>k_is);(case c=>k_is);(case k=>k_is)
  have qL:L2.Def (L2.eL KX) mg "_law_copy" K22.kQ:=by
   dsimp only[L2.eL]
   refine' L2.bZ KX G ?a ?l ?c ?k
   (case a=>k_is);(case l=>k_is);(case c=>k_is);(case k=>k_is)
  have jd:L2.Def (L2.eL KX) mg "_law_are_places" K22.d6:=by
   dsimp only[L2.eL]
   refine' L2.bZ KX G ?a ?l ?c ?k
   (case a=>k_is);(case l=>k_is);(case c=>k_is);(case k=>k_is)
  have tU:L2.Def (L2.eL KX) mg "_law_due" K22.mB:=by
   dsimp only[L2.eL]
   refine' L2.bZ KX G ?a ?l ?c ?k
   (case a=>k_is);(case l=>k_is);(case c=>k_is);(case k=>k_is)
  have qF:L2.Def (L2.eL KX) mg "_law_case" K22.kC:=by
   dsimp only[L2.eL]
   refine' L2.bZ KX G ?a ?l ?c ?k
   (case a=>k_is);(case l=>k_is);(case c=>k_is);(case k=>k_is)
  have D_law:L2.Def (L2.eL KX) mg "law" K22.Ei:=by
   dsimp only[L2.eL]
   refine' L2.bZ KX G ?a ?l ?c ?k
   (case a=>k_is);(case l=>k_is);(case c=>k_is);(case k=>k_is)
  obtain⟨cl,CF⟩:∃cl,K22.Cf (L2.eL KX) mg cl:=by
   dsimp only[L2.eL]
   refine' K22.Qs KX G ?Uv ?Ug ?OU ?Ux ?T6 ?Um ?TQ ?C7 ?kZ ?zF ?o_ ?UD ?Tz ?Uy ?Ub ?Uu ?TK ?Ua ?xj ?xc ?tL ?i9 ?je ?i7 ?dW ?i4 ?lR ?lY ?lW ?f_ ?jo ?jb ?jg ?jc ?d7 ?fW ?jf ?ja ?i3 ?d3 ?i_ ?ip ?iy ?iz ?dD ?eV
   (case Uv=>k_is)
   (case Ug=>k_is)
   (case OU=>k_is)
   (case Ux=>k_is)
   (case T6=>k_is)
   (case Um=>k_is)
   (case TQ=>k_is)
   (case C7=>k_is)
   (case kZ=>k_is)
   (case zF=>k_is)
   (case o_=>k_is)
   (case UD=>k_is)
   (case Tz=>k_is)
   (case Uy=>k_is)
   (case Ub=>k_is)
   (case Uu=>k_is)
   (case TK=>k_is)
   (case Ua=>k_is)
   (case xj=>k_is)
   (case xc=>k_is)
   (case tL=>k_is)
   (case i9=>k_is)
   (case je=>k_is)
   (case i7=>k_is)
   (case dW=>k_is)
   (case i4=>k_is)
   (case lR=>k_is)
   (case lY=>k_is)
   (case lW=>k_is)
   (case f_=>k_is)
   (case jo=>k_is)
   (case jb=>k_is)
   (case jg=>k_is)
   (case jc=>k_is)
   (case d7=>k_is)
   (case fW=>k_is)
   (case jf=>k_is)
   (case ja=>k_is)
   (case i3=>k_is)
   (case d3=>k_is)
   (case i_=>k_is)
   (case ip=>k_is)
   (case iy=>k_is)
   (case iz=>k_is)
   (case dD=>k_is)
   (case eV=>k_is)
  have d_:=CF.d_
  have gz:=CF.gz
  have ee:=CF.ee
  have ef:=CF.ef
  have dM:=CF.dM
  have T:K22.Tp (L2.eL KX) mg cl:=by
   dsimp only[L2.eL]
   refine' ⟨PySem.W.mg_none_of KX G ?z_enumerate,PySem.W.mg_none_of KX G ?z_range,PySem.W.mg_none_of KX G ?z_len,PySem.W.mg_none_of KX G ?z_tuple,PySem.W.mg_none_of KX G ?z_reversed,PySem.W.mg_none_of KX G ?z_all,PySem.W.mg_none_of KX G ?z_zip,PySem.W.mg_none_of KX G ?z_any,PySem.W.mg_none_of KX G ?z_min,PySem.W.mg_none_of KX G ?z_sorted,PySem.W.mg_none_of KX G ?z_list,PySem.W.mg_none_of KX G ?z_isinstance,PySem.W.mg_none_of KX G ?z_bool,PySem.W.mg_none_of KX G ?z_int,CF.C_Bench,CF.N_Bench_net,CF.N_Bench_many_inputs,CF.N_Bench_full,CF.N_Bench_in_masks,CF.M_Bench,CF.C_Trial,CF.N_Trial_bench,CF.N_Trial_plain,CF.N_Trial_unsure,CF.M_Trial⟩
   (case z_enumerate=>k_is);(case z_range=>k_is);(case z_len=>k_is);(case z_tuple=>k_is);(case z_reversed=>k_is);(case z_all=>k_is);(case z_zip=>k_is);(case z_any=>k_is);(case z_min=>k_is);(case z_sorted=>k_is);(case z_list=>k_is);(case z_isinstance=>k_is);(case z_bool=>k_is);(case z_int=>k_is)
  obtain⟨fl,fd,Fl,hl⟩:=D_law
  have e0:=QX.symm.trans hl
  cases e0
  refine' ⟨fd,?b,fun base kb nb=>K22.NC T tW o9 jN qN nM o8 tY nK tJ tT tQ tK d_ gz ee ef dM qJ lX xi lV kY xh qI qD k3 qK qH k9 k8 jP pd nL k6 jR k4 qL jd tU qF Fl⟩
  obtain⟨_,_,_,_,_,_,_,_,_,e,_,_⟩:=Fl.ex
  subst e
  exact fun s u=> .of_eq rfl
