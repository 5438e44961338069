import PyProof.Rows.All
import Wide.All
import OpenK.AllK
import Wide.FinOn
import Lean
import PyProof.EqAt
import PyProof.EqKinds
import PyProof.TupleCall
import PyProof.Rows.StrJoin2
import PyProof.TupleOfGen
import PyProof.ListRange
import PyProof.Draws
import PyProof.Rows.StrClose3
import KE.KSortedM
import PyProof.Rows.SortWalk
import PyProof.WalkInts
import PyProof.Rows.Range3
import PyProof.ZipIter
import PyProof.ConsumeWalk
import PyProof.Rows.SeqMore
import KE.KRevIter
import KE.KRevSl
import KE.KUnpack
import KE.KDictSum
import KE.KTupSum
import PySem.Challenge.RW_bearfaults_k41_whole_faults_borne
noncomputable section
set_option bootstrap.genMatcherCode false
section
open PySem
abbrev Vr:=List (Addr×Obj)
abbrev Vs:=Value->Shared->Prop
abbrev Vt:=List (Str×Nat)
abbrev Vu:=List (Str×List Nat)
abbrev Vv:=List (List Nat)
abbrev Vw:=Str->Option Value
abbrev Vx:=Nat->Addr
end
def PySem.W.Fast.tw7879719148704115453:=0
def PySem.W.Fast.tw12333969408895399971:=0
def PySem.W.Fast.tw15608382019121043032:=0
def PySem.W.Fast.tw863046417621115649:=0
def PySem.W.Fast.tw7469139063776181316:=0
def PySem.W.Fast.tw11902957527993805333:=0
def PySem.W.Fast.tw7993846118061624182:=0
def PySem.W.Fast.tw18090575948650076903:=0
def PySem.W.Fast.tw13324708882178248380:=0
def PySem.W.Fast.tw16155361665482914422:=0
def PySem.W.Fast.tw4257712323706084267:=0
def PySem.W.Fast.tw4622857933771234291:=0
def PySem.W.Fast.tw17153948153540572717:=0
def PySem.W.Fast.tw14170844136413568407:=0
def PySem.W.Fast.tw16687911088715891432:=0
def PySem.W.Fast.tw9912619714516348648:=0
def PySem.W.Fast.tw12688007608727009607:=0
def PySem.W.Fast.tw5816166306614337736:=0
def PySem.W.Fast.tw10218521967673321369:=0
def PySem.W.Fast.tw12538347100428237902:=0
def PySem.W.Fast.tw5463858915167533885:=0
def PySem.W.Fast.tw2454838709957884219:=0
def PySem.W.Fast.tw6017406218025325416:=0
def PySem.W.Fast.tw4915128843069858703:=0
def PySem.W.Fast.tw5784274983690398312:=0
def PySem.W.Fast.tw4228666774814025753:=0
def PySem.W.Fast.tw5213859492333921389:=0
def PySem.W.Fast.tw3075783024255732923:=0
def PySem.W.Fast.tw16972696412209050453:=0
def PySem.W.Fast.tw5090008383720482167:=0
def PySem.W.Fast.tw162010989416138155:=0
def PySem.W.Fast.tw2939823985893558688:=0
def PySem.W.Fast.tw10338688619207903994:=0
def PySem.W.Fast.tw7952094756186155159:=0
def PySem.W.Fast.tw3906398531161793572:=0
def PySem.W.Fast.tw7584325400503895740:=0
def PySem.W.Fast.tw6175054591675178177:=0
def PySem.W.Fast.tw6588458965189676833:=0
def PySem.W.Fast.tw8055872191705938465:=0
def PySem.W.Fast.tw8250420035843404040:=0
set_option Elab.async false
set_option linter.all false
set_option maxRecDepth 100000
set_option maxHeartbeats 4000000
section
namespace L2
open PySem PySem.Spec PyProof.Rows
abbrev Key:=Sum Int Str
def vG:Key->Value->Bool
 | .inl k,v=>Value.isInt k v
 | .inr x,v=>Value.isStrOf x v
def Oc(w:World):Key->Int
 | .inl k=>hashInt k
 | .inr x=>hashStr w x
theorem dC:∀{k:Key} {v:Value},vG k v=true->(∃i t,k=Sum.inl i/\v=Value.int i t)\/(∃x t,k=Sum.inr x/\v=Value.str x t)
 | .inl i,v,h=>by
   obtain⟨t,e⟩:=Value.isInt_shape (k:=i) (v:=v) h;exact .inl ⟨i,t,rfl,e⟩
 | .inr x,v,h=>by
   obtain⟨t,e⟩:=Value.isStrOf_shape (x:=x) (v:=v) h;exact .inr ⟨x,t,rfl,e⟩
theorem Cv(i:Int)(t:Tok):vG (.inl i) (.int i t)=true:=by simp [vG,Value.isInt]
theorem Cm(x:Str)(t:Tok):vG (.inr x) (.str x t)=true:=by simp [vG,Value.isStrOf]
theorem JW(a b:Int):decide ((Sum.inl a:Key)=Sum.inl b)=(a==b):=by
 by_cases e:a=b
 .subst e;simp
 .have h:¬(Sum.inl a:Key)=Sum.inl b:=fun q=>e (Sum.inl.inj q)
  rw[decide_eq_false h];exact(beq_eq_false_iff_ne.mpr e).symm
theorem Jq(a b:Str):decide ((Sum.inr a:Key)=Sum.inr b)=decide (a=b):=by
 by_cases e:a=b
 .subst e;simp
 .have h:¬(Sum.inr a:Key)=Sum.inr b:=fun q=>e (Sum.inr.inj q)
  rw[decide_eq_false h,decide_eq_false e]
theorem JQ(a:Int)(b:Str):decide ((Sum.inl a:Key)=Sum.inr b)=false:=decide_eq_false (fun q=>nomatch q)
theorem IS(a:Str)(b:Int):decide ((Sum.inr a:Key)=Sum.inl b)=false:=decide_eq_false (fun q=>nomatch q)
def dD(prog:Program)(w:World):PySem.KeyKind prog w Key where
 is:=vG
 hash:=Oc w
 inj:=fun v a b ha hb=>by
  rcases dC ha with⟨i,t,rfl,rfl⟩ | ⟨x,t,rfl,rfl⟩
  .rcases dC hb with⟨j,u,rfl,e⟩ | ⟨y,u,rfl,e⟩
   .injection e with e1 _;rw [e1]
   .exact nomatch e
  .rcases dC hb with⟨j,u,rfl,e⟩ | ⟨y,u,rfl,e⟩
   .exact nomatch e
   .injection e with e1 _;rw [e1]
 byValue:=fun k v h=>by
  rcases dC h with⟨i,t,rfl,rfl⟩ | ⟨x,t,rfl,rfl⟩ <;> rfl
 pyHash:=fun hv h=>by
  rcases dC hv with⟨i,t,rfl,rfl⟩ | ⟨x,t,rfl,rfl⟩
  .exact wpAny_pyHash_int h
  .exact wpAny_pyHash_str h
 eqBool:=fun hu hv h=>by
  rcases dC hu with⟨i,t,rfl,rfl⟩ | ⟨x,t,rfl,rfl⟩
  .rcases dC hv with⟨j,u,rfl,rfl⟩ | ⟨y,u,rfl,rfl⟩
   .rw [JW] at h;exact wpAny_eqBool_int h
   .rw [JQ] at h;exact SeqAt.EqAt.int_str i t y u _ _ _ _ h
  .rcases dC hv with⟨j,u,rfl,rfl⟩ | ⟨y,u,rfl,rfl⟩
   .rw [IS] at h;exact SeqAt.EqAt.str_int x t j u _ _ _ _ h
   .rw [Jq] at h;exact wpAny_eqBool_str h
 «strs»:=fun k x t v h=>by
  rcases dC h with⟨i,u,rfl,e⟩ | ⟨y,u,rfl,e⟩
  .exact nomatch e
  .injection e with e1 _
   subst e1;cases v <;> rfl
theorem yJ(prog:Program)(w:World)(i:Int)(t:Tok):(dD prog w).is (.inl i) (.int i t)=true:=Cv i t
theorem yC(prog:Program)(w:World)(x:Str)(t:Tok):(dD prog w).is (.inr x) (.str x t)=true:=Cm x t
inductive V where
 | cn | bl (b:Bool) | int (i:Int) | str (x:Str) | byt (b:Array UInt8) | flt (b:UInt64) | ref (a:Addr) | ty (n:String)
 deriving DecidableEq
def RelV:V->Value->Prop
 | .cn,u=>u=Value.none
 | .bl b,u=>u=Value.bool b
 | .int i,u=>∃t,u=Value.int i t
 | .str x,u=>∃t,u=Value.str x t
 | .byt b,u=>∃t,u=Value.bytes b t
 | .flt b,u=>∃t,u=Value.float b t
 | .ref a,u=>u=Value.ref a
 | .ty n,u=>u=Value.type n
abbrev Vals:List V->List Value->Prop:=Paired RelV
theorem Vals.length{xs:List V}{us:List Value}(r:Vals xs us):xs.length=us.length:=Paired.length r
theorem Vals.get:∀{xs:List V} {us:List Value} {i:Nat} {x:V},Vals xs us->xs[i]? =some x->∃u,us[i]? =some u/\RelV x u
 | _,_,_,_, .nil,e=>by simp at e
 | _,_,0,_, .cons r _,e=>by simp at e;subst e;exact⟨_,rfl,r⟩
 | _,_,i+1,x, .cons _ t,e=>by
   obtain⟨u,h1,h2⟩:=Vals.get (i:=i) (x:=x) t (by simpa using e)
   exact⟨u,by simpa using h1,h2⟩
theorem Vals.append:∀{xs ys:List V} {us ws:List Value},Vals xs us->Vals ys ws->Vals (xs++ys) (us++ws)
 | _,_,_,_, .nil,s=>s
 | _,_,_,_, .cons r t,s=> .cons r (Vals.append t s)
theorem Vals.take:∀{xs:List V} {us:List Value} (n:Nat),Vals xs us->Vals (xs.take n) (us.take n)
 | _,_,0,_=> .nil
 | _,_,_+1, .nil=> .nil
 | _,_,n+1, .cons r t=> .cons r (Vals.take n t)
theorem Vals.drop:∀{xs:List V} {us:List Value} (n:Nat),Vals xs us->Vals (xs.drop n) (us.drop n)
 | _,_,0,r=>r
 | _,_,_+1, .nil=> .nil
 | _,_,n+1, .cons _ t=>Vals.drop n t
def pO:Option V->Option Value->Prop
 | some v,some u=>RelV v u
 | none,none=>True
 | _,_=>False
def KV{κ:Type}:List (κ × V)->List (κ × Value)->Prop:=Paired fun(p:κ × V) (q:κ × Value)=>p.1=q.1/\RelV p.2 q.2
def kV:Key->V
 | .inl i=> .int i
 | .inr x=> .str x
inductive HO where
 | lst (xs:List V)
 | tup (xs:List V)
 | dK (kvs:List (Key × V)) | dT (kvs:List (List Key × V))
 | set (S:Int->Bool) (n:Nat)
 | ins (C dx:Addr) (fs:List (Str × V))
 | own (x:Addr)
 | xd (fs:List (Str × V))
 | met (f x:Addr)
 | rng (lo hi:Int)
 | ki (o:Obj) (u:HO)
 | tbl (ps:Array Value)
 | ext (φ:Heap->Prop)
abbrev Hp:=Addr->Option HO
def upd(H:Hp)(a:Addr)(o:HO):Hp:=fun b=>if b=a then some o else H b
theorem bf{a:Addr}{o:HO}:upd H a o a=some o:=by unfold upd;rw [if_pos rfl]
theorem aZ{H:Hp}{a b:Addr}{o:HO}(h:b≠a):upd H a o b=H b:=by unfold upd;rw [if_neg h]
theorem cu{H:Hp}{a b:Addr}{o:HO}(h:H a=some o)(h':H b=none):a≠b:=by
 intro e;subst e;rw [h] at h';cases h'
section
variable (P:Program) (w:World)
def fE(H:Hp)(h:Heap)(a:Addr):HO->Prop
 | .lst xs=>xs.length<=sizeLine/\∃(its:List Value) (n:Nat),Vals xs its/\h.get? a=some {cls:= .type "list",data:= .seq its.toArray n}
 | .tup xs=>xs.length<=sizeLine/\∃its:List Value,Vals xs its/\IsTup h a its.toArray
 | .dK kvs=>kvs.length<=sizeLine/\(a==sysModules)=false/\∃vs,KV kvs vs/\h.DictOf (dD P w) a vs
 | .dT kvs=>kvs.length<=sizeLine/\(a==sysModules)=false/\∃xs:List (List Key × Addr × Value),
    Paired (fun(p:List Key × V) (q:List Key × Addr × Value)=>p.1=q.1/\H q.2.1=some (.tup (p.1.map kV))/\RelV p.2 q.2.2) kvs xs/\
    ∃o es ep,h.get? a=some o/\o.ExactDict/\o.data= .dict es ep/\es.toList=xs.map (entryOfKey (tupleKind (dD P w)))/\(xs.map (·.1)).Nodup
 | .set S n=>h.SetOf (intKind P w) a S n
 | .ins C dx fs=>H dx=some (.own a)/\fs.length<=1000/\dx≠a/\h.get? a=some (PySem.W.instObj C dx)/\
    ∃mA,h.Ns1 dx mA/\(∀f,pO (fs.lookup f) (mA f))/\PySem.Within mA (fs.map (·.1))
 | .own _=>∃o,h.get? a=some o
 | .xd fs=>∃mA,h.Ns1 a mA/\∀f,pO (fs.lookup f) (mA f)
 | .rng lo hi=>∃t u v,h.get? a=some {cls:= .type "range",data:= .fields #[.int lo t, .int hi u, .int 1 v]}
 | .ki o u=>h.get? a=some o/\fE H h a u
 | .tbl ps=>h.get? a=some {cls:= .none,data:= .fields ps}
 | .met f x=>h.get? a=some (PySem.W.methodObj (.ref f) (.ref x))
 | .ext φ=>φ h/\(∃o,h.get? a=some o)/\∀h1 h2:Heap,φ h1->(∀o,h1.get? a=some o->h2.get? a=some o)->φ h2
def oj(H:Hp)(h:Heap):Prop:=∀a o,H a=some o->fE P w H h a o
end
section
variable {P:Program} {w:World} {H H':Hp} {h h':Heap} {a:Addr} {o:HO}
theorem fE.lt(x:fE P w H h a o):a < h.objs.size:=by
 cases o with
 | lst xs=>obtain⟨_,_,_,_,e⟩:=x;exact Heap.lt_size e
 | tup xs=>obtain⟨_,_,_,p⟩:=x;exact p.lt
 | dK kvs=>obtain⟨_,_,_,_,o,_,_,e,_⟩:=x;exact Heap.lt_size e
 | dT kvs=>obtain⟨_,_,_,_,o,_,_,e,_⟩:=x;exact Heap.lt_size e
 | set S n=>obtain⟨o,_,_,_,e,_⟩:=x;exact Heap.lt_size e
 | ins C dx fs=>obtain⟨_,_,_,e,_⟩:=x;exact Heap.lt_size e
 | own y=>obtain⟨_,e⟩:=x;exact Heap.lt_size e
 | xd fs=>obtain⟨_,⟨_,_,_,e,_⟩,_⟩:=x;exact Heap.lt_size e
 | rng lo hi=>obtain⟨_,_,_,e⟩:=x;exact Heap.lt_size e
 | ki ob u=>obtain⟨e,_⟩:=x;exact Heap.lt_size e
 | tbl ps=>exact Heap.lt_size (show h.get? a=some _ from x)
 | met f y=>exact Heap.lt_size (show h.get? a=some _ from x)
 | ext φ=>obtain⟨_,⟨_,e⟩,_⟩:=x;exact Heap.lt_size e
theorem Paired.L5{α β:Type}{F G:α->β->Prop}:∀{Na:List α} {M5:List β},Paired F Na M5->(∀a b,F a b->G a b)->Paired G Na M5
 | _,_, .nil,_=> .nil
 | _,_, .cons r t,f=> .cons (f _ _ r) (Paired.L5 t f)
theorem fE.wo(x:fE P w H h a o)(k:∀b u,(b=a\/H b=some (.own a))->h.get? b=some u->h'.get? b=some u)
 (ho:∀b,H b=some (.own a)->H' b=some (.own a)) (ht:∀b xs,H b=some (.tup xs)->H' b=some (.tup xs)):fE P w H' h' a o:=by
 induction o with
 | lst xs=>obtain⟨z,its,n,r,e⟩:=x;exact⟨z,its,n,r,k _ _ (.inl rfl) e⟩
 | tup xs=>obtain⟨z,its,r,ob,e,c⟩:=x;exact⟨z,its,r,ob,k _ _ (.inl rfl) e,c⟩
 | dK kvs=>obtain⟨z,y,vs,r,ob,es,ep,e,c⟩:=x;exact⟨z,y,vs,r,ob,es,ep,k _ _ (.inl rfl) e,c⟩
 | dT kvs=>
   obtain⟨z,y,xs,r,ob,es,ep,e,c⟩:=x;exact⟨z,y,xs,Paired.L5 r fun p q z=>⟨z.1,ht _ _ z.2.1,z.2.2⟩,ob,es,ep,k _ _ (.inl rfl) e,c⟩
 | set S n=>obtain⟨ob,es,ep,t,e,c⟩:=x;exact⟨ob,es,ep,t,k _ _ (.inl rfl) e,c⟩
 | ins C dx fs=>
   obtain⟨d,z,ne,e,mA,⟨od,es,ep,e2,c⟩,r⟩:=x;exact⟨ho _ d,z,ne,k _ _ (.inl rfl) e,mA,⟨od,es,ep,k _ _ (.inr d) e2,c⟩,r⟩
 | own y=>obtain⟨ob,e⟩:=x;exact⟨ob,k _ _ (.inl rfl) e⟩
 | xd fs=>obtain⟨mA,⟨od,es,ep,e,c⟩,r⟩:=x;exact⟨mA,⟨od,es,ep,k _ _ (.inl rfl) e,c⟩,r⟩
 | rng lo hi=>obtain⟨t,u,v,e⟩:=x;exact⟨t,u,v,k _ _ (.inl rfl) e⟩
 | ki ob u ih=>obtain⟨e,q⟩:=x;exact⟨k _ _ (.inl rfl) e,ih q⟩
 | tbl ps=>
   have e:h.get? a=some {cls:= .none,data:= .fields ps}:=x;show h'.get? a=some {cls:= .none,data:= .fields ps};exact k a _ (.inl rfl) e
 | met f y=>
   have e:h.get? a=some (PySem.W.methodObj (.ref f) (.ref y)):=x;show h'.get? a=some (PySem.W.methodObj (.ref f) (.ref y));exact k a _ (.inl rfl) e
 | ext φ=>obtain⟨p,⟨o,e⟩,st⟩:=x;exact⟨st _ _ p fun o q=>k _ _ (.inl rfl) q,⟨o,k _ _ (.inl rfl) e⟩,st⟩
theorem oj.lt(x:oj P w H h)(e:H a=some o):a < h.objs.size:=(x a o e).lt
theorem oj.fresh(x:oj P w H h)(e:h.objs.size<=a):H a=none:=by
 cases q:H a with
 | none=>rfl
 | some u=>exact absurd (Nat.lt_of_lt_of_le (x.lt q) e) (Nat.lt_irrefl _)
theorem oj.kept(x:oj P w H h)(k:∀b u,h.get? b=some u->h'.get? b=some u):oj P w H h':=fun a o e=>
 (x a o e).wo (fun b u _ q=>k b u q) (fun _ q=>q) fun _ _ q=>q
theorem oj.laid(x:oj P w H h)(k:∀b u,h.get? b=some u->h'.get? b=some u)(hp:h.objs.size<=a)(new:fE P w (upd H a o) h' a o):oj P w (upd H a o) h':=fun b u e=>by
 have hn:=x.fresh hp;by_cases hb:b=a
 .subst hb;rw [bf] at e;cases e;exact new
 .rw [aZ hb] at e;exact(x b u e).wo (fun c v _ q=>k c v q) (fun c q=>by rw[aZ (cu q hn)];exact q) fun c xs q=>by rw[aZ (cu q hn)];exact q
end
def Rd(H:Hp)(a:Addr)(u:HO):Prop:=H a=some u\/∃o,H a=some (.ki o u)
theorem Rd.ok{a:Addr}{u:HO}(r:Rd H a u)(x:oj P w H h):fE P w H h a u:=by
 rcases r with r | ⟨o,r⟩
 .exact x a u r
 .obtain⟨_,q⟩:=x a _ r;exact q
def Ma:Option HO->Prop
 | some (.lst _)=>True
 | some (.dK _)=>True
 | some (.dT _)=>True
 | some (.set _ _)=>True
 | some (.ins _ _ _)=>True
 | some (.ext _)=>True
 | _=>False
section
variable {P:Program} {w:World} {H:Hp} {h h':Heap} {x e:Addr} {o':HO}
theorem oj.write(ok:oj P w H h)(mu:Ma (H x))(he:e=x\/H e=some (.own x))(k:∀b u,b≠e->h.get? b=some u->h'.get? b=some u)(F5:∃u,h'.get? e=some u)
 (new:fE P w (upd H x o') h' x o'):oj P w (upd H x o') h':=fun b u q=>by
 have nown:∀c y,H c=some (.own y)->c≠x:=fun c y r z=>by subst z;rw [r] at mu;exact mu
 have ntup:∀c xs,H c=some (.tup xs)->c≠x:=fun c xs r z=>by subst z;rw [r] at mu;exact mu
 by_cases hb:b=x
 .subst hb;rw [bf] at q;cases q;exact new
 .rw [aZ hb] at q;by_cases hbe:b=e
  .have q':H b=some (.own x):=by
    rcases he with z | z
    .exact absurd (hbe.trans z) hb
    .rw [hbe];exact z
   rw[q] at q';cases q';obtain⟨v,hv⟩:=F5;exact⟨v,by rw[hbe];exact hv⟩
  .refine(ok b u q).wo (fun c v hc r=>k c v ?_ r) (fun c r=>by rw[aZ (nown c b r)];exact r) fun c xs r=>by rw[aZ (ntup c xs r)];exact r
   rcases hc with rfl | hc
   .exact hbe
   .rintro rfl;rcases he with z | z
    .exact nown c b hc z
    .rw [hc] at z;cases z;exact hb rfl
end
structure Un (fs ex:List Addr) (H H':Hp) (h h':Heap):Prop where
 keep:∀b o,h.get? b=some o->H b=none->b ∉ fs->b ∉ ex->h'.get? b=some o
 slot:∀b o,h.get? b=some o->H b=none->b∈fs->b ∉ ex->∃sl,h'.get? b=some {o with slots:=sl}
 free:∀b o,h.get? b=some o->H b=none->b ∉ ex->H' b=none
 there:∀b o,h.get? b=some o->b ∉ ex->∃o',h'.get? b=some o'
 tups:∀b xs,H b=some (.tup xs)->H' b=some (.tup xs)
 frzs:∀b o u,H b=some (.ki o u)->H' b=some (.ki o u)
 tbls:∀b ps,H b=some (.tbl ps)->∃more,H' b=some (.tbl (ps++more))
section
variable {fs LA ex Vg:List Addr} {H H1 H2:Hp} {h h1 h2 h':Heap} {a x e:Addr} {o:HO}
theorem Un.any(u:Un fs ex H H1 h h1){b:Addr}{ob:Obj}(q:h.get? b=some ob)(n:H b=none)(hx:b ∉ ex):∃sl,h1.get? b=some {ob with slots:=sl}:=by
 by_cases hb:b∈fs
 .exact u.slot b ob q n hb hx
 .exact⟨ob.slots,u.keep b ob q n hb hx⟩
theorem Un.kept(k:∀b u,h.get? b=some u->h'.get? b=some u):Un fs ex H H h h':=
 ⟨fun b ob q _ _ _=>k b ob q,fun b ob q _ _ _=>⟨ob.slots,k b ob q⟩,fun _ _ _ n _=>n,fun b ob q _=>⟨ob,k b ob q⟩,fun _ _ q=>q,fun _ _ _ q=>q,fun _ ps q=>⟨#[],by rw[q];simp⟩⟩
theorem Un.refl:Un fs ex H H h h:=Un.kept fun _ _ q=>q
theorem Un.laid(k:∀b u,h.get? b=some u->h'.get? b=some u)(hp:h.objs.size<=a)(hn:H a=none):Un fs ex H (upd H a o) h h' where
 keep:=fun b u q _ _ _=>k b u q
 slot:=fun b u q _ _ _=>⟨u.slots,k b u q⟩
 free:=fun b u q n _=>by rw[aZ (Nat.ne_of_lt (Nat.lt_of_lt_of_le (Heap.lt_size q) hp))];exact n
 there:=fun b u q _=>⟨u,k b u q⟩
 tups:=fun b xs q=>by rw[aZ (cu q hn)];exact q
 frzs:=fun b u xs q=>by rw[aZ (cu q hn)];exact q
 tbls:=fun b ps q=>⟨#[],by rw[aZ (cu q hn),q];simp⟩
theorem Un.write(mu:Ma (H x))(he:e=x\/H e=some (.own x))(k:∀b u,b≠e->h.get? b=some u->h'.get? b=some u)(F5:∃u,h'.get? e=some u):Un fs ex H (upd H x o) h h':=by
 have hx:∀b,H b=none->b≠x:=fun b n z=>by subst z;rw [n] at mu;exact mu
 have hb:∀b,H b=none->b≠e:=fun b n z=>by
  subst z;rcases he with r | r
  .exact hx b n r
  .rw [n] at r;cases r
 have hm:∀b u,H b=some u->¬Ma (some u)->b≠x:=fun b u q nm z=>by subst z;rw [q] at mu;exact nm mu
 refine⟨fun b u q n _ _=>k b u (hb b n) q,fun b u q n _ _=>⟨u.slots,k b u (hb b n) q⟩,fun b u q n _=>by rw[aZ (hx b n)];exact n,fun b u q _=>?_,
  fun b xs q=>by rw[aZ (hm b _ q fun z=>z)];exact q,fun b u xs q=>by rw[aZ (hm b _ q fun z=>z)];exact q,fun b ps q=>⟨#[],by rw[aZ (hm b _ q fun z=>z),q];simp⟩⟩
 by_cases hbe:b=e
 .subst hbe;exact F5
 .exact⟨u,k b u hbe q⟩
end
def NH(h:Heap)(H:Hp):List Addr:=(List.range h.objs.size).filter fun a=>(H a).isSome
def wJ(h:Heap)(H:Hp):Heap:=PySem.W.hideAll h (NH h H)
theorem BY(h:Heap)(H:Hp):(wJ h H).objs.size=h.objs.size:=PySem.W.hideAll_size _ _
theorem EX{h:Heap}{H:Hp}{b:Addr}{o:Obj}(e:h.get? b=some o)(n:H b=none):(wJ h H).get? b=some o:=
 PySem.W.hideAll_get _ e fun hm=>by
  have q:(H b).isSome=true:=(List.mem_filter.mp hm).2;rw[n] at q;simp at q
theorem Gb{h:Heap}{H:Hp}{b:Addr}{o:Obj}(e:(wJ h H).get? b=some o):h.get? b=some o/\H b=none:=by
 have e':h.get? b=some o:=PySem.W.of_hideAll (NH h H) e;refine⟨e',?_⟩;cases q:H b with
 | none=>rfl
 | some x=>
   have hm:b∈NH h H:=List.mem_filter.mpr ⟨List.mem_range.mpr (Heap.lt_size e'),by simp [q]⟩
   have z:(wJ h H).get? b=none:=PySem.W.hideAll_none (NH h H) hm;rw[z] at e;cases e
def Hb(g h:Heap)(L:Addr):Vr:=(List.range h.objs.size).filterMap fun a=>if a=L\/(g.get? a).isSome=true then none else(h.get? a).map fun o=>(a,o)
def rest(g h:Heap)(L d:Addr):Vr:=(Hb g h L).filter fun p=>decide (p.1≠d)
structure Mod (K:W.Frag) (mg:Vw) (base:Heap):Prop where
 kin:K.In base
 glob:base.Ns mainGlobals mg
 blt:∃mb,base.Ns builtinsNs mb/\∀x:Str,x≠"__name__"->mb x=bootBuiltins x
 nolimit:base.NoLimit
structure Cx where
 prog:Program
 w:World
 K:W.Frag
 mg:Vw
 base:Heap
 A:Around
 N:List Str
 s₀:Shared
 H₀:Hp
 env:Env
 outer:List Env
 stack:List Env
 ex:List Addr
 fn:Str->Bool
 calm:Bool
 pn:Vr
 xe:Vs
def CW(l:List Env):List Addr:=l.filterMap (·.frame)
abbrev Cx.fs(X:Cx):List Addr:=CW X.outer
def Gr(sc:Scope)(x:Str):Prop:=sc.names.lookup x=some .local\/sc.names.lookup x=some .cell\/sc.names.lookup x=some .free
def Loc(sc:Scope)(x:Str):Prop:=sc.names.lookup x=some .local\/sc.names.lookup x=some .cell
def Look(env:Env)(h:Heap)(m:Vw)(x:Str)(u:Value):Prop:=
 (env.kindOf x=some .local/\m x=some u)\/((env.kindOf x=some .cell\/env.kindOf x=some .free)/\∃c,env.cells.lookup x=some c/\h.IsCell c (some u))
structure Cx.Ok (X:Cx):Prop where
 mod:Mod X.K X.mg X.base
 kind:X.env.scope.kind= .function
 glob:X.env.globals=mainGlobals
 blt:X.env.builtins=builtinsNs
 above:X.s₀.heap.objs.size<=X.env.locals
 inj:∀x y c,X.env.cells.lookup x=some c->X.env.cells.lookup y=some c->x=y
 has:∀x,(X.env.kindOf x=some .cell\/X.env.kindOf x=some .free)->∃c,X.env.cells.lookup x=some c
 cab:∀x c,X.fn x=true->X.env.cells.lookup x=some c->X.s₀.heap.objs.size<=c
 hd:X.calm=true->X.A.handled=none
 frames:X.A.frames=some X.stack
 stk:X.stack=X.outer\/(X.stack=X.env ::X.outer/\X.env.frame=some X.env.locals)
 exf:∀b∈X.ex,b≠X.env.locals/\∀x c,X.env.cells.lookup x=some c->c≠b
 bs:∀b o,X.base.get? b=some o->X.s₀.heap.get? b=some o/\X.H₀ b=none
 bsz:X.base.objs.size<=X.s₀.heap.objs.size
 noex:∀b o,X.base.get? b=some o->b ∉ X.ex
 exfs:∀b∈X.ex,b ∉ X.fs
 rH:X.s₀.heap.FunFrames X.base X.outer
 frf:∀b∈X.fs,X.H₀ b=none
structure Inv (X:Cx) (pins:Vr) (σ:List (Option V)) (H:Hp) (s:Shared):Prop where
 ok:X.Ok
 os:s.os=X.s₀.os
 bare:AllBare s.gens
 base:Un X.fs X.ex X.H₀ H X.s₀.heap s.heap
 loc:∃m,s.heap.Ns X.env.locals m/\∀(i:Nat) (x:Str) (v:V),X.N[i]? =some x->σ[i]? =some (some v)->Gr X.env.scope x->∃u,RelV v u/\Look X.env s.heap m x u
 cell:∀x c,X.env.cells.lookup x=some c->∃v,s.heap.IsCell c v
 free:H X.env.locals=none
 freeC:∀x c,X.env.cells.lookup x=some c->H c=none
 pin:∀p∈X.pn++pins,s.heap.get? p.1=some p.2/\H p.1=none/\p.1≠X.env.locals/\p.1 ∉ X.fs/\∀v,p.2.data≠ .cell v
 hok:oj X.prog X.w H s.heap
 len:σ.length=X.N.length
section
variable {X:Cx} {pins:Vr} {σ:List (Option V)} {H H':Hp} {s:Shared} {h':Heap}
theorem Cx.Ok.NW(ok:X.Ok){b:Addr}{o:Obj}(e:X.base.get? b=some o):b ∉ X.fs:=fun hb=>by
 have:=(ok.rH.mem hb).1;rw[e] at this;cases this
theorem Inv.bs(I:Inv X pins σ H s):∀b o,X.base.get? b=some o->s.heap.get? b=some o/\H b=none:=fun b o e=>
 ⟨I.base.keep b o (I.ok.bs b o e).1 (I.ok.bs b o e).2 (I.ok.NW e) (I.ok.noex b o e),I.base.free b o (I.ok.bs b o e).1 (I.ok.bs b o e).2 (I.ok.noex b o e)⟩
theorem Inv.bk(I:Inv X pins σ H s):∀b o,X.base.get? b=some o->s.heap.get? b=some o:=fun b o e=>(I.bs b o e).1
theorem Inv.mod(I:Inv X pins σ H s):Mod X.K X.mg X.base:=I.ok.mod
theorem Inv.AR(I:Inv X pins σ H s):X.K.In s.heap:=I.ok.mod.kin.keeps I.bk
theorem Inv.lt(I:Inv X pins σ H s):X.env.locals < s.heap.objs.size:=let⟨_,hn,_⟩:=I.loc;hn.lt
theorem Inv.sz(I:Inv X pins σ H s):X.s₀.heap.objs.size<=s.heap.objs.size:=Nat.le_trans I.ok.above (Nat.le_of_lt I.lt)
theorem Inv.N7(I:Inv X pins σ H s){a:Addr}(h:s.heap.objs.size<=a):a ∉ X.fs:=fun hb=>by
 obtain⟨_,o,ho,_⟩:=I.ok.rH.mem hb;exact absurd (Nat.lt_of_lt_of_le (Heap.lt_size ho) (Nat.le_trans I.sz h)) (Nat.lt_irrefl _)
theorem Inv.KS(I:Inv X pins σ H s):∀x c,X.env.cells.lookup x=some c->c≠X.env.locals:=fun x c e z=>by
 obtain⟨v,o,ho,hd⟩:=I.cell x c e;obtain⟨m,⟨o',es,ep,FC,Nm,_⟩,_⟩:=I.loc;rw[z,FC] at ho;cases ho;rw [Nm] at hd;cases hd
theorem Inv.rH(I:Inv X pins σ H s):s.heap.FunFrames X.base X.outer:=by
 have all:∀(l:List Env),(∀b∈CW l,b∈X.fs)->X.s₀.heap.FunFrames X.base l->s.heap.FunFrames X.base l:=by
  intro l
  induction l with
  | nil=>intro _ _;trivial
  | cons env r ih=>
    intro hs hl;obtain⟨hk,⟨L,o,hf,hn,ho,hd⟩,hr⟩:=hl;have hL:L∈X.fs:=hs L (by unfold CW;rw [List.filterMap_cons,hf];exact List.mem_cons_self)
    obtain⟨sl,e⟩:=I.base.slot L o ho (I.ok.frf L hL) hL fun z=>I.ok.exfs L z hL
    exact⟨hk,⟨L,_,hf,hn,e,hd⟩,ih (fun b hb=>hs b (by unfold CW;rw [List.filterMap_cons,hf];exact List.mem_cons_of_mem _ hb)) hr⟩
 exact all X.outer (fun _ hb=>hb) I.ok.rH
theorem Inv.stack(I:Inv X pins σ H s):s.heap.FunFrames X.base X.stack:=by
 rcases I.ok.stk with e | ⟨e,hf⟩
 .rw [e];exact I.rH
 .rw [e];obtain⟨m,hn,_⟩:=I.loc;refine .cons (by rw[I.ok.kind];decide) hf hn ?_ I.rH
  exact Heap.get?_none_of_le (Nat.le_trans I.ok.bsz I.ok.above)
theorem Inv.y_(I:Inv X pins σ H s):∀b∈CW X.stack,b∈X.env.locals ::X.fs:=fun b hb=>by
 rcases I.ok.stk with e | ⟨e,hf⟩
 .rw [e] at hb;exact List.mem_cons_of_mem _ hb
 .rw [e] at hb;unfold CW at hb;rw[List.filterMap_cons,hf] at hb;exact hb
theorem Inv.A4(I:Inv X pins σ H s):∀b∈CW X.stack,H b=none:=fun b hb=>by
 rcases List.mem_cons.mp (I.y_ b hb) with e | hb
 .rw [e];exact I.free
 .obtain⟨_,o,ho,_⟩:=I.ok.rH.mem hb;exact I.base.free b o ho (I.ok.frf b hb) fun z=>I.ok.exfs b z hb
theorem Inv.step{g':Array GenState}{t':Nat}{d':Drawn}{ch:List Addr}(I:Inv X pins σ H s)
 (F7:∀b∈ch,(b∈X.ex\/X.s₀.heap.objs.size<=b)/\b≠X.env.locals/\(∀x c,X.env.cells.lookup x=some c->c≠b)/\∀p∈X.pn++pins,p.1≠b)
 (keep:∀b o,b≠X.env.locals->b ∉ X.fs->b ∉ ch->s.heap.get? b=some o->H b=none->h'.get? b=some o)
 (slot:∀b o,b≠X.env.locals->b∈X.fs->b ∉ ch->s.heap.get? b=some o->H b=none->∃sl,h'.get? b=some {o with slots:=sl}) (free:∀b o,b ∉ ch->s.heap.get? b=some o->H b=none->H' b=none)
 (there:∀b o,b ∉ ch->s.heap.get? b=some o->∃o',h'.get? b=some o')
 (tups:∀b xs,H b=some (.tup xs)->H' b=some (.tup xs)) (frzs:∀b o u,H b=some (.ki o u)->H' b=some (.ki o u)) (tbls:∀b ps,H b=some (.tbl ps)->∃more,H' b=some (.tbl (ps++more)))
 (ns:∀m,s.heap.Ns X.env.locals m->h'.Ns X.env.locals m) (hok:oj X.prog X.w H' h') (hg:AllBare g') :
 Inv X pins σ H' {s with heap:=h',gens:=g',drawn:=d',toks:=t'}:=by
 have neL:∀b o,X.s₀.heap.get? b=some o->b≠X.env.locals:=fun b o e=>Nat.ne_of_lt (Nat.lt_of_lt_of_le (Heap.lt_size e) I.ok.above)
 have neC:∀b o,X.s₀.heap.get? b=some o->b ∉ X.ex->b ∉ ch:=fun b o e hx hb=>by
  rcases(F7 b hb).1 with z | z
  .exact hx z
  .exact absurd (Nat.lt_of_lt_of_le (Heap.lt_size e) z) (Nat.lt_irrefl _)
 have cellK:∀x c,X.env.cells.lookup x=some c->∀v,s.heap.IsCell c v->h'.IsCell c v:=fun x c e v ⟨o,ho,hd⟩=>by
  have nch:c ∉ ch:=fun z=>(F7 c z).2.2.1 x c e rfl
  by_cases hc:c∈X.fs
  .obtain⟨sl,q⟩:=slot c o (I.KS x c e) hc nch ho (I.freeC x c e);exact⟨_,q,hd⟩
  .exact⟨o,keep c o (I.KS x c e) hc nch ho (I.freeC x c e),hd⟩
 refine⟨I.ok,I.os,hg,⟨fun b o e n hb hx=>?_,fun b o e n hb hx=>?_,fun b o e n hx=>?_,fun b o e hx=>?_,fun b xs e=>tups b xs (I.base.tups b xs e),fun b o xs e=>frzs b o xs (I.base.frzs b o xs e),fun b ps e=>?_⟩,?_,fun x c e=>?_,?_,fun x c e=>?_,fun p hp=>?_,hok,I.len⟩
 .exact keep b o (neL b o e) hb (neC b o e hx) (I.base.keep b o e n hb hx) (I.base.free b o e n hx)
 .obtain⟨sl,e1⟩:=I.base.slot b o e n hb hx;obtain⟨TQ,e2⟩:=slot b _ (neL b o e) hb (neC b o e hx) e1 (I.base.free b o e n hx);exact⟨TQ,e2⟩
 .obtain⟨o',e1⟩:=I.base.there b o e hx;exact free b o' (neC b o e hx) e1 (I.base.free b o e n hx)
 .obtain⟨o',e1⟩:=I.base.there b o e hx;exact there b o' (neC b o e hx) e1
 .obtain⟨m1,e1⟩:=I.base.tbls b ps e;obtain⟨m2,e2⟩:=tbls b _ e1;exact⟨m1++m2,by rw[e2,Array.append_assoc]⟩
 .obtain⟨m,hn,hl⟩:=I.loc;refine⟨m,ns m hn,fun i x v e1 e2 e3=>?_⟩
  obtain⟨u,r,l⟩:=hl i x v e1 e2 e3;refine⟨u,r,?_⟩;rcases l with l | ⟨k,c,e,z⟩
  .exact .inl l
  .exact .inr ⟨k,c,e,cellK x c e _ z⟩
 .obtain⟨v,z⟩:=I.cell x c e;exact⟨v,cellK x c e v z⟩
 .obtain⟨m,⟨o,_,_,ho,_⟩,_⟩:=I.loc;exact free _ o (fun z=>(F7 _ z).2.1 rfl) ho I.free
 .obtain⟨v,o,ho,hd⟩:=I.cell x c e;exact free c o (fun z=>(F7 c z).2.2.1 x c e rfl) ho (I.freeC x c e)
 .obtain⟨e,n,ne,nf,d⟩:=I.pin p hp;have nch:p.1 ∉ ch:=fun z=>(F7 p.1 z).2.2.2 p hp rfl
  exact⟨keep p.1 p.2 ne nf nch e n,free p.1 p.2 nch e n,ne,nf,d⟩
theorem Inv.un{t':Nat}(I:Inv X pins σ H s)(u:Un X.fs [] H H' s.heap h')(hok:oj X.prog X.w H' h'):Inv X pins σ H' {s with heap:=h',toks:=t'}:=by
 obtain⟨m,⟨o,es,ep,ho,r⟩,_⟩:=id I.loc;obtain⟨sl,hL⟩:=u.any ho I.free (by simp)
 exact I.step (g':=s.gens) (d':=s.drawn) (ch:=[]) (fun _ z=>nomatch z) (fun b o _ hb _ e n=>u.keep b o e n hb (by simp)) (fun b o _ hb _ e n=>u.slot b o e n hb (by simp)) (fun b o _ e n=>u.free b o e n (by simp)) (fun b o _ e=>u.there b o e (by simp)) u.tups u.frzs u.tbls (fun m' hm=>by
  obtain⟨o',Qb,Qg,FC,r'⟩:=hm;rw[ho] at FC;cases FC;exact⟨_,Qb,Qg,hL,r'⟩) hok I.bare
theorem Inv.call{g':Array GenState}{t':Nat}{d':Drawn}{ch:List Addr}(I:Inv X pins σ H s)(u:Un (CW X.stack) ch H H' s.heap h')(hok:oj X.prog X.w H' h')(hg:AllBare g')
 (F7:∀b∈ch,(b∈X.ex\/X.s₀.heap.objs.size<=b)/\b≠X.env.locals/\(∀x c,X.env.cells.lookup x=some c->c≠b)/\∀p∈X.pn++pins,p.1≠b) :
 Inv X pins σ H' {s with heap:=h',gens:=g',drawn:=d',toks:=t'}:=by
 obtain⟨m,⟨o,es,ep,ho,r⟩,_⟩:=id I.loc;obtain⟨sl,hL⟩:=u.any ho I.free fun z=>(F7 _ z).2.1 rfl
 exact I.step (ch:=ch) F7 (fun b o hL hb hc e n=>u.keep b o e n (fun z=>(List.mem_cons.mp (I.y_ b z)).elim hL hb) hc) (fun b o _ _ hc e n=>u.any e n hc) (fun b o hc e n=>u.free b o e n hc) (fun b o hc e=>u.there b o e hc) u.tups u.frzs u.tbls (fun m' hm=>by
  obtain⟨o',Qb,Qg,FC,r'⟩:=hm;rw[ho] at FC;cases FC;exact⟨_,Qb,Qg,hL,r'⟩) hok hg
theorem Inv.turned{t':Nat}{it:Addr}(I:Inv X pins σ H s)(k:∀b o,b≠it->s.heap.get? b=some o->h'.get? b=some o)(hn:H it=none)(hL:it≠X.env.locals)
 (h1:it∈X.ex\/X.s₀.heap.objs.size<=it) (h2:∀x c,X.env.cells.lookup x=some c->c≠it) (h3:∀p∈X.pn++pins,p.1≠it):Inv X pins σ H {s with heap:=h',toks:=t'}:=by
 have nit:∀b u,H b=some u->b≠it:=fun b u e z=>by rw[z,hn] at e;cases e
 refine I.step (g':=s.gens) (d':=s.drawn) (ch:=[it]) (fun b hb=>?_) (fun b o _ _ hc e _=>k b o (fun z=>hc (by simp [z])) e) (fun b o _ _ hc e _=>⟨o.slots,k b o (fun z=>hc (by simp [z])) e⟩) (fun _ _ _ _ n=>n)
  (fun b o hc e=>⟨o,k b o (fun z=>hc (by simp [z])) e⟩) (fun _ _ e=>e) (fun _ _ _ e=>e) (fun b ps e=>⟨#[],by rw[e];simp⟩) (fun m hm=>?_) (fun b u e=>?_) I.bare
 .have e:b=it:=by simpa using hb
  subst e;exact⟨h1,hL,h2,h3⟩
 .obtain⟨o,es,ep,ho,r⟩:=hm;exact⟨o,es,ep,k _ o (Ne.symm hL) ho,r⟩
 .refine(I.hok b u e).wo (fun c v hc q=>k c v ?_ q) (fun _ q=>q) fun _ _ q=>q
  rcases hc with z | z
  .rw [z];exact nit b u e
  .exact nit c _ z
theorem Inv.tok(I:Inv X pins σ H s)(t:Nat):Inv X pins σ H {s with toks:=t}:=I.un (h':=s.heap) (t':=t) Un.refl I.hok
theorem Inv.kept{t':Nat}(I:Inv X pins σ H s)(k:∀b u,s.heap.get? b=some u->h'.get? b=some u):Inv X pins σ H {s with heap:=h',toks:=t'}:=I.un (Un.kept k) (I.hok.kept k)
theorem Inv.laid{a:Addr}{o:HO}{t':Nat}(I:Inv X pins σ H s)(k:∀b u,s.heap.get? b=some u->h'.get? b=some u)(hp:s.heap.objs.size<=a)(new:fE X.prog X.w (upd H a o) h' a o) :
 Inv X pins σ (upd H a o) {s with heap:=h',toks:=t'}:=I.un (Un.laid k hp (I.hok.fresh hp)) (I.hok.laid k hp new)
theorem Inv.write{x e:Addr}{o:HO}{t':Nat}(I:Inv X pins σ H s)(mu:Ma (H x))(he:e=x\/H e=some (.own x))(k:∀b u,b≠e->s.heap.get? b=some u->h'.get? b=some u)(F5:∃u,h'.get? e=some u)
 (new:fE X.prog X.w (upd H x o) h' x o):Inv X pins σ (upd H x o) {s with heap:=h',toks:=t'}:=I.un (Un.write mu he k F5) (I.hok.write mu he k F5 new)
theorem Inv.Bs{IF:Vr}(I:Inv X pins σ H s)(h:∀p∈IF,s.heap.get? p.1=some p.2/\H p.1=none/\p.1≠X.env.locals/\p.1 ∉ X.fs/\∀v,p.2.data≠ .cell v):Inv X IF σ H s:=
 ⟨I.ok,I.os,I.bare,I.base,I.loc,I.cell,I.free,I.freeC,fun p hp=>(List.mem_append.mp hp).elim (fun z=>I.pin p (List.mem_append_left _ z)) (h p),I.hok,I.len⟩
theorem xB{N:List Str}(hN:N.Nodup){i j:Nat}(a:N[i]? =some x)(b:N[j]? =some x):i=j:=by
 obtain⟨h1,e1⟩:=List.getElem?_eq_some_iff.mp a;obtain⟨h2,e2⟩:=List.getElem?_eq_some_iff.mp b;exact(List.getElem_inj hN).mp (e1.trans e2.symm)
theorem vk{M:Model}{A:Around}{E:Vs}{i:Nat}{x:Str}{v:V}{u:Value}{Q:Unit->Shared->Prop}(I:Inv X pins σ H s)(hN:X.N.Nodup)(hi:X.N[i]? =some x)(hx:Loc X.env.scope x)(r:RelV v u)
 (h:∀s',Inv X pins (σ.set i (some v)) H s'->(∃a,Heap.SameBut a s.heap s'.heap/\(a=X.env.locals\/X.env.cells.lookup x=some a))->Q () s') (hf:X.fn x=true\/X.env.scope.names.lookup x=some .local:=by first | exact .inl rfl | exact .inr rfl | assumption):wpAny M A (storeName X.env x u) Q E s:=by
 obtain⟨m,hn,hl⟩:=id I.loc;have hcls:(X.env.scope.kind== .class || (X.env.scope.kind== .module && X.env.locals !=X.env.globals))=false:=by rw[I.ok.kind];rfl
 have hiσ:i < σ.length:=by rw[I.len];exact(List.getElem?_eq_some_iff.mp hi).1
 have KS:=I.KS;have tracked:∀{a:Addr} {h':Heap},(∃o,s.heap.get? a=some o/\H a=none)->Heap.SameBut a s.heap h'->oj X.prog X.w H h':=fun {a h'} ha hs b ob e=>by
  obtain⟨_,_,hfree⟩:=ha;refine(I.hok b ob e).wo (fun c w' hc q=>(hs.2 c ?_).trans q) (fun _ q=>q) fun _ _ q=>q
  rintro rfl;rcases hc with rfl | hc
  .rw [hfree] at e;cases e
  .rw [hfree] at hc;cases hc
 rcases hx with hk | hk
 .refine wpAny_storeName_local hk hn (fun h' Qh hs=>?_) hcls
  obtain⟨oL,_,_,hoL,_⟩:=id hn;refine h _ ⟨I.ok,I.os,I.bare,⟨fun b o e n hb hx=>?_,fun b o e n hb hx=>?_,I.base.free,fun b o e hx=>?_,I.base.tups,I.base.frzs,I.base.tbls⟩,⟨_,Qh,fun j y v' e1 e2 e3=>?_⟩,fun y c e=>?_,I.free,I.freeC,fun p hp=>?_,tracked ⟨oL,hoL,I.free⟩ hs,by simpa using I.len⟩ ⟨_,hs, .inl rfl⟩
  .exact(hs.2 b (Nat.ne_of_lt (Nat.lt_of_lt_of_le (Heap.lt_size e) I.ok.above))).trans (I.base.keep b o e n hb hx)
  .obtain⟨sl,e1⟩:=I.base.slot b o e n hb hx;exact⟨sl,(hs.2 b (Nat.ne_of_lt (Nat.lt_of_lt_of_le (Heap.lt_size e) I.ok.above))).trans e1⟩
  .obtain⟨o',e1⟩:=I.base.there b o e hx;exact⟨o',(hs.2 b (Nat.ne_of_lt (Nat.lt_of_lt_of_le (Heap.lt_size e) I.ok.above))).trans e1⟩
  .by_cases hj:j=i
   .subst hj;rw[hi] at e1;cases e1;rw[List.getElem?_set_self hiσ] at e2;cases e2;exact⟨u,r, .inl ⟨hk,by simp⟩⟩
   .rw [List.getElem?_set_ne (Ne.symm hj)] at e2;obtain⟨u',r',q⟩:=hl j y v' e1 e2 e3;refine⟨u',r',?_⟩;rcases q with⟨k,e⟩ | ⟨k,c,e,z⟩
    .refine .inl ⟨k,?_⟩;have:y≠x:=fun e=>hj (xB hN e1 (e▸hi))
     simp [this,e]
    .exact .inr ⟨k,c,e,z.sameBut hs (KS y c e)⟩
  .obtain⟨w',z⟩:=I.cell y c e;exact⟨w',z.sameBut hs (KS y c e)⟩
  .obtain⟨e,n,ne,nf,d⟩:=I.pin p hp;exact⟨(hs.2 p.1 ne).trans e,n,ne,nf,d⟩
 .have hfn:X.fn x=true:=by
   rcases hf with z | z
   .exact z
   .rw [z] at hk;cases hk
  obtain⟨c,hc⟩:=I.ok.has x (.inl hk);obtain⟨w',z⟩:=I.cell x c hc;refine wpAny_storeName_cell I.ok.kind hk hc z (fun h' CY hs=>?_)
  obtain⟨oc,hoc,hocd⟩:=id z;refine h {s with heap:=h'} ⟨I.ok,I.os,I.bare,⟨fun b o e n hb hx=>?_,fun b o e n hb hx=>?_,I.base.free,fun b o e hx=>?_,I.base.tups,I.base.frzs,I.base.tbls⟩,⟨m,hn.sameBut hs (Ne.symm (KS x c hc)),fun j y v' e1 e2 e3=>?_⟩,fun y c' e=>?_,I.free,I.freeC,fun p hp=>?_,tracked ⟨oc,hoc,I.freeC x c hc⟩ hs,by simpa using I.len⟩ ⟨c,hs, .inr hc⟩
  .exact(hs.2 b (Nat.ne_of_lt (Nat.lt_of_lt_of_le (Heap.lt_size e) (I.ok.cab x c hfn hc)))).trans (I.base.keep b o e n hb hx)
  .obtain⟨sl,e1⟩:=I.base.slot b o e n hb hx;exact⟨sl,(hs.2 b (Nat.ne_of_lt (Nat.lt_of_lt_of_le (Heap.lt_size e) (I.ok.cab x c hfn hc)))).trans e1⟩
  .obtain⟨o',e1⟩:=I.base.there b o e hx;exact⟨o',(hs.2 b (Nat.ne_of_lt (Nat.lt_of_lt_of_le (Heap.lt_size e) (I.ok.cab x c hfn hc)))).trans e1⟩
  .by_cases hj:j=i
   .subst hj;rw[hi] at e1;cases e1;rw[List.getElem?_set_self hiσ] at e2;cases e2;exact⟨u,r, .inr ⟨.inl hk,c,hc,CY⟩⟩
   .rw [List.getElem?_set_ne (Ne.symm hj)] at e2;obtain⟨u',r',q⟩:=hl j y v' e1 e2 e3;refine⟨u',r',?_⟩;rcases q with q | ⟨k,c',e,z'⟩
    .exact .inl q
    .refine .inr ⟨k,c',e,z'.sameBut hs ?_⟩;rintro rfl;exact hj (xB hN e1 (I.ok.inj _ _ _ e hc▸hi))
  .by_cases hcc:c'=c
   .subst hcc;exact⟨_,CY⟩
   .obtain⟨w2,z2⟩:=I.cell y c' e;exact⟨w2,z2.sameBut hs hcc⟩
  .obtain⟨e,n,ne,nf,d⟩:=I.pin p hp;refine⟨(hs.2 p.1 ?_).trans e,n,ne,nf,d⟩;intro q;rw[q,hoc] at e;have q':oc=p.2:=Option.some.inj e;exact d w' (by rw[<-q'];exact hocd)
theorem xV{M:Model}{A:Around}{E:Vs}{i:Nat}{x:Str}{v:V}{u:Value}{Q:Unit->Shared->Prop}(I:Inv X pins σ H s)(hN:X.N.Nodup)(hi:X.N[i]? =some x)(hx:Loc X.env.scope x)(r:RelV v u)
 (h:∀s',Inv X pins (σ.set i (some v)) H s'->Q () s') (hf:X.fn x=true\/X.env.scope.names.lookup x=some .local:=by first | exact .inl rfl | exact .inr rfl | assumption):wpAny M A (storeName X.env x u) Q E s:=
 vk I hN hi hx r (fun s' I' _=>h s' I') hf
theorem Inv.MU{s':Shared}{ch:List Addr}(I:Inv X pins σ H s)(ho:s'.os=s.os)(u:Un (CW X.stack) ch H H' s.heap s'.heap)(hok:oj X.prog X.w H' s'.heap)(hg:AllBare s'.gens)
 (F7:∀b∈ch,(b∈X.ex\/X.s₀.heap.objs.size<=b)/\b≠X.env.locals/\(∀x c,X.env.cells.lookup x=some c->c≠b)/\∀p∈X.pn++pins,p.1≠b):Inv X pins σ H' s':=by
 obtain⟨h',g',d',t',o'⟩:=s';have e:o'=s.os:=ho;subst e;exact I.call (g':=g') (t':=t') (d':=d') u hok hg F7
end
abbrev XK:=Value->Option Addr->Hp->Prop
abbrev St:=List (Option V)
abbrev VK:=V->Hp->Prop
abbrev TE:=St->Hp->VK->Prop
abbrev TT:=St->Hp->(Bool->Hp->Prop)->Prop
abbrev TA:=St->Hp->(List V->Hp->Prop)->Prop
structure Ends where
 nx:St->Hp->Prop
 rt:VK
 bk:St->Hp->Prop:=fun _ _=>False
 ct:St->Hp->Prop:=fun _ _=>False
abbrev TS:=Ends->St->Hp->Prop
def EP(X:Cx)(pins:Vr)(σ:St)(Q:VK)(u:Value)(s':Shared):Prop:=∃v H',Inv X pins σ H' s'/\RelV v u/\Q v H'
def TP(X:Cx)(pins:Vr)(σ:St)(Q:Bool->Hp->Prop)(b:Bool)(s':Shared):Prop:=∃H',Inv X pins σ H' s'/\Q b H'
def AP(X:Cx)(pins:Vr)(σ:St)(Q:List V->Hp->Prop)(us:List Value)(s':Shared):Prop:=∃vs H',Inv X pins σ H' s'/\Vals vs us/\Q vs H'
def SP(X:Cx)(pins:Vr)(D:Ends)(f:Flow)(s':Shared):Prop:=
 match f with
 | .next=>∃dw H',Inv X pins dw H' s'/\D.nx dw H'
 | .brk=>∃dw H',Inv X pins dw H' s'/\D.bk dw H'
 | .cont=>∃dw H',Inv X pins dw H' s'/\D.ct dw H'
 | .ret u=>∃v dw H',Inv X pins dw H' s'/\RelV v u/\D.rt v H'
def PE(X:Cx)(e:Expr)(t:TE):Prop:=
 ∀(pins:Vr) (s:Shared) (σ:St) (H:Hp) (Q:VK),Inv X pins σ H s->t σ H Q->wpAny (model X.prog X.w) X.A (eval e X.env) (EP X pins σ Q) X.xe s
def PT(X:Cx)(e:Expr)(t:TT):Prop:=
 ∀(pins:Vr) (s:Shared) (σ:St) (H:Hp) (Q:Bool->Hp->Prop),Inv X pins σ H s->t σ H Q->wpAny (model X.prog X.w) X.A (isTrue e X.env (eval e X.env)) (TP X pins σ Q) X.xe s
def PW(X:Cx)(e:Expr)(t:TT):Prop:=
 ∀(whole:Sem Value) (pins:Vr) (s:Shared) (σ:St) (H:Hp) (Q:Bool->Hp->Prop),Inv X pins σ H s->t σ H Q->wpAny (model X.prog X.w) X.A (isTrue e X.env whole) (TP X pins σ Q) X.xe s
theorem PW.pt{X:Cx}{t:TT}(h:PW X e t):PT X e t:=h _
def PA(X:Cx)(es:List Expr)(t:TA):Prop:=
 ∀(pos:Pos) (pins:Vr) (s:Shared) (σ:St) (H:Hp) (Q:List V->Hp->Prop),Inv X pins σ H s->t σ H Q->wpAny (model X.prog X.w) X.A (spliced (backTo pos (starEach es X.env))) (AP X pins σ Q) X.xe s
def PS(X:Cx)(st:Stmt)(t:TS):Prop:=
 ∀(pins:Vr) (s:Shared) (σ:St) (H:Hp) (D:Ends),Inv X pins σ H s->t D σ H->wpAny (model X.prog X.w) X.A (exec st X.env) (SP X pins D) X.xe s
def xm(X:Cx)(st:List Stmt)(t:TS):Prop:=
 ∀(pins:Vr) (s:Shared) (σ:St) (H:Hp) (D:Ends),Inv X pins σ H s->t D σ H->wpAny (model X.prog X.w) X.A (execs st X.env) (SP X pins D) X.xe s
theorem eI{α:Type}{t:Sem α}{Q Q':α->Shared->Prop}{M:Model}{E:Vs}{s:Shared}(h:wpAny M A t Q E s)(hQ:∀a s,Q a s->Q' a s):wpAny M A t Q' E s:=wpAny_mono h hQ fun _ _ x=>x
section
variable {X:Cx}
def OA(i:Nat):TE:=fun σ H Q=>∃v,σ[i]? =some (some v)/\Q v H
def tC(v:V):TE:=fun _ H Q=>Q v H
theorem tR{i:Nat}{pos:Pos}(hN:X.N[i]? =some x)(hv:Gr X.env.scope x)(hd:(x==("__debug__":Str))=false:=by decide)(uk:(x==("__classdict__":Str))=false:=by decide):PE X (.Name x pos) (OA i):=by
 intro pins s σ H Q I h;obtain⟨v,e,h⟩:=h;obtain⟨m,hn,hl⟩:=I.loc;obtain⟨u,r,l⟩:=hl i x v hN e hv;have fin:EP X pins σ Q u s:=⟨v,H,I,r,h⟩;rcases l with⟨hk,hm⟩ | ⟨hk,c,hc,hcell⟩
 .exact wpAny_Name (wpAny_loadName_local I.ok.kind hk hn hm fin) hd
 .rcases hk with hk | hk
  .exact wpAny_Name (wpAny_loadName_cell I.ok.kind hk hc hcell fin) hd
  .exact wpAny_Name (wpAny_loadName_free I.ok.kind hk hc hcell fin uk) hd
theorem Ks{i j pos}:PE X (.Constant (.int i) j pos) (tC (.int i)):=fun _ _ _ H _ I h=>wpAny_Constant_int ⟨.int i,H,I.tok _,⟨_,rfl⟩,h⟩
theorem Mb{b j pos}:PE X (.Constant (.bool b) j pos) (tC (.bl b)):=fun _ _ _ H _ I h=>Constant_bool ⟨.bl b,H,I,rfl,h⟩
theorem Ka{j pos}:PE X (.Constant .none j pos) (tC .cn):=fun _ _ _ H _ I h=>Constant_none ⟨.cn,H,I,rfl,h⟩
theorem Jm{x j pos}:PE X (.Constant (.str x) j pos) (tC (.str x)):=fun _ _ _ H _ I h=>Calls.Constant_str ⟨.str x,H,I.tok _,⟨_,rfl⟩,h⟩
def Gl(X:Cx)(x:Str):Prop:=X.env.kindOf x=some .globalImplicit
theorem A_{E:Vs}{pins:Vr}{s:Shared}{σ:St}{H:Hp}{x:Str}{u:Value}{pos:Pos}{Q:Vs}(I:Inv X pins σ H s)(hg:Gl X x)(hm:X.mg x=some u)(h:Q u s)
 (hd:(x==("__debug__":Str))=false:=by decide):wpAny (model X.prog X.w) X.A (eval (.Name x pos) X.env) Q E s:=
 Calls.Name_function_global I.ok.kind hg (Calls.loadGlobal_global (by rw[I.ok.glob];exact I.mod.glob.keeps I.bk) hm h) hd
theorem mQ{E:Vs}{pins:Vr}{s:Shared}{σ:St}{H:Hp}{x:Str}{u:Value}{pos:Pos}{Q:Vs}(I:Inv X pins σ H s)(hg:Gl X x)(hm:X.mg x=none)(hv:bootBuiltins x=some u)(h:Q u s)
 (hn:x≠"__name__":=by decide) (hd:(x==("__debug__":Str))=false:=by decide):wpAny (model X.prog X.w) X.A (eval (.Name x pos) X.env) Q E s:=by
 obtain⟨mb,h1,h2⟩:=I.mod.blt;exact Calls.Name_function_global I.ok.kind hg (Calls.loadGlobal_builtin (by rw[I.ok.glob];exact I.mod.glob.keeps I.bk) hm (by rw[I.ok.blt];exact h1.keeps I.bk) ((h2 x hn).trans hv) h) hd
def Ny(ta tb:TE)(k:Int->Int->Hp->Prop):St->Hp->Prop:=fun σ H=>ta σ H fun x H1=>tb σ H1 fun y H2=>∃i j,x= .int i/\y= .int j/\k i j H2
def Rw(ta tb:TE):TE:=fun σ H Q=>Ny ta tb (fun i j H2=>Q (.int (i+j)) H2) σ H
def Sa(ta tb:TE):TE:=fun σ H Q=>Ny ta tb (fun i j H2=>Q (.int (i - j)) H2) σ H
def R7(ta tb:TE):TE:=fun σ H Q=>Ny ta tb (fun i j H2=>(-(2 ^ 64) < i/\i < 2 ^ 64)/\Q (.int (i*j)) H2) σ H
variable {a b:Expr} {ta tb:TE} {pos:Pos}
def PC(X:Cx)(op:CmpOp)(a b:Expr)(t:TE):Prop:=
 ∀(pins:Vr) (s:Shared) (σ:St) (H:Hp) (Q:VK),Inv X pins σ H s->t σ H Q->
  wpAny (model X.prog X.w) X.A (eval a X.env) (fun v s₁=>wpAny (model X.prog X.w) X.A (eval b X.env) (fun u Lh=>wpAny (model X.prog X.w) X.A (compareOp op v u) (EP X pins σ Q) X.xe Lh) X.xe s₁) X.xe s
def Cn(p:Int->Int->Bool)(ta tb:TE):TE:=fun σ H Q=>Ny ta tb (fun i j H2=>Q (.bl (p i j)) H2) σ H
abbrev Va:TE->TE->TE:=Cn fun i j=>decide (i < j)
abbrev UW:TE->TE->TE:=Cn fun i j=>decide (i<=j)
abbrev UR:TE->TE->TE:=Cn fun i j=>decide (j < i)
abbrev U9:TE->TE->TE:=Cn fun i j=>decide (j<=i)
abbrev SK:TE->TE->TE:=Cn fun i j=>decide (i=j)
abbrev SE:TE->TE->TE:=Cn fun i j=>!decide (i=j)
def RT(ta:TE):TE:=fun σ H Q=>ta σ H fun x H1=>Q (.bl (decide (x= .cn))) H1
def QL(ta:TE):TE:=fun σ H Q=>ta σ H fun x H1=>Q (.bl (!decide (x= .cn))) H1
def tB(t:TE):TT:=fun σ H Q=>t σ H fun x H1=>∃c,x= .bl c/\Q c H1
variable {tA NS:TT} {rest:List Expr}
def OQ(t u:TT):TT:=fun σ H Q=>t σ H fun c H1=>if c=true then u σ H1 Q else Q false H1
def Se(t u:TT):TT:=fun σ H Q=>t σ H fun c H1=>if c=true then Q true H1 else u σ H1 Q
def OW(t:TT):TT:=fun σ H Q=>t σ H fun c H1=>Q (!c) H1
theorem GF(ha:PT X a tA):PW X (.BoolOp .And [a] pos) tA:=by
 intro wh pins s σ H Q I h;refine isTrue_and (eI (ha pins s σ H Q I h) fun c s1 e=>?_)
 cases c with
 | true=>exact isTrue_and_nil e
 | false=>exact e
theorem Kl(ha:PT X a tA):PW X (.BoolOp .Or [a] pos) tA:=by
 intro wh pins s σ H Q I h;refine isTrue_or (eI (ha pins s σ H Q I h) fun c s1 e=>?_)
 cases c with
 | false=>exact isTrue_or_nil e
 | true=>exact e
theorem J5(ha:PT X a tA)(hb:PW X (.BoolOp .And (b ::rest) pos) NS):PW X (.BoolOp .And (a ::b ::rest) pos) (OQ tA NS):=by
 intro wh pins s σ H Q I h;refine isTrue_and (eI (ha pins s σ H _ I h) fun c s1 ⟨H1,I1,q1⟩=>?_)
 cases c with
 | true=>exact hb wh pins s1 σ H1 Q I1 q1
 | false=>exact⟨H1,I1,q1⟩
theorem Mf(ha:PT X a tA)(hb:PW X (.BoolOp .Or (b ::rest) pos) NS):PW X (.BoolOp .Or (a ::b ::rest) pos) (Se tA NS):=by
 intro wh pins s σ H Q I h;refine isTrue_or (eI (ha pins s σ H _ I h) fun c s1 ⟨H1,I1,q1⟩=>?_)
 cases c with
 | true=>exact⟨H1,I1,q1⟩
 | false=>exact hb wh pins s1 σ H1 Q I1 q1
theorem JN(ha:PT X a tA):PT X (.UnaryOp .Not a pos) (OW tA):=by
 intro pins s σ H Q I h;exact isTrue_not (ha pins s σ H (fun c H1=>Q (!c) H1) I h)
def Mi(ta tb:TE):TE:=fun σ H Q=>ta σ H fun x H1=>∃c,x= .bl c/\if c=true then tb σ H1 Q else Q (.bl false) H1
def RE(ta tb:TE):TE:=fun σ H Q=>ta σ H fun x H1=>∃c,x= .bl c/\if c=true then Q (.bl true) H1 else tb σ H1 Q
def Qj(ta:TE):TE:=fun σ H Q=>ta σ H fun x H1=>∃c,x= .bl c/\Q (.bl (!c)) H1
theorem DA{op}{t:TE}(h:PE X a t):PE X (.BoolOp op [a] pos) t:=fun pins s σ H Q I hw=>BoolOp_one (h pins s σ H Q I hw)
theorem Dn(ha:PE X a ta)(hb:PE X (.BoolOp .And (b ::rest) pos) tb):PE X (.BoolOp .And (a ::b ::rest) pos) (Mi ta tb):=by
 intro pins s σ H Q I h;refine BoolOp_and (eI (ha pins s σ H _ I h) fun v s1 ⟨x,H1,I1,r1,q1⟩=>?_)
 obtain⟨c,rfl,q1⟩:=q1;cases r1;refine wpAny_truthy_bool ?_;cases c with
 | true=>exact hb pins s1 σ H1 Q I1 q1
 | false=>exact⟨.bl false,H1,I1,rfl,q1⟩
def RG(t:TT)(ta tb:TE):TE:=fun σ H Q=>t σ H fun c H1=>if c=true then ta σ H1 Q else tb σ H1 Q
theorem Ei(hc:PT X c tA)(ha:PE X a ta)(hb:PE X b tb):PE X (.IfExp c a b pos) (RG tA ta tb):=by
 intro pins s σ H Q I h;refine wpAny_IfExp (eI (hc pins s σ H _ I h) fun d s1 ⟨H1,I1,q1⟩=>?_)
 cases d with
 | true=>exact ha pins s1 σ H1 Q I1 q1
 | false=>exact hb pins s1 σ H1 Q I1 q1
end
def pL(K:W.Frag)(H:Hp)(a:Addr)(xs:List V):Prop:=
 Rd H a (.lst xs)\/
  ∃(o:Obj) (its:Array Value) (n:Nat),K.lookup a=some o/\o.cls= .type "list"/\o.dict=none/\o.data= .seq its n/\its.size<=sizeLine/\Vals xs its.toList
def rO(K:W.Frag)(H:Hp)(a:Addr)(xs:List V):Prop:=
 Rd H a (.tup xs)\/
  ∃(o:Obj) (its:Array Value) (n:Nat),K.lookup a=some o/\o.cls= .type "tuple"/\o.data= .seq its n/\its.size<=sizeLine/\Vals xs its.toList
def Ol:Value->Option V
 | .none=>some .cn
 | .bool b=>some (.bl b)
 | .int i _=>some (.int i)
 | .str x _=>some (.str x)
 | .bytes b _=>some (.byt b)
 | .float b _=>some (.flt b)
 | .ref a=>some (.ref a)
 | .type n=>some (.ty n)
 | _=>none
theorem RelV.abs{x:V}{u:Value}(r:RelV x u):Ol u=some x:=by
 cases x with
 | cn=>cases r;rfl
 | bl _=>cases r;rfl
 | int _=>obtain⟨t,rfl⟩:=r;rfl
 | str _=>obtain⟨t,rfl⟩:=r;rfl
 | byt _=>obtain⟨t,rfl⟩:=r;rfl
 | flt _=>obtain⟨t,rfl⟩:=r;rfl
 | ref _=>cases r;rfl
 | ty _=>cases r;rfl
theorem RelV.inj{x y:V}{u:Value}(r:RelV x u)(q:RelV y u):x=y:=Option.some.inj (r.abs.symm.trans q.abs)
theorem Vals.inj:∀{xs ys:List V} {us:List Value},Vals xs us->Vals ys us->xs=ys
 | _,_,_, .nil, .nil=>rfl
 | _,_,_, .cons r t, .cons r' t'=>by rw[r.inj r',Vals.inj t t']
section
variable {X:Cx} {pins:Vr} {σ:St} {H:Hp} {s:Shared} {a:Addr} {xs ys:List V}
theorem pL.of{K:W.Frag}(h:H a=some (.lst xs)):pL K H a xs:= .inl (.inl h)
theorem Inv.list(I:Inv X pins σ H s)(h:pL X.K H a xs):∃its:List Value,Vals xs its/\PlainL s.heap a its.toArray/\xs.length<=sizeLine:=by
 rcases h with h | ⟨o,its,n,hk,hc,hd,hs,hz,r⟩
 .obtain⟨z,its,n,r,e⟩:=h.ok I.hok;exact⟨its,r,⟨_,n,e,rfl,rfl,rfl⟩,z⟩
 .refine⟨its.toList,r,⟨o,n,I.AR a o hk,hc,hd,by simpa using hs⟩,?_⟩
  have e:=r.length;simp only[Array.length_toList] at e;omega
theorem Inv.tuple(I:Inv X pins σ H s)(h:rO X.K H a xs):∃its:List Value,Vals xs its/\IsTup s.heap a its.toArray/\xs.length<=sizeLine:=by
 rcases h with h | ⟨o,its,n,hk,hc,hs,hz,r⟩
 .obtain⟨z,its,r,p⟩:=h.ok I.hok;exact⟨its,r,p,z⟩
 .refine⟨its.toList,r,⟨o,I.AR a o hk,hc,n,by simpa using hs⟩,?_⟩
  have e:=r.length;simp only[Array.length_toList] at e;omega
theorem Inv.qe(I:Inv X pins σ H s)(h:pL X.K H a xs)(h':pL X.K H a ys):xs=ys:=by
 obtain⟨its,r,⟨o,n,e,_,_,d⟩,_⟩:=I.list h;obtain⟨its',r',⟨o',n',e',_,_,d'⟩,_⟩:=I.list h';rw[e] at e';cases e';rw[d] at d';injection d' with d1 _
 have:its=its':=by simpa using congrArg Array.toList d1
 subst this;exact r.inj r'
theorem Inv.qo(I:Inv X pins σ H s)(h:rO X.K H a xs)(h':rO X.K H a ys):xs=ys:=by
 obtain⟨its,r,⟨o,e,_,n,d⟩,_⟩:=I.tuple h;obtain⟨its',r',⟨o',e',_,n',d'⟩,_⟩:=I.tuple h';rw[e] at e';cases e';rw[d] at d';injection d' with d1 _
 have:its=its':=by simpa using congrArg Array.toList d1
 subst this;exact r.inj r'
end
abbrev Cx.uL(X:Cx)(E:Vs):Cx:={X with xe:=E}
abbrev Cx.HH(X:Cx):Cx:=X.uL fun _ _=>False
theorem Cx.Ok.uL{X:Cx}(ok:X.Ok)(E:Vs):(X.uL E).Ok:=
 ⟨ok.mod,ok.kind,ok.glob,ok.blt,ok.above,ok.inj,ok.has,ok.cab,ok.hd,ok.frames,ok.stk,ok.exf,ok.bs,ok.bsz,ok.noex,ok.exfs,ok.rH,ok.frf⟩
theorem Cx.Ok.nh{X:Cx}{E:Vs}(ok:(X.uL E).Ok):X.Ok:=
 ⟨ok.mod,ok.kind,ok.glob,ok.blt,ok.above,ok.inj,ok.has,ok.cab,ok.hd,ok.frames,ok.stk,ok.exf,ok.bs,ok.bsz,ok.noex,ok.exfs,ok.rH,ok.frf⟩
section
variable {X:Cx} {pins:Vr} {σ:St} {H:Hp} {s:Shared} {E:Vs}
theorem Inv.uL(I:Inv X pins σ H s)(E:Vs):Inv (X.uL E) pins σ H s:=⟨I.ok.uL E,I.os,I.bare,I.base,I.loc,I.cell,I.free,I.freeC,I.pin,I.hok,I.len⟩
theorem Inv.nh(I:Inv (X.uL E) pins σ H s):Inv X pins σ H s:=⟨I.ok.nh,I.os,I.bare,I.base,I.loc,I.cell,I.free,I.freeC,I.pin,I.hok,I.len⟩
theorem SP.nh{D:Ends}{f:Flow}{s':Shared}(h:SP (X.uL E) pins D f s'):SP X pins D f s':=by
 cases f with
 | next=>obtain⟨dw,H',I,q⟩:=h;exact⟨dw,H',I.nh,q⟩
 | brk=>obtain⟨dw,H',I,q⟩:=h;exact⟨dw,H',I.nh,q⟩
 | cont=>obtain⟨dw,H',I,q⟩:=h;exact⟨dw,H',I.nh,q⟩
 | ret u=>obtain⟨v,dw,H',I,r,q⟩:=h;exact⟨v,dw,H',I.nh,r,q⟩
theorem xm.HH{st:List Stmt}{t:TS}(h:xm X.HH st t):xm X st t:=fun pins s σ H D I hw=>
 wpAny_mono (h pins s σ H D (I.uL _) hw) (fun _ _ q=>q.nh) fun _ _ z=>False.elim z
end
section
variable {X:Cx} {st:Stmt} {rest:List Stmt} {t u:TS} {e:Expr} {te:TE} {pos:Pos}
def MP:TS:=fun D σ H=>D.nx σ H
def Mc(t u:TS):TS:=fun D σ H=>t {D with nx:=u D} σ H
theorem AN:xm X [] MP:=fun _ _ σ H _ I h=>wpAny_execs_nil ⟨σ,H,I,h⟩
theorem yD(h1:PS X st t)(h2:xm X rest u):xm X (st ::rest) (Mc t u):=by
 intro pins s σ H D I h;refine wpAny_execs_cons (eI (h1 pins s σ H {D with nx:=u D} I h) fun f s1 q=>?_)
 cases f with
 | next=>
   obtain⟨dw,H',I',q⟩:=q;exact h2 pins s1 dw H' D I' q
 | ret v=>exact q
 | brk=>exact q
 | cont=>exact q
theorem Au(h1:PS X st t):xm X [st] t:=by
 intro pins s σ H D I h;refine wpAny_execs_cons (eI (h1 pins s σ H D I h) fun f s1 q=>?_)
 cases f with
 | next=>exact wpAny_execs_nil q
 | ret v=>exact q
 | brk=>exact q
 | cont=>exact q
def O3:TS:=fun D σ H=>D.bk σ H
def QR:TS:=fun D σ H=>D.ct σ H
theorem Inv.quiet{pins:Vr}{s:Shared}(I:Inv X pins σ H s):interactive X.env=false:=by simp [interactive,I.ok.kind]
def LS(te:TE):TS:=fun D σ H=>te σ H fun _ H1=>D.nx σ H1
theorem Bt(he:PE X e te)(hs:swapsWith e none pos.line X.env=pure false:=by rfl):PS X (.Expr e pos) (LS te):=by
 intro pins s σ H D I h;exact wpAny_Expr_any (eI (he pins s σ H _ I h) fun v s1 ⟨x,H1,I1,r1,q1⟩=>⟨σ,H1,I1,q1⟩) I.quiet hs
def OF(te:TE):TS:=fun D σ H=>te σ H D.rt
theorem E_(he:PE X e te):PS X (.Return (some e) pos) (OF te):=by
 intro pins s σ H D I h;exact wpAny_Return_some (eI (he pins s σ H _ I h) fun v s1 ⟨x,H1,I1,r1,q1⟩=>⟨x,σ,H1,I1,r1,q1⟩)
def Q0:TS:=fun D _ H=>D.rt .cn H
def OL(c:TT)(t u:TS):TS:=fun D σ H=>c σ H fun b H1=>if b=true then t D σ H1 else u D σ H1
theorem Ie{tc:TT}(hc:PT X c tc)(ha:xm X a t)(hb:xm X b u):PS X (.If c a b pos) (OL tc t u):=by
 intro pins s σ H D I h;refine wpAny_If (eI (hc pins s σ H _ I h) fun d s1 ⟨H1,I1,q1⟩=>?_)
 cases d with
 | true=>exact ha pins s1 σ H1 D I1 q1
 | false=>exact hb pins s1 σ H1 D I1 q1
def OU:TS:=fun _ _ _=>False
end
abbrev TG:=V->St->Hp->(St->Hp->Prop)->Prop
abbrev Ex:=List V->St->Hp->(St->Hp->Prop)->Prop
def PG(X:Cx)(target:Expr)(t:TG):Prop:=
 ∀(pins:Vr) (s:Shared) (σ:St) (H:Hp) (v:V) (u:Value) (Q:St->Hp->Prop),Inv X pins σ H s->RelV v u->t v σ H Q->
  wpAny (model X.prog X.w) X.A (assign target X.env u) (fun _ s'=>∃dw H',Inv X pins dw H' s'/\Q dw H') X.xe s
def GS(X:Cx)(ts:List Expr)(t:Ex):Prop:=
 ∀(pins:Vr) (s:Shared) (σ:St) (H:Hp) (vs:List V) (us:List Value) (Q:St->Hp->Prop),Inv X pins σ H s->Vals vs us->t vs σ H Q->
  wpAny (model X.prog X.w) X.A (assignInOrder ((assignEach ts X.env).map (·.2)) us) (fun _ s'=>∃dw H',Inv X pins dw H' s'/\Q dw H') X.xe s
abbrev JE:=V->V->V->Hp->(Hp->Prop)->Prop
def RP(X:Cx)(t:JE):Prop:=
 ∀(pins:Vr) (s:Shared) (σ:St) (H:Hp) (o i v:V) (ov iv u:Value) (Q:Hp->Prop),Inv X pins σ H s->RelV o ov->RelV i iv->RelV v u->t o i v H Q->
  wpAny (model X.prog X.w) X.A (setItem ov iv u) (fun _ s'=>∃H',Inv X pins σ H' s'/\Q H') X.xe s
abbrev NG:=V->V->Hp->VK->Prop
def Vc(X:Cx)(op:Operator)(t:NG):Prop:=
 ∀(pins:Vr) (s:Shared) (σ:St) (H:Hp) (x y:V) (v u:Value) (Q:VK),Inv X pins σ H s->RelV x v->RelV y u->t x y H Q->
  wpAny (model X.prog X.w) X.A (inplaceOp op v u) (EP X pins σ Q) X.xe s
section
variable {X:Cx} {pos:Pos}
def t8(i:Nat):TG:=fun v σ H Q=>Q (σ.set i (some v)) H
theorem Az{i:Nat}(hN:X.N.Nodup)(hi:X.N[i]? =some x)(hx:Loc X.env.scope x)(hf:X.fn x=true\/X.env.scope.names.lookup x=some .local:=by first | exact .inl rfl | exact .inr rfl | assumption):PG X (.Name x pos) (t8 i):=by
 intro pins s σ H v u Q I r h;exact wpAny_assign_Name (xV I hN hi hx r (fun s' I'=>⟨_,H,I',h⟩) hf)
def N9:Ex:=fun vs σ H Q=>vs=[]/\Q σ H
def MM(t:TG)(u:Ex):Ex:=fun vs σ H Q=>∃v r,vs=v ::r/\t v σ H fun dw H'=>u r dw H' Q
theorem AL:GS X [] N9:=by
 intro pins s σ H vs us Q I r h;obtain⟨e,h⟩:=h;subst e;cases r;exact assignInOrder_nil ⟨σ,H,I,h⟩
theorem xD{e:Expr}{es:List Expr}{t:TG}{u:Ex}(h1:PG X e t)(h2:GS X es u)
 (hs:(assignEach (e ::es) X.env).map (·.2)=assign e X.env ::(assignEach es X.env).map (·.2):=by rfl):GS X (e ::es) (MM t u):=by
 intro pins s σ H vs us Q I r h;obtain⟨v,vr,e1,h⟩:=h;subst e1;cases r with
 | cons r rr=>
   rw[hs];refine assignInOrder_cons (eI (h1 pins s σ H _ _ _ I r h) fun _ s1 ⟨M8,H1,I1,q1⟩=>?_)
   exact h2 pins s1 M8 H1 _ _ Q I1 rr q1
def N5(K:W.Frag)(n:Nat)(t:Ex):TG:=fun v σ H Q=>∃a xs,v= .ref a/\rO K H a xs/\xs.length=n/\t xs σ H Q
theorem DD{es:List Expr}{k:Nat}{t:Ex}{n:Nat}(hc:X.calm=true)(h:GS X es t)
 (hn:(assignEach es X.env).length=n:=by rfl) (FH:(assignEach es X.env).findIdx? (·.1)=none:=by rfl):PG X (.Tuple es k pos) (N5 X.K n t):=by
 intro pins s σ H v u Q I r hw;obtain⟨a,xs,e1,hq,hl,hw⟩:=hw;subst e1;cases r;obtain⟨its,rv,ht,hz⟩:=I.tuple hq;refine assign_Tuple_tuple (I.ok.hd hc) ht (by simp [hn,<-hl,rv.length]) FH fun h' hx=>?_
 have I1:Inv X pins σ H {s with heap:=h'}:=I.kept (t':=s.toks) fun b o e=>hx b o (Nat.ne_of_lt (Heap.lt_size e)) e
 exact h pins _ σ H xs _ Q I1 (by simpa using rv) hw
def R9(to ti:TE)(t:JE):TG:=fun v σ H Q=>to σ H fun o H1=>ti σ H1 fun i H2=>t o i v H2 fun H3=>Q σ H3
def CJ(te:TE)(g:TG):TS:=fun D σ H=>te σ H fun x H1=>g x σ H1 D.nx
theorem KP{tg e:Expr}{te:TE}{g:TG}(he:PE X e te)(hg:PG X tg g)(hs:swapsWithSole [tg] e pos.line X.env=pure false:=by rfl)(hw:swappedStores [tg] e X.env=pure none:=by rfl)
 (h1:(assignEach [tg] X.env).map (·.2)=[assign tg X.env]:=by rfl):PS X (.Assign [tg] e pos) (CJ te g):=by
 intro pins s σ H D I h;refine wpAny_Assign_stores (eI (he pins s σ H _ I h) fun v s1 ⟨x,H1,I1,r1,q1⟩=>?_) hs hw
 rw[h1];exact eI (hg pins s1 σ H1 x v _ I1 r1 q1) fun _ s2 q=>q
theorem Ao{i:Nat}{te:TE}(hN:X.N.Nodup)(hi:X.N[i]? =some x)(hx:Loc X.env.scope x)(he:PE X e te)(hs:swapsWith e (some (.Name x pos')) pos.line X.env=pure false:=by rfl)(hf:X.fn x=true\/X.env.scope.names.lookup x=some .local:=by first | exact .inl rfl | exact .inr rfl | assumption) :
 PS X (.Assign [.Name x pos'] e pos) (CJ te (t8 i)):=by
 intro pins s σ H D I h;refine wpAny_Assign_Name (eI (he pins s σ H _ I h) fun v s1 ⟨y,H1,I1,r1,q1⟩=>?_) hs
 exact xV I1 hN hi hx r1 (fun s2 I2=>⟨_,H1,I2,q1⟩) hf
def RF(i j:Nat)(ta:TA):TS:=fun D σ H=>ta σ H fun vs H1=>∃v w,vs=[v,w]/\D.nx ((σ.set i (some v)).set j (some w)) H1
def RW(i:Nat)(te:TE)(ti:NG):TS:=fun D σ H=>∃x,σ[i]? =some (some x)/\te σ H fun y H1=>ti x y H1 fun z H2=>D.nx (σ.set i (some z)) H2
def QW(to ti te:TE)(PY:V->V->Hp->VK->Prop)(Tn:NG)(Ph:JE):TS:=fun D σ H=>to σ H fun o H1=>ti σ H1 fun i H2=>PY o i H2 fun x H3=>te σ H3 fun y H4=>Tn x y H4 fun z H5=>Ph o i z H5 fun H6=>D.nx σ H6
def SM(X:Cx)(t:V->V->Hp->VK->Prop):Prop:=
 ∀(pins:Vr) (s:Shared) (σ:St) (H:Hp) (o i:V) (ov iv:Value) (Q:VK),Inv X pins σ H s->RelV o ov->RelV i iv->t o i H Q->
  wpAny (model X.prog X.w) X.A (getItem ov iv) (EP X pins σ Q) X.xe s
def UY(f:Int->Int->Int):NG:=fun x y H Q=>∃i j,x= .int i/\y= .int j/\Q (.int (f i j)) H
end
section
variable {X:Cx} {pos:Pos}
def OB(c:TT)(tb:TS):TS:=fun D σ H=>∃W:Nat->St->Hp->Prop,(∃m,W m σ H)/\∀m σ H,W m σ H->
 c σ H fun b H1=>if b=true then ∃N:St->Hp->Prop,(∀dw H',N dw H'->∃m',m' < m/\W m' dw H')/\tb {D with nx:=N,ct:=N,bk:=D.nx} σ H1 else D.nx σ H1
end
structure It where
 go:Nat->Hp->Prop
 yld:Nat->Hp->V->Hp->Prop
 stop:Nat->Hp->Prop
def rE(X:Cx)(pins:Vr)(H:Hp)(b:Addr):Prop:=
 H b=none/\b≠X.env.locals/\b ∉ X.fs/\(b∈X.ex\/X.s₀.heap.objs.size<=b)/\(∀x c,X.env.cells.lookup x=some c->c≠b)/\∀p∈X.pn++pins,p.1≠b
theorem Inv.tM{X:Cx}{pins:Vr}{H H':Hp}{s:Shared}{b:Addr}(I:Inv X pins σ H s)(hb:s.heap.objs.size<=b)(hn:H' b=none):rE X pins H' b:=by
 refine⟨hn,Nat.ne_of_gt (Nat.lt_of_lt_of_le I.lt hb),I.N7 hb, .inr (Nat.le_trans I.sz hb),fun x c e z=>?_,fun p hp z=>?_⟩
 .obtain⟨v,q⟩:=I.cell x c e;exact absurd (Nat.lt_of_lt_of_le q.lt (by rw[z];exact hb)) (Nat.lt_irrefl _)
 .exact absurd (Nat.lt_of_lt_of_le (Heap.lt_size (I.pin p hp).1) (by rw[z];exact hb)) (Nat.lt_irrefl _)
structure Turn (P:Program) (w:World) (K:W.Frag) (tg:Expr) (J:It) (fp:List Addr) (it:Addr) (tn:Nat->Heap->Prop):Prop where
 mem:it∈fp
 obj:∀i h,tn i h->∀b∈fp,∃o,h.get? b=some o/\∀v,o.data≠ .cell v
 keep:∀i h h',tn i h->(∀b∈fp,∀o,h.get? b=some o->h'.get? b=some o)->tn i h'
 item:∀(X:Cx),X.prog=P->X.w=w->X.K=K->X.calm=true->∀(i:Nat) (pins:Vr) (s:Shared) (σ:St) (H:Hp) (E:Vs),Inv X pins σ H s->(∀b∈fp,rE X pins H b)->tn i s.heap->J.go i H->
  wpAny (model P w) X.A (pyNext (.ref it)) (fun r s1=>∃u,r=some u/\
   wpAny (model P w) X.A (letOwnedTupleGo tg (.ref it) u) (fun _ s2=>∃x H',Inv X pins σ H' s2/\RelV x u/\J.yld i H x H'/\tn (i+1) s2.heap/\∀b∈fp,H' b=none) E s1) E s
 done:∀(X:Cx),X.prog=P->X.w=w->X.K=K->X.calm=true->∀(i:Nat) (pins:Vr) (s:Shared) (σ:St) (H:Hp) (E:Vs),Inv X pins σ H s->(∀b∈fp,rE X pins H b)->tn i s.heap->J.stop i H->
  wpAny (model P w) X.A (pyNext (.ref it)) (fun r s1=>r=none/\Inv X pins σ H s1) E s
 self:∀(A:Around) (i:Nat) (s:Shared) (Q:Vs) (E:Vs),tn i s.heap->Q (.ref it) s->wpAny (model P w) A (pyIter (.ref it)) Q E s
abbrev TI:=St->Hp->(It->Hp->Prop)->Prop
def QC(X:Cx)(pins:Vr)(σ:St)(tg:Expr)(R:It->Hp->Prop)(NU:Value)(s2:Shared):Prop:=
 ∃(it:Addr) (fp:List Addr) (tn:Nat->Heap->Prop) (J:It) (H':Hp),NU= .ref it/\Inv X pins σ H' s2/\Turn X.prog X.w X.K tg J fp it tn/\tn 0 s2.heap/\(∀b∈fp,rE X pins H' b)/\R J H'
def PI(X:Cx)(tg iter:Expr)(wi:TI):Prop:=
 ∀(pins:Vr) (s:Shared) (σ:St) (H:Hp) (R:It->Hp->Prop),Inv X pins σ H s->wi σ H R->
  wpAny (model X.prog X.w) X.A (eval iter X.env) (fun v s1=>wpAny (model X.prog X.w) X.A (pyIter v) (QC X pins σ tg R) X.xe s1) X.xe s
theorem AY{M:Model}{A:Around}{E:Vs}{s:Shared}{tg:Expr}{it:Addr}{u:Value}{o:Obj}{n:String}{vs:Array Value}{Q:Unit->Shared->Prop}(ho:s.heap.get? it=some o)(hc:o.cls= .type n)(hd:o.data= .fields vs)
 (hn:["enumerate","zip","dict_itemiterator","dict_reverseitemiterator","odict_iterator","itertools.zip_longest","itertools.pairwise"].contains n=false) (hQ:Q () s):wpAny M A (letOwnedTupleGo tg (.ref it) u) Q E s:=by
 unfold letOwnedTupleGo;cases tg <;> first
  | exact wpAny_pure hQ
  | (cases u <;> first
      | exact wpAny_pure hQ
      | (refine wpAny_bind (wpAny_load ho ?_)
         rw[hc,hd];show wpAny M A (if(["enumerate","zip","dict_itemiterator","dict_reverseitemiterator","odict_iterator","itertools.zip_longest","itertools.pairwise"].contains n && vs[0]? ==some (rawInt _))=true then _ else _) Q E s
         rw[if_neg (by intro h;rw [hn,Bool.false_and] at h;cases h)]
         exact wpAny_pure hQ))
def Ql(K:W.Frag)(a:Addr):It:=
 ⟨fun i H=>∃xs x,pL K H a xs/\xs[i]? =some x,fun i H x H'=>H'=H/\∀xs,pL K H a xs->xs[i]? =some x,fun i H=>∃xs,pL K H a xs/\xs.length<=i⟩
def QI(K:W.Frag)(a:Addr):It:=
 ⟨fun i H=>∃xs x,rO K H a xs/\xs[i]? =some x,fun i H x H'=>H'=H/\∀xs,rO K H a xs->xs[i]? =some x,fun i H=>∃xs,rO K H a xs/\xs.length<=i⟩
def L8(lo:Int)(n:Nat):It:=⟨fun i _=>i < n,fun i H x H'=>H'=H/\x= .int (lo+i),fun i _=>n<=i⟩
theorem vE{K:W.Frag}(a it:Addr):Turn P w K tg (Ql K a) [it] it (fun i h=>h.IsListIter it a i) where
 mem:=by simp
 obj:=fun i h st b hb=>by
  have e:b=it:=by simpa using hb
  subst e;obtain⟨o,e,c,d⟩:=st;exact⟨o,e,fun v z=>by rw[d] at z;cases z⟩
 keep:=fun i h h' st k=>st.at fun o e=>k it (by simp) o e
 item:=by
  intro X hP hw hK hc i pins s σ H E I hf st hg;subst hP hw hK;obtain⟨xs,x,hq,hx⟩:=hg;obtain⟨its,rv,p,hz⟩:=I.list hq;obtain⟨u,hu,ru⟩:=rv.get hx;obtain⟨f0,f1,f2,f3,f4,f5⟩:=hf it (by simp)
  refine wpAny_pyNext_list_item st p.isList (x:=u) (by simpa using hu) fun h' FK sb=>?_
  have I1:Inv X pins σ H {s with heap:=h'}:=I.turned (t':=s.toks) (fun b o hb e=>(sb.2 b hb).trans e) f0 f1 f3 f4 f5
  obtain⟨o,e,c,d⟩:=id FK;exact⟨u,rfl,AY (s:={s with heap:=h'}) e c d (by decide) ⟨x,H,I1,ru,⟨rfl,fun ys hy=>by rw[I.qe hy hq];exact hx⟩,FK,fun b hb=>(hf b hb).1⟩⟩
 done:=by
  intro X hP hw hK hc i pins s σ H E I hf st hg;subst hP hw hK;obtain⟨xs,hq,hx⟩:=hg;obtain⟨its,rv,p,hz⟩:=I.list hq;obtain⟨f0,f1,f2,f3,f4,f5⟩:=hf it (by simp)
  have hl:=rv.length;exact wpAny_pyNext_list_end (I.ok.hd hc) st p.isList (by simp;omega) fun h' eb=>⟨rfl,I.turned (t':=s.toks) (fun b o hb e=>eb b o hb e) f0 f1 f3 f4 f5⟩
 self:=fun _ _ _ _ _ st h=>wpAny_pyIter_listiter st h
theorem z0{K:W.Frag}(a it:Addr):Turn P w K tg (QI K a) [it] it (fun i h=>h.IsTupleIter it a i) where
 mem:=by simp
 obj:=fun i h st b hb=>by
  have e:b=it:=by simpa using hb
  subst e;obtain⟨o,e,c,d⟩:=st;exact⟨o,e,fun v z=>by rw[d] at z;cases z⟩
 keep:=fun i h h' st k=>st.at fun o e=>k it (by simp) o e
 item:=by
  intro X hP hw hK hc i pins s σ H E I hf st hg;subst hP hw hK;obtain⟨xs,x,hq,hx⟩:=hg;obtain⟨its,rv,p,hz⟩:=I.tuple hq;obtain⟨u,hu,ru⟩:=rv.get hx;obtain⟨f0,f1,f2,f3,f4,f5⟩:=hf it (by simp)
  refine wpAny_pyNext_tuple_item st (show s.heap.IsTuple a its.toArray from p) (x:=u) (by simpa using hu) fun h' FK sb=>?_
  have I1:Inv X pins σ H {s with heap:=h'}:=I.turned (t':=s.toks) (fun b o hb e=>(sb.2 b hb).trans e) f0 f1 f3 f4 f5
  obtain⟨o,e,c,d⟩:=id FK;exact⟨u,rfl,AY (s:={s with heap:=h'}) e c d (by decide) ⟨x,H,I1,ru,⟨rfl,fun ys hy=>by rw[I.qo hy hq];exact hx⟩,FK,fun b hb=>(hf b hb).1⟩⟩
 done:=by
  intro X hP hw hK hc i pins s σ H E I hf st hg;subst hP hw hK;obtain⟨xs,hq,hx⟩:=hg;obtain⟨its,rv,p,hz⟩:=I.tuple hq;obtain⟨f0,f1,f2,f3,f4,f5⟩:=hf it (by simp)
  have hl:=rv.length;exact wpAny_pyNext_tuple_end (I.ok.hd hc) st (show s.heap.IsTuple a its.toArray from p) (by simp;omega) fun h' eb=>⟨rfl,I.turned (t':=s.toks) (fun b o hb e=>eb b o hb e) f0 f1 f3 f4 f5⟩
 self:=fun _ _ _ _ _ st h=>wpAny_pyIter_tupleiter st h
theorem yW{K:W.Frag}(it:Addr)(lo:Int)(n:Nat):Turn P w K tg (L8 lo n) [it] it (fun i h=>IsRangeIter h it (lo+(i:Nat)*1) ((n:Int) - (i:Nat)) 1) where
 mem:=by simp
 obj:=fun i h st b hb=>by
  have e:b=it:=by simpa using hb
  subst e;exact⟨_,st,fun v z=>by
   have z':Data.fields _=Data.cell v:=z;cases z'⟩
 keep:=fun i h h' st k=>k it (by simp) _ st
 item:=by
  intro X hP hw hK hc i pins s σ H E I hf st hg;subst hP hw hK;obtain⟨f0,f1,f2,f3,f4,f5⟩:=hf it (by simp)
  have W:=Walks.range (prog:=X.prog) (w:=X.w) (I.ok.hd hc) it lo 1 n;refine W.item i s _ _ hg st fun v h' tk hv FK kk=>?_
  obtain⟨t,rfl⟩:=hv;have I1:Inv X pins σ H {s with heap:=h',toks:=tk}:=I.turned (fun b o hb e=>kk b o (by simpa using hb) e) f0 f1 f3 f4 f5
  refine⟨_,rfl,AY (s:={s with heap:=h',toks:=tk}) (n:="range_iterator") FK rfl rfl (by decide) ⟨.int (lo+i),H,I1,⟨t,?_⟩,⟨rfl,rfl⟩,FK,fun b hb=>(hf b hb).1⟩⟩
  rw[Int.mul_one]
 done:=by
  intro X hP hw hK hc i pins s σ H E I hf st hg;subst hP hw hK;obtain⟨f0,f1,f2,f3,f4,f5⟩:=hf it (by simp)
  exact wpAny_pyNext_range_end (I.ok.hd hc) st (by have:n<=i:=hg;omega) fun h' eb=>⟨rfl,I.turned (t':=s.toks) (fun b o hb e=>eb b o hb e) f0 f1 f3 f4 f5⟩
 self:=fun _ _ _ _ _ st h=>wpAny_pyIter_rangeiter st h
section
variable {X:Cx} {tg:Expr}
def Qt(K:W.Frag)(tl:TE):TI:=fun σ H R=>tl σ H fun x H1=>∃a,x= .ref a/\(∃xs,pL K H1 a xs)/\R (Ql K a) H1
def Om(K:W.Frag)(tl:TE):TI:=fun σ H R=>tl σ H fun x H1=>∃a,x= .ref a/\(∃xs,rO K H1 a xs)/\R (QI K a) H1
theorem Fi{pins:Vr}{σ:St}{H:Hp}{s:Shared}{R:It->Hp->Prop}{E:Vs}{lo hi:Int}{t u v:Tok}{tk:Nat}(I:Inv X pins σ H s)(h1: -(2 ^ 62)<=lo)(h2:lo < 2 ^ 62)(h3: -(2 ^ 62)<=hi)(h4:hi < 2 ^ 62)
 (q:R (L8 lo (hi - lo).toNat) H):wpAny (model X.prog X.w) X.A (pyIter (.ref s.heap.objs.size)) (QC X pins σ tg R) E {s with heap:=s.heap.push {cls:= .type "range",data:= .fields #[.int lo t, .int hi u, .int 1 v]},toks:=tk}:=by
 refine wpAny_pyIter_range (IsRange.new ..) (small_one h1 h2 h3 h4) ?_;have I1:Inv X pins σ H {s with heap:=s.heap.push {cls:= .type "range",data:= .fields #[.int lo t, .int hi u, .int 1 v]},toks:=tk}:=I.kept fun b o e=>Heap.get?_push_of_some _ e
 refine⟨(s.heap.push {cls:= .type "range",data:= .fields #[.int lo t, .int hi u, .int 1 v]}).objs.size,[(s.heap.push {cls:= .type "range",data:= .fields #[.int lo t, .int hi u, .int 1 v]}).objs.size],_,_,H,rfl,
  I1.kept (t':=tk) fun b o e=>Heap.get?_push_of_some _ e,yW _ lo (hi - lo).toNat,?_,fun b hb=>?_,q⟩
 .have e1:lo+((0:Nat):Int)*1=lo:=by simp
  have e2:(((hi - lo).toNat:Nat):Int) - ((0:Nat):Int)=Builtin.Range.rangeSize lo hi 1:=by rw[rangeSize_one];split <;> omega
  show IsRangeIter _ _ (lo+((0:Nat):Int)*1) ((((hi - lo).toNat:Nat):Int) - ((0:Nat):Int)) 1;rw[e1,e2];exact Heap.get?_push_size _ rfl
 .have e:b=(s.heap.push {cls:= .type "range",data:= .fields #[.int lo t, .int hi u, .int 1 v]}).objs.size:=by simpa using hb
  subst e;exact I1.tM (Nat.le_refl _) (I1.hok.fresh (Nat.le_refl _))
def u_(ta:TA):TI:=fun σ H R=>ta σ H fun vs H1=>∃j:Int,vs=[.int j]/\ -(2 ^ 62)<=j/\j < 2 ^ 62/\R (L8 0 j.toNat) H1
def Qr(ta:TA):TI:=fun σ H R=>ta σ H fun vs H1=>∃i j:Int,vs=[.int i, .int j]/\(-(2 ^ 62)<=i/\i < 2 ^ 62/\ -(2 ^ 62)<=j/\j < 2 ^ 62)/\R (L8 i (j - i).toNat) H1
theorem uY{ta:TA}{p pos:Pos}(hg:Gl X "range")(hm:X.mg "range"=none)(ha:PA X [a] ta)(hs:starEach [a] X.env=[(false,eval a X.env)]:=by rfl):PI X tg (.Call (.Name "range" p) [a] [] pos) (u_ ta):=by
 intro pins s σ H R I h;refine Call_ (mQ I hg hm boot_range (PyProof.Rows.callWith_type1 (eI (ha pos pins s σ H _ I h) fun us s1 ⟨vs,H1,I1,r1,q1⟩=>?_) hs rfl))
 obtain⟨j,e,q1,q2,q⟩:=q1;subst e;cases r1 with
 | cons r rr=>
   cases rr;obtain⟨t,rfl⟩:=r;exact call_range_1 (Fi I1 (by omega) (by omega) q1 q2 (by simpa using q))
def Og(wi:TI)(g:TG)(tb:TS):TS:=fun D σ H=>wi σ H fun J H1=>∃W:Nat->Nat->St->Hp->Prop,(∃m,W 0 m σ H1)/\∀i m σ H,W i m σ H->
 (J.stop i H/\D.nx σ H)\/(J.go i H/\∃N:St->Hp->Prop,(∀dw H',N dw H'->∃m',m' < m/\W (i+1) m' dw H')/\∀x H',J.yld i H x H'->g x σ H' fun xj H2=>tb {D with nx:=N,ct:=N,bk:=D.nx} xj H2)
def oP(fp:List Addr)(h:Heap):Vr:=fp.filterMap fun b=>(h.get? b).map fun o=>(b,o)
theorem l6{fp:List Addr}{h:Heap}{b:Addr}{o:Obj}(hb:b∈fp)(e:h.get? b=some o):(b,o)∈oP fp h:=List.mem_filterMap.mpr ⟨b,hb,by rw[e];rfl⟩
theorem BE{fp:List Addr}{h:Heap}{p:Addr × Obj}(hp:p∈oP fp h):p.1∈fp/\h.get? p.1=some p.2:=by
 obtain⟨b,hb,e⟩:=List.mem_filterMap.mp hp;cases q:h.get? b with
 | none=>rw [q] at e;cases e
 | some o=>
   rw[q] at e;have e':(b,o)=p:=Option.some.inj e;subst e';exact⟨hb,q⟩
theorem Inv.pinned{pins:Vr}{s:Shared}{fp:List Addr}(I:Inv X pins σ H s)(hf:∀b∈fp,rE X pins H b)(ho:∀b∈fp,∃o,s.heap.get? b=some o/\∀v,o.data≠ .cell v):Inv X (pins++oP fp s.heap) σ H s:=
 I.Bs fun p hp=>(List.mem_append.mp hp).elim (fun z=>I.pin p (List.mem_append_right _ z)) fun z=>by
  obtain⟨hb,e⟩:=BE z;obtain⟨f0,f1,f2,_⟩:=hf p.1 hb;obtain⟨o,e',d⟩:=ho p.1 hb;rw[e] at e';cases e';exact⟨e,f0,f1,f2,d⟩
theorem Inv.pT{pins pl:Vr}{s:Shared}(I:Inv X (pins++pl) σ H s):Inv X pins σ H s:=I.Bs fun p hp=>I.pin p (List.mem_append_right _ (List.mem_append_left _ hp))
theorem DR{iter:Expr}{body:List Stmt}{wi:TI}{g:TG}{tb:TS}{pos:Pos}(hp:PassesOwn (model X.prog X.w) X.A X.env X.xe)(hc:X.calm=true)(hi:PI X tg iter wi)(hg:PG X tg g)(hb:xm X body tb)
 (hs:∀x,foldedSetIterable iter X.env x=pure x:=by intro _;rfl):PS X (.For tg iter body [] pos) (Og wi g tb):=by
 intro pins s σ H D I h;refine wpAny_For (eI (hi pins s σ H _ I h) fun v s1 h1=>eI h1 fun NU s2 h2=>?_) hs
 obtain⟨it,fp,tn,J,H2,e,I2,T,F0,f2,W,⟨m0,w0⟩,turn⟩:=h2;subst e;have stat:∀{H':Hp},(∀b∈fp,H' b=none)->∀b∈fp,rE X pins H' b:=fun hn b hb=>⟨hn b hb,(f2 b hb).2⟩
 refine codeAny_forLoop_any (fun n s'=>∃i dw H',Inv X pins dw H' s'/\tn i s'.heap/\(∀b∈fp,H' b=none)/\W i n dw H') ?_ m0 ⟨0,σ,H2,I2,F0,fun b hb=>(f2 b hb).1,w0⟩
 rintro n s3 ⟨i,HQ,H3,I3,HX,M9,w3⟩;rcases turn i n HQ H3 w3 with⟨stop,qn⟩ | ⟨go,N,hN,step⟩
 .refine wpAny_passesOwn hp (eI (T.done X rfl rfl rfl hc i pins s3 HQ H3 X.xe I3 (stat M9) HX stop) fun r s4 ⟨hr,I4⟩=>?_)
  subst hr;exact wpAny_execs_nil ⟨HQ,H3,I4,qn⟩
 .refine wpAny_passesOwn hp (eI (T.item X rfl rfl rfl hc i pins s3 HQ H3 X.xe I3 (stat M9) HX go) fun r s4 ⟨u,hr,h4⟩=>?_)
  subst hr;refine wpAny_passesOwn hp (eI h4 fun _ s5 ⟨x,H5,I5,r5,y5,Lc,PF⟩=>?_)
  have I5':=I5.pinned (stat PF) (T.obj _ _ Lc);refine wpAny_passesOwn hp (eI (hg _ s5 HQ H5 x u _ I5' r5 (step x H5 y5)) fun _ s6 ⟨M7,H6,I6,q6⟩=>?_)
  refine wpAny_passesOwn hp (eI (hb _ s6 M7 H6 _ I6 q6) fun f s7 q7=>?_)
  have again:∀{yP:St} {H7:Hp},Inv X (pins++oP fp s5.heap) yP H7 s7->N yP H7->∃m,m < n/\∃i dw H',Inv X pins dw H' s7/\tn i s7.heap/\(∀b∈fp,H' b=none)/\W i m dw H':=fun {yP H7} I7 n7=>by
   obtain⟨m',hm,w7⟩:=hN yP H7 n7;refine⟨m',hm,i+1,yP,H7,I7.pT,T.keep _ _ _ Lc fun b hb o e=>(I7.pin (b,o) (List.mem_append_right _ (List.mem_append_right _ (l6 hb e)))).1,fun b hb=>?_,w7⟩
   obtain⟨o,e,d⟩:=T.obj _ _ Lc b hb;exact(I7.pin (b,o) (List.mem_append_right _ (List.mem_append_right _ (l6 hb e)))).2.1
  cases f with
  | next=>obtain⟨yP,H7,I7,n7⟩:=q7;exact again I7 n7
  | cont=>obtain⟨yP,H7,I7,n7⟩:=q7;exact again I7 n7
  | brk=>obtain⟨yP,H7,I7,q7⟩:=q7;exact⟨yP,H7,I7.pT,q7⟩
  | ret v=>obtain⟨x7,yP,H7,I7,r7,q7⟩:=q7;exact⟨x7,yP,H7,I7.pT,r7,q7⟩
end
abbrev R2:=V->V->Hp->VK->Prop
def mK(X:Cx)(f:Value->Value->Sem Value)(r:R2):Prop:=
 ∀(pins:Vr) (s:Shared) (σ:St) (H:Hp) (x y:V) (v u:Value) (Q:VK),Inv X pins σ H s->RelV x v->RelV y u->r x y H Q->
  wpAny (model X.prog X.w) X.A (f v u) (EP X pins σ Q) X.xe s
def OG(X:Cx)(f:Value->Sem Value)(r:V->Hp->VK->Prop):Prop:=
 ∀(pins:Vr) (s:Shared) (σ:St) (H:Hp) (x:V) (v:Value) (Q:VK),Inv X pins σ H s->RelV x v->r x H Q->
  wpAny (model X.prog X.w) X.A (f v) (EP X pins σ Q) X.xe s
def m4(X:Cx)(f:Value)(r:List V->Hp->VK->Prop):Prop:=
 ∀(pins:Vr) (s:Shared) (σ:St) (H:Hp) (xs:List V) (us:List Value) (Q:VK),Inv X pins σ H s->Vals xs us->r xs H Q->
  wpAny (model X.prog X.w) X.A (call f us) (EP X pins σ Q) X.xe s
def OE(X:Cx)(r:V->Hp->(Bool->Hp->Prop)->Prop):Prop:=
 ∀(pins:Vr) (s:Shared) (σ:St) (H:Hp) (x:V) (v:Value) (Q:Bool->Hp->Prop),Inv X pins σ H s->RelV x v->r x H Q->
  wpAny (model X.prog X.w) X.A (truthy v) (TP X pins σ Q) X.xe s
def Lo(r:R2)(ta tb:TE):TE:=fun σ H Q=>ta σ H fun x H1=>tb σ H1 fun y H2=>r x y H2 Q
def RZ(r:V->Hp->VK->Prop)(ta:TE):TE:=fun σ H Q=>ta σ H fun x H1=>r x H1 Q
def rI(C:Int->Int->Prop)(g:Int->Int->V):R2:=fun x y H Q=>∃i j,x= .int i/\y= .int j/\C i j/\Q (g i j) H
def CV(g:Int->Int->V):R2:=fun x y H Q=>∃i j,x= .int i/\y= .int j/\Q (g i j) H
def rU(g:Int->V):V->Hp->VK->Prop:=fun x H Q=>∃i,x= .int i/\Q (g i) H
section
variable {X:Cx} {a b c:Expr} {ta tb tc:TE} {pos:Pos}
theorem JR(ha:PE X a ta)(hb:PE X b tb){pins:Vr}{s:Shared}{σ:St}{H:Hp}{R:V->V->Hp->Prop}(I:Inv X pins σ H s)
 (h:ta σ H fun x H1=>tb σ H1 fun y H2=>R x y H2) {Q:Vs} {f:Value->Value->Sem Value}
 (hf:∀v u s2 x y H2,Inv X pins σ H2 s2->RelV x v->RelV y u->R x y H2->wpAny (model X.prog X.w) X.A (f v u) Q X.xe s2) :
 wpAny (model X.prog X.w) X.A (eval a X.env) (fun v s₁=>wpAny (model X.prog X.w) X.A (eval b X.env) (fun u Lh=>wpAny (model X.prog X.w) X.A (f v u) Q X.xe Lh) X.xe s₁) X.xe s:=by
 refine eI (ha pins s σ H _ I h) fun v s1 ⟨x,H1,I1,r1,q1⟩=>?_
 refine eI (hb pins s1 σ H1 _ I1 q1) fun u s2 ⟨y,H2,I2,r2,q2⟩=>?_
 exact hf v u s2 x y H2 I2 r1 r2 q2
theorem Ax{op:Operator}{r:R2}(ho:mK X (binaryOp op) r)(ha:PE X a ta)(hb:PE X b tb):PE X (.BinOp a op b pos) (Lo r ta tb):=by
 intro pins s σ H Q I h;exact wpAny_BinOp (JR ha hb I h fun v u s2 x y H2 I2 rx ry q=>ho pins s2 σ H2 x y v u Q I2 rx ry q)
theorem Mt{op:UnaryOp}{r:V->Hp->VK->Prop}(ho:OG X (unaryOp op) r)(ha:PE X a ta):PE X (.UnaryOp op a pos) (RZ r ta):=by
 intro pins s σ H Q I h;exact UnaryOp_ (eI (ha pins s σ H _ I h) fun v s1 ⟨x,H1,I1,r1,q1⟩=>ho pins s1 σ H1 x v Q I1 r1 q1)
theorem Lp{f:Value->Value->Sem Value}{C:Int->Int->Prop}{g:Int->Int->Int}
 (rule:∀(i j:Int) (t u:Tok) (s:Shared) (Q:Vs) (E:Vs),C i j->Q (.int (g i j) s.toks) {s with toks:=s.toks+1}->wpAny (model X.prog X.w) X.A (f (.int i t) (.int j u)) Q E s) :
 mK X f (rI C fun i j=> .int (g i j)):=by
 intro pins s σ H x y v u Q I rx ry h;obtain⟨i,j,rfl,rfl,hc,q⟩:=h;obtain⟨t,rfl⟩:=rx;obtain⟨t',rfl⟩:=ry;exact rule i j t t' s _ _ hc ⟨.int (g i j),H,I.tok _,⟨_,rfl⟩,q⟩
theorem EK{f:Value->Value->Sem Value}{g:Int->Int->Int}
 (rule:∀(i j:Int) (t u:Tok) (s:Shared) (Q:Vs) (E:Vs),Q (.int (g i j) s.toks) {s with toks:=s.toks+1}->wpAny (model X.prog X.w) X.A (f (.int i t) (.int j u)) Q E s) :
 mK X f (CV fun i j=> .int (g i j)):=by
 intro pins s σ H x y v u Q I rx ry h;obtain⟨i,j,rfl,rfl,q⟩:=h;obtain⟨t,rfl⟩:=rx;obtain⟨t',rfl⟩:=ry;exact rule i j t t' s _ _ ⟨.int (g i j),H,I.tok _,⟨_,rfl⟩,q⟩
theorem Kj{f:Value->Value->Sem Value}{g:Int->Int->Bool}
 (rule:∀(i j:Int) (t u:Tok) (s:Shared) (Q:Vs) (E:Vs),Q (.bool (g i j)) s->wpAny (model X.prog X.w) X.A (f (.int i t) (.int j u)) Q E s) :
 mK X f (CV fun i j=> .bl (g i j)):=by
 intro pins s σ H x y v u Q I rx ry h;obtain⟨i,j,rfl,rfl,q⟩:=h;obtain⟨t,rfl⟩:=rx;obtain⟨t',rfl⟩:=ry;exact rule i j t t' s _ _ ⟨.bl (g i j),H,I,rfl,q⟩
def N3(i j:Int):Prop:=0 < j/\j < 1073741824
def Q7(i j:Int):Prop:=j≠0/\j.natAbs < 1073741824
def Ml(i j:Int):Prop:=0<=j/\j<=1000000/\i.natAbs < 2 ^ 64
def JX(i j:Int):Prop:=(-(2 ^ 64) < i/\i < 2 ^ 64)\/(-(2 ^ 64) < j/\j < 2 ^ 64)
theorem JX.ok{i j:Int}(h:JX i j):IntMulOk i j:=by
 rcases h with⟨h1,h2⟩ | ⟨h1,h2⟩
 .exact .of_left (intBits_le_64 h1 h2)
 .exact .of_right (intBits_le_64 h1 h2)
theorem Ac(k:Nat):(0:Int)<=2 ^ k:=by
 rw[two_pow_cast];exact Int.natCast_nonneg _
theorem Kn:mK X (binaryOp .Add) (CV fun i j=> .int (i+j)):=EK fun _ _ _ _ _ _ _ q=>add_int q
theorem IP:mK X (binaryOp .Sub) (CV fun i j=> .int (i - j)):=EK fun _ _ _ _ _ _ _ q=>sub_int q
theorem K4:mK X (binaryOp .Mult) (rI JX fun i j=> .int (i*j)):=Lp fun _ _ _ _ _ _ _ hc q=>mul_int q hc.ok
theorem Gq:mK X (binaryOp .FloorDiv) (rI N3 fun i j=> .int (i / j)):=Lp fun i j _ _ _ _ _ hc q=>by
 have h1:(0:Int) < j:=hc.1;have h2:j < 1073741824:=hc.2;exact floordiv_int (by omega) (by rw[Int.fdiv_eq_ediv_of_nonneg i (by omega)];exact q) (.inl (PyProof.noPylong_small (by omega)))
theorem KY:mK X (binaryOp .Mod) (rI (fun _ j=>0 < j) fun i j=> .int (i % j)):=Lp fun i j _ _ _ _ _ hc q=>by
 have h1:(0:Int) < j:=hc;exact mod_int' (by omega) (by rw[Int.fmod_eq_emod_of_nonneg i (by omega)];exact q)
theorem KI:mK X (binaryOp .Pow) (rI Ml fun i j=> .int (i ^ j.toNat)):=Lp fun _ _ _ _ _ _ _ hc q=>pow_int_small hc.1 hc.2.1 hc.2.2 q
theorem Jx:mK X (binaryOp .LShift) (rI Ml fun i j=> .int (i*2 ^ j.toNat)):=Lp fun _ _ _ _ _ _ _ hc q=>lshift_int_small hc.1 hc.2.1 hc.2.2 q
theorem Ji:mK X (binaryOp .RShift) (rI (fun _ j=>0<=j) fun i j=> .int (i / 2 ^ j.toNat)):=Lp fun i j _ _ _ _ _ hc q=>
 rshift_int hc (by rw[Int.fdiv_eq_ediv_of_nonneg i (Ac _)];exact q)
theorem J1:mK X (binaryOp .BitAnd) (CV fun i j=> .int (Builtin.bitAnd i j)):=EK fun _ _ _ _ _ _ _ q=>and_int q
theorem LV:mK X (binaryOp .BitOr) (CV fun i j=> .int (Builtin.bitOr i j)):=EK fun _ _ _ _ _ _ _ q=>or_int q
theorem Jn:mK X (binaryOp .BitXor) (CV fun i j=> .int (Builtin.bitXor i j)):=EK fun _ _ _ _ _ _ _ q=>xor_int q
theorem Sq{f:Value->Sem Value}{g:Int->Int}
 (rule:∀(i:Int) (t:Tok) (s:Shared) (Q:Vs) (E:Vs),Q (.int (g i) s.toks) {s with toks:=s.toks+1}->wpAny (model X.prog X.w) X.A (f (.int i t)) Q E s) :
 OG X f (rU fun i=> .int (g i)):=by
 intro pins s σ H x v Q I rx h;obtain⟨i,rfl,q⟩:=h;obtain⟨t,rfl⟩:=rx;exact rule i t s _ _ ⟨.int (g i),H,I.tok _,⟨_,rfl⟩,q⟩
theorem Jt:OG X (unaryOp .USub) (rU fun i=> .int (-i)):=Sq fun _ _ _ _ _ q=>neg_int q
end
def LL:V->V->Bool
 | .cn, .cn=>true | .cn, .int _=>true | .int _, .cn=>true | .cn, .bl _=>true | .bl _, .cn=>true | .cn, .str _=>true | .str _, .cn=>true
 | .int _, .int _=>true | .bl _, .bl _=>true | .str _, .str _=>true | .byt _, .byt _=>true
 | .int _, .str _=>true | .str _, .int _=>true | .bl _, .str _=>true | .str _, .bl _=>true
 | _,_=>false
def SG:R2:=fun x y H Q=>LL x y=true/\Q (.bl (decide (x=y))) H
def RN:R2:=fun x y H Q=>LL x y=true/\Q (.bl (!decide (x=y))) H
theorem AF{i j:Int}:decide (V.int i=V.int j)=(i==j):=by
 rw[Bool.eq_iff_iff];simp
theorem Ff{i j:Bool}:decide (V.bl i=V.bl j)=(i==j):=by
 rw[Bool.eq_iff_iff];simp
theorem Bn:decide (V.str i=V.str j)=(i==j):=by
 rw[Bool.eq_iff_iff];simp
theorem Bl{i j:Array UInt8}:decide (V.byt i=V.byt j)=(i.toList==j.toList):=by
 rw[Bool.eq_iff_iff];cases i;cases j;simp
section
variable {X:Cx} {a b c:Expr} {ta tb tc:TE} {pos:Pos}
theorem cj{pins:Vr}{s:Shared}{Q:VK}{k k':Bool}(I:Inv X pins σ H s)(q:Q (.bl k) H)(e:k=k'):EP X pins σ Q (.bool k') s:=by
 subst e;exact⟨.bl k,H,I,rfl,q⟩
theorem Dv:mK X (compareOp .Eq) SG:=by
 intro pins s σ H x y v u Q I rx ry h;obtain⟨hs,q⟩:=h;cases x with
 | cn=>
   cases rx;cases y with
   | cn=>cases ry;exact PySem.EqNone.eq_none_none (cj I q (by simp))
   | bl j=>cases ry;exact PySem.EqNone.eq_none_bool (cj I q (by simp))
   | int j=>obtain⟨t',rfl⟩:=ry;exact PySem.EqNone.eq_none_int (cj I q (by simp))
   | str j=>obtain⟨t',rfl⟩:=ry;exact PySem.EqNone.eq_none_str (cj I q (by simp))
   | _=>exact absurd (show false=true from hs) Bool.false_ne_true
 | bl i=>
   cases rx;cases y with
   | cn=>cases ry;exact PySem.EqNone.eq_bool_none (cj I q (by simp))
   | bl j=>cases ry;exact eq_bool (cj I q Ff)
   | str j=>obtain⟨t',rfl⟩:=ry;exact PySem.EqMixed.eq_bool_str (cj I q (by simp))
   | _=>exact absurd (show false=true from hs) Bool.false_ne_true
 | int i=>
   obtain⟨t,rfl⟩:=rx;cases y with
   | cn=>cases ry;exact PySem.EqNone.eq_int_none (cj I q (by simp))
   | int j=>obtain⟨t',rfl⟩:=ry;exact eq_int (cj I q AF)
   | str j=>obtain⟨t',rfl⟩:=ry;exact PySem.EqMixed.eq_int_str (cj I q (by simp))
   | _=>exact absurd (show false=true from hs) Bool.false_ne_true
 | str i=>
   obtain⟨t,rfl⟩:=rx;cases y with
   | cn=>cases ry;exact PySem.EqNone.eq_str_none (cj I q (by simp))
   | bl j=>cases ry;exact PySem.EqMixed.eq_str_bool (cj I q (by simp))
   | int j=>obtain⟨t',rfl⟩:=ry;exact PySem.EqMixed.eq_str_int (cj I q (by simp))
   | str j=>obtain⟨t',rfl⟩:=ry;exact eq_str (cj I q Bn)
   | _=>exact absurd (show false=true from hs) Bool.false_ne_true
 | byt i=>
   obtain⟨t,rfl⟩:=rx;cases y with
   | byt j=>obtain⟨t',rfl⟩:=ry;exact PySem.W.eq_bytes (cj I q Bl)
   | _=>exact absurd (show false=true from hs) Bool.false_ne_true
 | _=>cases y <;> exact absurd (show false=true from hs) Bool.false_ne_true
theorem C4:mK X (compareOp .NotEq) RN:=by
 intro pins s σ H x y v u Q I rx ry h;obtain⟨hs,q⟩:=h;cases x with
 | cn=>
   cases rx;cases y with
   | cn=>cases ry;exact PySem.EqNone.ne_none_none (cj I q (by simp))
   | bl j=>cases ry;exact PySem.EqNone.ne_none_bool (cj I q (by simp))
   | int j=>obtain⟨t',rfl⟩:=ry;exact PySem.EqNone.ne_none_int (cj I q (by simp))
   | str j=>obtain⟨t',rfl⟩:=ry;exact PySem.EqNone.ne_none_str (cj I q (by simp))
   | _=>exact absurd (show false=true from hs) Bool.false_ne_true
 | bl i=>
   cases rx;cases y with
   | cn=>cases ry;exact PySem.EqNone.ne_bool_none (cj I q (by simp))
   | bl j=>cases ry;exact ne_bool (cj I q (congrArg not Ff))
   | str j=>obtain⟨t',rfl⟩:=ry;exact PySem.EqMixed.ne_bool_str (cj I q (by simp))
   | _=>exact absurd (show false=true from hs) Bool.false_ne_true
 | int i=>
   obtain⟨t,rfl⟩:=rx;cases y with
   | cn=>cases ry;exact PySem.EqNone.ne_int_none (cj I q (by simp))
   | int j=>obtain⟨t',rfl⟩:=ry;exact ne_int (cj I q (congrArg not AF))
   | str j=>obtain⟨t',rfl⟩:=ry;exact PySem.EqMixed.ne_int_str (cj I q (by simp))
   | _=>exact absurd (show false=true from hs) Bool.false_ne_true
 | str i=>
   obtain⟨t,rfl⟩:=rx;cases y with
   | cn=>cases ry;exact PySem.EqNone.ne_str_none (cj I q (by simp))
   | bl j=>cases ry;exact PySem.EqMixed.ne_str_bool (cj I q (by simp))
   | int j=>obtain⟨t',rfl⟩:=ry;exact PySem.EqMixed.ne_str_int (cj I q (by simp))
   | str j=>obtain⟨t',rfl⟩:=ry;exact ne_str (cj I q (congrArg not Bn))
   | _=>exact absurd (show false=true from hs) Bool.false_ne_true
 | byt i=>
   obtain⟨t,rfl⟩:=rx;cases y with
   | byt j=>obtain⟨t',rfl⟩:=ry;exact PySem.W.ne_bytes (cj I q (congrArg not Bl))
   | _=>exact absurd (show false=true from hs) Bool.false_ne_true
 | _=>cases y <;> exact absurd (show false=true from hs) Bool.false_ne_true
theorem LY:mK X (compareOp .Lt) (CV fun i j=> .bl (decide (i < j))):=Kj fun _ _ _ _ _ _ _ q=>lt_int q
theorem MA:mK X (compareOp .Gt) (CV fun i j=> .bl (decide (j < i))):=Kj fun _ _ _ _ _ _ _ q=>gt_int q
theorem Mr:mK X (compareOp .GtE) (CV fun i j=> .bl (decide (j<=i))):=Kj fun _ _ _ _ _ _ _ q=>ge_int q
theorem Ck:mK X (compareOp .In) (fun x y H Q=>∃i j,x= .str i/\y= .str j/\Q (.bl (!(Builtin.Str.occurrences j i 0 j.length 1).isEmpty)) H):=by
 intro pins s σ H x y v u Q I rx ry h;obtain⟨i,j,rfl,rfl,q⟩:=h;obtain⟨t,rfl⟩:=rx;obtain⟨t',rfl⟩:=ry;exact in_str (cj I q rfl)
theorem Hr:mK X (compareOp .IsNot) (fun x y H Q=>y= .cn/\Q (.bl (!decide (x= .cn))) H):=by
 intro pins s σ H x y v u Q I rx ry h;obtain⟨rfl,q⟩:=h;cases ry;refine isnot_none_gen (cj I q ?_);cases x <;> first
  | (cases rx;rfl)
  | (obtain⟨t,rfl⟩:=rx;rfl)
def isObj:HO->Bool
 | .lst _=>true
 | .ins _ _ _=>true
 | _=>false
theorem bC(b:Expr){op:CmpOp}(h:op≠ .In:=by decide)(h2:op≠ .NotIn:=by decide):behindInMarks op b=false:=by
 have e1:(op==CmpOp.In)=false:=by cases op <;> first | rfl | exact absurd rfl h
 have e2:(op==CmpOp.NotIn)=false:=by cases op <;> first | rfl | exact absurd rfl h2
 cases b <;> simp [behindInMarks,e1,e2]
theorem AX{op:CmpOp}{r:R2}(ho:mK X (compareOp op) r)(ha:PE X a ta)(hb:PE X b tb)(hm:behindInMarks op b=false):PE X (.Compare a [op] [b] pos) (Lo r ta tb):=by
 intro pins s σ H Q I h;exact wpAny_Compare1 (JR ha hb I h fun v u s2 x y H2 I2 rx ry q=>ho pins s2 σ H2 x y v u Q I2 rx ry q) hm
def LF(t:TE):TT:=fun σ H Q=>t σ H fun x H'=>∃k,x= .bl k/\Q k H'
theorem AD{op:CmpOp}{r:R2}(ho:mK X (compareOp op) r)(ha:PE X a ta)(hb:PE X b tb)(hm:behindInMarks op b=false):PT X (.Compare a [op] [b] pos) (LF (Lo r ta tb)):=by
 intro pins s σ H Q I h;refine wpAny_isTrue_Compare1 (eI (ha pins s σ H _ I h) fun v s1 ⟨x,H1,I1,r1,q1⟩=>eI (hb pins s1 σ H1 _ I1 q1) fun u s2 ⟨y,H2,I2,r2,q2⟩=>
  eI (ho pins s2 σ H2 x y v u _ I2 r1 r2 q2) fun c s3 ⟨z,H3,I3,r3,k,e,q3⟩=>?_) hm
 subst e;cases r3;exact wpAny_truthy_bool ⟨H3,I3,q3⟩
def O7(r r':R2)(ta tb tc:TE):TE:=fun σ H Q=>ta σ H fun x H1=>tb σ H1 fun y H2=>r x y H2 fun z H3=>∃k,z= .bl k/\
 (if k=true then tc σ H3 fun w' H4=>r' y w' H4 Q else Q (.bl false) H3)
def Jd(K:W.Frag)(x:V)(H:Hp)(k:Bool):Prop:=
 match x with
 | .cn=>k=false
 | .bl b=>k=b
 | .int i=>k=(i !=0)
 | .str y=>y.length<=sizeLine/\k=((y.length:Int) !=0)
 | .byt y=>y.size<=sizeLine/\k=((y.size:Int) !=0)
 | .ref p=>(∃xs,pL K H p xs/\k=!xs.isEmpty)\/(∃xs,rO K H p xs/\k=!xs.isEmpty)\/∃kvs,H p=some (.dK kvs)/\k=!kvs.isEmpty
 | _=>False
theorem zR{κ:Type}{kvs:List (κ × V)}{vs:List (κ × Value)}(r:KV kvs vs):(!vs.isEmpty)=!kvs.isEmpty:=by
 cases r <;> rfl
theorem tf{xs:List V}{its:List Value}(r:Vals xs its):(!its.toArray.isEmpty)=!xs.isEmpty:=by
 cases r <;> simp
theorem sG:(sizeLine:Nat) < 2 ^ 63:=by rw[sizeLine_eq];decide
theorem Jw:OE X (fun x H Q=>∃k,Jd X.K x H k/\Q k H):=by
 intro pins s σ H x v Q I rx h;obtain⟨k,e,q⟩:=h;have hl:=sG;have hs:sizeLine=16777216:=sizeLine_eq;cases x with
 | cn=>
   cases rx;have e':k=false:=e;subst e';exact truthy_none ⟨H,I,q⟩
 | bl b=>
   cases rx;have e':k=b:=e;subst e';exact wpAny_truthy_bool ⟨H,I,q⟩
 | int i=>
   obtain⟨t,rfl⟩:=rx;have e':k=(i !=0):=e;subst e';exact PySem.P.truthy_int ⟨H,I,q⟩
 | str y=>
   obtain⟨t,rfl⟩:=rx;obtain⟨hy,e'⟩:y.length<=sizeLine/\k=((y.length:Int) !=0):=e;subst e';exact PySem.P.truthy_str (by omega) ⟨H,I.tok _,q⟩
 | byt y=>
   obtain⟨t,rfl⟩:=rx;obtain⟨hy,e'⟩:y.size<=sizeLine/\k=((y.size:Int) !=0):=e;subst e';exact PySem.W.truthy_bytes (by omega) ⟨H,I.tok _,q⟩
 | ref p=>
   cases rx;have e':(∃xs,pL X.K H p xs/\k=!xs.isEmpty)\/(∃xs,rO X.K H p xs/\k=!xs.isEmpty)\/∃kvs,H p=some (.dK kvs)/\k=!kvs.isEmpty:=e;rcases e' with⟨xs,hx,e'⟩ | ⟨xs,hx,e'⟩ | ⟨kvs,hx,e'⟩
   .subst e';obtain⟨its,r,pl,hz⟩:=I.list hx;have hlen:=r.length;exact wpAny_truthy_list pl.isList (by simp only[List.size_toArray];omega) ⟨H,I.tok _,by rw[tf r];exact q⟩
   .subst e';obtain⟨its,r,pl,hz⟩:=I.tuple hx;have hlen:=r.length;exact truthy_tuple pl (by simp only[List.size_toArray];omega) ⟨H,I.tok _,by rw[tf r];exact q⟩
   .subst e';obtain⟨hz,hS,vs,r,m⟩:kvs.length<=sizeLine/\(p==sysModules)=false/\∃vs,KV kvs vs/\s.heap.DictOf (dD X.prog X.w) p vs:=I.hok p _ hx;have hlen:kvs.length=vs.length:=Paired.length r;exact wpAny_truthy_dict hS m (by omega) ⟨H,I.tok _,by rw[zR r];exact q⟩
 | _=>exact(show False from e).elim
theorem E6(ha:PE X a ta)(he:∀whole,isTrue a X.env whole=(do let v <-whole;standAt a.pos;holding [v] (truthy v))) :
 PT X a (fun σ H Q=>ta σ H fun x H'=>∃k,Jd X.K x H' k/\Q k H'):=by
 intro pins s σ H Q I h;exact isTrue_plain (eI (ha pins s σ H _ I h) fun v s1 ⟨x,H1,I1,r1,q1⟩=>Jw pins s1 σ H1 x v Q I1 r1 q1) (he _)
theorem z7:mK X (binaryOp .Add) (fun x y H Q=>∃i j,x= .str i/\y= .str j/\i.length+j.length<=sizeLine/\Q (.str (i++j)) H):=by
 intro pins s σ H x y v u Q I rx ry h;obtain⟨i,j,rfl,rfl,hz,q⟩:=h;obtain⟨t,rfl⟩:=rx;obtain⟨t',rfl⟩:=ry;exact add_str (fun t' tk=>⟨.str (i++j),H,I.tok _,⟨_,rfl⟩,q⟩) hz
def MX(b:Expr):Prop:=∀o i,subscripted b false o i=operate [o,i] (getItem o i)
theorem vals1{x:V}{us:List Value}(r:Vals [x] us):∃u,us=[u]/\RelV x u:=by
 cases r with
 | cons r1 r2=>cases r2;exact⟨_,rfl,r1⟩
theorem vals2{x y:V}{us:List Value}(r:Vals [x,y] us):∃u w',us=[u,w']/\RelV x u/\RelV y w':=by
 cases r with
 | cons r1 r2=>
   cases r2 with
   | cons r3 r4=>cases r4;exact⟨_,_,rfl,r1,r3⟩
theorem C6:m4 X (.builtin "abs") (fun xs H Q=>∃i,xs=[.int i]/\Q (.int (if i < 0 then -i else i)) H):=by
 intro pins s σ H xs us Q I r h;obtain⟨i,rfl,q⟩:=h;obtain⟨u,rfl,t,rfl⟩:=vals1 r;exact call_abs_int fun u tk=>⟨.int (if i < 0 then -i else i),H,I.tok _,⟨_,rfl⟩,q⟩
theorem CD(hc:X.calm=true):m4 X (.builtin "max") (fun xs H Q=>∃i j,xs=[.int i, .int j]/\Q (.int (if j > i then j else i)) H):=by
 intro pins s σ H xs us Q I r h;obtain⟨i,j,rfl,q⟩:=h;obtain⟨u,w',rfl,⟨t,rfl⟩,⟨t',rfl⟩⟩:=vals2 r;refine max_two_ints (I.ok.hd hc) fun h' tk k=>⟨_,H,I.kept k,?_,q⟩
 by_cases hj:j > i
 .rw [if_pos hj,if_pos hj];exact⟨_,rfl⟩
 .rw [if_neg hj,if_neg hj];exact⟨_,rfl⟩
theorem Cy(hc:X.calm=true):m4 X (.builtin "min") (fun xs H Q=>∃i j,xs=[.int i, .int j]/\Q (.int (if j < i then j else i)) H):=by
 intro pins s σ H xs us Q I r h;obtain⟨i,j,rfl,q⟩:=h;obtain⟨u,w',rfl,⟨t,rfl⟩,⟨t',rfl⟩⟩:=vals2 r;refine min_two_ints (I.ok.hd hc) fun h' tk k=>⟨_,H,I.kept k,?_,q⟩
 by_cases hj:j < i
 .rw [if_pos hj,if_pos hj];exact⟨_,rfl⟩
 .rw [if_neg hj,if_neg hj];exact⟨_,rfl⟩
theorem BH:m4 X (.type "int") (fun xs H Q=>(∃i,xs=[.int i]/\Q (.int i) H)\/∃k,xs=[.bl k]/\Q (.int (if k then 1 else 0)) H):=by
 intro pins s σ H xs us Q I r h;rcases h with⟨i,rfl,q⟩ | ⟨k,rfl,q⟩
 .obtain⟨u,rfl,t,rfl⟩:=vals1 r;exact call_int_int ⟨.int i,H,I,⟨_,rfl⟩,q⟩
 .obtain⟨u,rfl,r1⟩:=vals1 r;cases r1;exact call_int_bool ⟨.int (if k then 1 else 0),H,I.tok _,⟨_,rfl⟩,q⟩
def Pa(K:W.Frag)(x:V)(H:Hp)(n:Nat):Prop:=
 match x with
 | .str y=>y.length<=sizeLine/\n=y.length
 | .byt y=>y.size<=sizeLine/\n=y.size
 | .ref p=>(∃xs,pL K H p xs/\n=xs.length)\/∃xs,rO K H p xs/\n=xs.length
 | _=>False
theorem C5:m4 X (.builtin "len") (fun xs H Q=>∃x n,xs=[x]/\Pa X.K x H n/\Q (.int n) H):=by
 intro pins s σ H xs us Q I r h;obtain⟨x,n,rfl,e,q⟩:=h;obtain⟨u,rfl,rx⟩:=vals1 r;have hl:=sG;have hs:sizeLine=16777216:=sizeLine_eq;cases x with
 | str y=>
   obtain⟨t,rfl⟩:=rx;obtain⟨hy,e'⟩:y.length<=sizeLine/\n=y.length:=e;subst e';exact len_str (by omega) ⟨.int _,H,I.tok _,⟨_,rfl⟩,q⟩
 | byt y=>
   obtain⟨t,rfl⟩:=rx;obtain⟨hy,e'⟩:y.size<=sizeLine/\n=y.size:=e;subst e';exact PySem.W.len_bytes (by omega) ⟨.int _,H,I.tok _,⟨_,rfl⟩,q⟩
 | ref p=>
   cases rx;have e':(∃xs,pL X.K H p xs/\n=xs.length)\/∃xs,rO X.K H p xs/\n=xs.length:=e;rcases e' with⟨xs,hx,e'⟩ | ⟨xs,hx,e'⟩
   .subst e';obtain⟨its,r',pl,hz⟩:=I.list hx;have hlen:=r'.length;exact Calls.call_len_list pl.isList (by simp only[List.size_toArray];omega) ⟨.int xs.length,H,I.tok _,⟨_,by simp only[List.size_toArray];rw [hlen]⟩,q⟩
   .subst e';obtain⟨its,r',pl,hz⟩:=I.tuple hx;have hlen:=r'.length;exact len_tuple pl (by simp only[List.size_toArray];omega) ⟨.int xs.length,H,I.tok _,⟨_,by simp only[List.size_toArray];rw [hlen]⟩,q⟩
 | _=>exact(show False from e).elim
end
structure y4 (h:Heap) (x dx C:Addr) (mA:Vw):Prop where
 obj:h.get? x=some (PySem.W.instObj C dx)
 ns:h.Ns1 dx mA
 ne:dx≠x
theorem CA{h:Heap}{dx:Addr}{mA:Vw}(n:h.Ns1 dx mA):∃od,h.get? dx=some od/\∀name,PySem.W.lookIn name od=some (mA name):=by
 obtain⟨o,es,ep,ho,hd,hk,_,hm⟩:=n;refine⟨o,ho,fun name=>?_⟩
 have e:=hm name;unfold nsFind findBy at e;rw[<-Array.find?_toList] at e;unfold PySem.W.lookIn;rw[hd];dsimp only;split
 .rename_i y q;rw[q] at e;exact congrArg some e
 .rename_i q;rw[q] at e;have a:es.toList.any (·.refKey)=false:=by
   rw[List.any_eq_false];intro y hy;obtain⟨z,t,hkey⟩:=hk y (Array.mem_toList_iff.mp hy);simp [DictEntry.refKey,hkey]
  have a':¬es.toList.any (·.refKey)=true:=by rw[a];exact Bool.false_ne_true
  rw[if_neg a'];exact congrArg some e
theorem y4.look{x dx C:Addr}{mA:Vw}(I:y4 h x dx C mA):∃od,PySem.W.InstAt h x (PySem.W.instObj C dx) C (some od)/\∀name,PySem.W.lookIn name od=some (mA name):=
 let⟨od,ho,hl⟩:=CA I.ns
 ⟨od,⟨I.obj,rfl,rfl,ho⟩,hl⟩
section
variable {prog:Program} {w:World} {A:Around} {E:Vs} {s:Shared} {K:W.Frag} {x dx C f:Addr} {mA:Vw} {name:Str} {v:Value}
theorem get_map{expr:Bool}{Q:Vs}(X:K.In s.heap)(I:y4 s.heap x dx C mA)(hg:PySem.W.plainGet K C name=true)(hh:PySem.W.hasDictIn K C=true)
 (ha:PySem.W.findIn K (.ref C) name=some none) (hv:mA name=some v) (TU:PySem.W.handedIn v=true) (h:Q v {s with toks:=s.toks+1}) :
 wpAny (model prog w) A (getAttr (.ref x) name expr) Q E s:=by
 obtain⟨od,J,hl⟩:=I.look;exact PySem.W.get_value X J (PySem.W.plainGet_of hg).1 (PySem.W.findObj_own hh ha rfl (by rw[hl,hv])) TU h
theorem EO{pl:Sem Bool}{Q:Value × List Value->Shared->Prop}(X:K.In s.heap)(I:y4 s.heap x dx C mA)(hg:PySem.W.plainGet K C name=true)
 (hf:PySem.W.findIn K (.ref C) name=some (some (.ref f))) (ht:PySem.W.isFn K (.ref f)=true) (hv:mA name=none) (h:Q (.ref f,[.ref x]) s) :
 wpAny (model prog w) A (getMethod (.ref x) name pl) Q E s:=by
 obtain⟨od,J,hl⟩:=I.look;exact PySem.W.method_fn X J (PySem.W.plainGet_of hg).1 (PySem.W.plainGet_of hg).2 hf (beq_iff_eq.mp ht) (by show(PySem.W.lookIn name od).map (·.isSome)=some false;rw [hl,hv];rfl) h
theorem GZ{ns:List Str}{Q:Unit->Shared->Prop}(X:K.In s.heap)(I:y4 s.heap x dx C mA)
 (hs:PySem.W.findIn K (.ref C) "__setattr__"=some (some (.builtin "object.__setattr__"))) (hp:PySem.W.plainOver K C=true) (ht:PySem.W.takerIn K C name=some none) (hh:PySem.W.hasDictIn K C=true)
 (hw:PySem.Within mA ns) (IC:ns.length<=sizeLine)
 (h:∀h',y4 h' x dx C (fun y=>if y=name then some v else mA y)->Heap.SameBut dx s.heap h'->Q () {s with heap:=h',toks:=s.toks+2}) :
 wpAny (model prog w) A (setAttr (.ref x) name v) Q E s:=by
 obtain⟨od,J,hl⟩:=I.look;refine PySem.W.set_plain X J hs (PySem.W.osa_open (s:={s with toks:=s.toks+1}) (r:=none) X J hp ht fun b=>?_)
 obtain⟨cd,hc,Nm⟩:=PySem.W.any_some hh;have hx:s.heap.get? x=some ⟨.ref C,some dx, .plain,#[]⟩:=I.obj;refine wpAny_bind (wpAny_pure (wpAny_bind (wpAny_bind (wpAny_loadPart hx (wpAny_bind (PySem.W.Looks.here (s:={s with toks:=s.toks+1}) (PySem.W.looks_clsIn X hc) ?_))))))
 rw[Nm];refine wpAny_pure (a:=some dx) (wpAny_bind (wpAny_pure (wpAny_bind ?_)));refine wpAny_nsSet1 (s:={s with toks:=s.toks+1}) I.ns fun h' NK CZ=>?_
 obtain⟨oD,esD,epD,hoD,hdD,hcD⟩:=NK.count (PySem.Within.cons name v hw);refine wpAny_bind (wpAny_lookBehind hoD (by rw[hdD];exact pastItsLine_dict (Nat.le_trans hcD (by rw[List.length_cons];omega))) ?_)
 exact wpAny_pure (h _ ⟨(CZ.2 _ (Ne.symm I.ne)).trans I.obj,NK,I.ne⟩ CZ)
theorem D1{R:Result->Shared->Prop}{vs:List Value}{kw:List (Str × Value)}(X:K.In s.heap)(hm:PySem.W.makesIn K C=true)
 (hi:PySem.W.findIn K (.ref C) "__init__"=some (some (.ref f))) (hf:PySem.W.typeIn K (.ref f)=some (.type "function"))
 (h:codeAny (model prog w) (A.under (.builtin "type.__call__" ⟨.ref C ::vs,kw⟩)) (.call (.ref f) ⟨.ref (s.heap.objs.size+1) ::vs,kw⟩) (PySem.W.InitBack (s.heap.objs.size+1) R)
   {s with heap:=(s.heap.push PySem.W.emptyDict).push (PySem.W.instObj C s.heap.objs.size)}) :
 codeAny (model prog w) A (.call (.ref C) ⟨vs,kw⟩) R s:=by
 obtain⟨hh,g,d,t,os⟩:=s;exact PySem.W.make_core (PySem.W.makes_of X hm) (PySem.W.looks_findIn X hi) (fun self=>PySem.W.bind_fn X self hf) (.inl rfl) h
end
def kE(f:Str)(v:V):List (Str × V)->List (Str × V)
 | []=>[(f,v)]
 | (g,x) ::r=>if g=f then(g,v) ::r else(g,x) ::kE f v r
theorem rB(f g:Str)(v:V):∀fs:List (Str × V),(kE f v fs).lookup g=if g=f then some v else fs.lookup g
 | []=>by
   show List.lookup g [(f,v)]=_;by_cases h:g=f
   .have hb:(g==f)=true:=beq_iff_eq.mpr h;simp only[List.lookup,hb,if_pos h]
   .have hb:(g==f)=false:=beq_eq_false_iff_ne.mpr h;simp only[List.lookup,hb,if_neg h]
 | (k,x) ::r=>by
   have ih:=rB f g v r;rw[show kE f v ((k,x) ::r)=(if k=f then(k,v) ::r else(k,x) ::kE f v r) from rfl]
   by_cases hk:k=f
   .rw [if_pos hk];by_cases h:g=k
    .have hb:(g==k)=true:=beq_iff_eq.mpr h;simp only[List.lookup,hb,if_pos (h.trans hk)]
    .have hb:(g==k)=false:=beq_eq_false_iff_ne.mpr h;simp only[List.lookup,hb,if_neg (fun e:g=f=>h (e.trans hk.symm))]
   .rw [if_neg hk];by_cases h:g=k
    .have hb:(g==k)=true:=beq_iff_eq.mpr h;simp only[List.lookup,hb,if_neg (fun e:g=f=>hk (h.symm.trans e))]
    .have hb:(g==k)=false:=beq_eq_false_iff_ne.mpr h;simp only[List.lookup,hb];exact ih
theorem qB(f:Str)(v:V):∀fs:List (Str × V),f∈(kE f v fs).map (·.1)/\∀g,g∈fs.map (·.1)->g∈(kE f v fs).map (·.1)
 | []=>⟨by simp [kE],fun g h=>by simp at h⟩
 | (k,x) ::r=>by
   obtain⟨i1,i2⟩:=qB f v r;rw[show kE f v ((k,x) ::r)=(if k=f then(k,v) ::r else(k,x) ::kE f v r) from rfl]
   by_cases hk:k=f
   .rw [if_pos hk];subst hk;exact⟨by simp,fun g h=>by simpa using h⟩
   .rw [if_neg hk];refine⟨?_,fun g h=>?_⟩
    .rw [List.map_cons];exact List.mem_cons_of_mem _ i1
    .rw [List.map_cons] at h ⊢;rcases List.mem_cons.mp h with e | e
     .exact List.mem_cons.mpr (.inl e)
     .exact List.mem_cons_of_mem _ (i2 g e)
theorem ri(f:Str)(v:V):∀fs:List (Str × V),(kE f v fs).length<=fs.length+1
 | []=>by simp [kE]
 | (k,x) ::r=>by
   have ih:=ri f v r;rw[show kE f v ((k,x) ::r)=(if k=f then(k,v) ::r else(k,x) ::kE f v r) from rfl]
   by_cases hk:k=f
   .rw [if_pos hk,List.length_cons,List.length_cons];omega
   .rw [if_neg hk,List.length_cons,List.length_cons];omega
theorem pO.some_of{v:V}{o:Option Value}(r:pO (some v) o):∃u,o=some u/\RelV v u:=by
 cases o with
 | none=>exact(show False from r).elim
 | some u=>exact⟨u,rfl,r⟩
theorem pO.none_of{o:Option Value}(r:pO none o):o=none:=by
 cases o with
 | none=>rfl
 | some u=>exact(show False from r).elim
theorem CB{v:V}{u:Value}(r:RelV v u):PySem.W.handedIn u=true:=by
 cases v with
 | cn=>cases(show u=Value.none from r);rfl
 | bl b=>cases(show u=Value.bool b from r);rfl
 | int i=>obtain⟨t,e⟩:=(show ∃t,u=Value.int i t from r);cases e;rfl
 | str x=>obtain⟨t,e⟩:=(show ∃t,u=Value.str x t from r);cases e;rfl
 | byt b=>obtain⟨t,e⟩:=(show ∃t,u=Value.bytes b t from r);cases e;rfl
 | flt b=>obtain⟨t,e⟩:=(show ∃t,u=Value.float b t from r);cases e;rfl
 | ref a=>cases(show u=Value.ref a from r);rfl
 | ty n=>cases(show u=Value.type n from r);rfl
section
variable {P:Program} {w:World} {H H':Hp} {h h':Heap} {a C dx:Addr} {fs LA:List (Str × V)}
theorem wC(hok:oj P w H h)(e:H a=some (.ins C dx fs)):∃mA,y4 h a dx C mA/\(∀f,pO (fs.lookup f) (mA f))/\PySem.Within mA (fs.map (·.1))/\fs.length<=1000/\H dx=some (.own a):=by
 obtain⟨d,z,ne,ob,mA,n,r,q⟩:=(show fE P w H h a (.ins C dx fs) from hok a _ e)
 exact⟨mA,⟨ob,n,ne⟩,r,q,z,d⟩
end
structure xn (K:W.Frag) (C:Addr):Prop where
 pg:PySem.W.plainGet K C Str.empty=true
 hd:PySem.W.hasDictIn K C=true
 po:PySem.W.plainOver K C=true
 sa:PySem.W.findIn K (.ref C) "__setattr__"=some (some (.builtin "object.__setattr__"))
theorem xn.get{K:W.Frag}{C:Addr}(c:xn K C)(f:Str):PySem.W.plainGet K C f=true:=c.pg
def dr(K:W.Frag)(C:Addr)(f:Str):Prop:=PySem.W.findIn K (.ref C) f=some none
theorem dr.MK{K:W.Frag}{C:Addr}(n:dr K C f):PySem.W.takerIn K C f=some none:=by
 unfold PySem.W.takerIn;rw[show PySem.W.findIn K (.ref C) f=some none from n]
 rfl
structure Sh (K:W.Frag) (C:Addr) (f:Str) (v:V) (u:Value):Prop where
 at_:PySem.W.findIn K (.ref C) f=some (some u)
 rel:RelV v u
 get:PySem.W.specialIn K u "__get__"=some none
 cp:PySem.W.copiedNames.contains f=false
structure Meth (K:W.Frag) (C:Addr) (m:Str) (f:Addr):Prop where
 at_:PySem.W.findIn K (.ref C) m=some (some (.ref f))
 fn:PySem.W.isFn K (.ref f)=true
 kp:PySem.W.keepIn K (.ref f)=true
section
variable {X:Cx} {pins:Vr} {σ:St} {H:Hp} {s:Shared} {a C dx:Addr} {fs:List (Str × V)} {f:Str} {v:V} {A:Around} {E:Vs}
theorem zF{b:Bool}{Q:Vs}(I:Inv X pins σ H s)(e:H a=some (.ins C dx fs))(c:xn X.K C)(n:dr X.K C f)(l:fs.lookup f=some v)
 (h:∀u s',Inv X pins σ H s'->RelV v u->Q u s'):wpAny (model X.prog X.w) A (getAttr (.ref a) f b) Q E s:=by
 obtain⟨mA,O,r,_,_,_⟩:=wC I.hok e;obtain⟨u,hu,ru⟩:=pO.some_of (v:=v) (o:=mA f) (by rw[<-l];exact r f)
 exact get_map I.AR O (c.get f) c.hd n hu (CB ru) (h u _ (I.tok _) ru)
theorem zC{m:Str}{g:Addr}{pl:Sem Bool}{Q:Value × List Value->Shared->Prop}(I:Inv X pins σ H s)(e:H a=some (.ins C dx fs))(c:xn X.K C)(k:Meth X.K C m g)(l:fs.lookup m=none)
 (h:Q (.ref g,[.ref a]) s):wpAny (model X.prog X.w) A (getMethod (.ref a) m pl) Q E s:=by
 obtain⟨mA,O,r,_,_,_⟩:=wC I.hok e;have hn:mA m=none:=pO.none_of (by rw[<-l];exact r m)
 exact EO I.AR O (c.get m) k.at_ k.fn hn h
theorem zL{y:V}{u:Value}{Q:Unit->Shared->Prop}(I:Inv X pins σ H s)(e:H a=some (.ins C dx fs))(c:xn X.K C)(n:dr X.K C f)(hl:fs.length < 1000)(ry:RelV y u)
 (h:∀s',Inv X pins σ (upd H a (.ins C dx (kE f y fs))) s'->Q () s'):wpAny (model X.prog X.w) A (setAttr (.ref a) f u) Q E s:=by
 obtain⟨mA,O,r,wi,_,ho⟩:=wC I.hok e;have hz:(fs.map (·.1)).length<=sizeLine:=by rw[List.length_map,sizeLine_eq];omega
 refine GZ I.AR O c.sa c.po n.MK c.hd wi hz fun h' O' sb=>h _ ?_
 have hd:∃o,h'.get? dx=some o:=let⟨o,_,_,e',_⟩:=O'.ns;⟨o,e'⟩
 refine I.write (x:=a) (e:=dx) (by rw[e];exact True.intro) (.inr ho) (fun b q hb z=>(sb.2 b hb).trans z) hd ?_
 refine⟨by rw[aZ O.ne];exact ho,?_,O.ne,O'.obj,_,O'.ns,fun g=>?_,fun g hg=>?_⟩
 .have:=ri f y fs;omega
 .show pO ((kE f y fs).lookup g) (if g=f then some u else mA g)
  rw[rB];by_cases q:g=f
  .rw [if_pos q,if_pos q];exact ry
  .rw [if_neg q,if_neg q];exact r g
 .by_cases q:g=f
  .rw [q];exact(qB f y fs).1
  .refine(qB f y fs).2 g (wi g fun z=>hg ?_)
   show(if g=f then some u else mA g)=none
   rw[if_neg q];exact z
theorem Inv.made(I:Inv X pins σ H s):Inv X pins σ (upd (upd H s.heap.objs.size (.own (s.heap.objs.size+1))) (s.heap.objs.size+1) (.ins C s.heap.objs.size []))
 {s with heap:=(s.heap.push PySem.W.emptyDict).push (PySem.W.instObj C s.heap.objs.size)}:=by
 have e1:(s.heap.push PySem.W.emptyDict).get? s.heap.objs.size=some PySem.W.emptyDict:=Heap.get?_push_size s.heap rfl;have e2:((s.heap.push PySem.W.emptyDict).push (PySem.W.instObj C s.heap.objs.size)).get? (s.heap.objs.size+1)=some (PySem.W.instObj C s.heap.objs.size):=by
  have:=Heap.get?_push_size (s.heap.push PySem.W.emptyDict) (o:=PySem.W.instObj C s.heap.objs.size) rfl
  rwa [Heap.size_push] at this
 have e3:(s.heap.push PySem.W.emptyDict).Ns s.heap.objs.size (fun _=>none):=⟨PySem.W.emptyDict,#[],_,e1,rfl,(fun e he=>absurd he (by simp)),fun _=>rfl⟩
 have I1:=I.laid (a:=s.heap.objs.size) (o:= .own (s.heap.objs.size+1)) (h':=s.heap.push PySem.W.emptyDict) (t':=s.toks) (fun b u q=>Heap.get?_push_of_some _ q) (Nat.le_refl _) ⟨_,e1⟩
 refine I1.laid (a:=s.heap.objs.size+1) (o:= .ins C s.heap.objs.size []) (t':=s.toks) (fun b u q=>Heap.get?_push_of_some _ q) (Nat.le_of_eq (Heap.size_push _ _)) ?_
 have ne:s.heap.objs.size≠s.heap.objs.size+1:=Nat.ne_of_lt (Nat.lt_succ_self _);refine⟨by rw[aZ ne,bf],Nat.zero_le _,ne,e2,fun _=>none,(Heap.Ns1.of_empty e3).at fun o q=>Heap.get?_push_of_some _ q,fun _=>True.intro,fun y hy=>absurd rfl hy⟩
theorem Hy{prog:Program}{w:World}{env:Env}{e:Expr}{f:Str}{pos:Pos}{s:Shared}{Q:Vs}(hb:attributeBase e f env (eval e env)=eval e env)
 (h:wpAny (model prog w) A (eval e env) (fun o s₁=>wpAny (model prog w) A (getAttr o f true) Q E s₁) E s):wpAny (model prog w) A (eval (.Attribute e f pos) env) Q E s:=
 Attribute_any_ h (by rw[arm_eval_Attribute,hb])
end
def Ox(K:W.Frag)(ta:TE)(f:Str):TE:=fun σ H Q=>ta σ H fun x H1=>∃a C dx fs v,x= .ref a/\H1 a=some (.ins C dx fs)/\xn K C/\dr K C f/\fs.lookup f=some v/\Q v H1
def RL(K:W.Frag)(ta:TE)(f:Str):TE:=fun σ H Q=>ta σ H fun x H1=>∃a C dx fs v u,x= .ref a/\H1 a=some (.ins C dx fs)/\xn K C/\Sh K C f v u/\fs.lookup f=none/\Q v H1
def OX(K:W.Frag)(ta tv:TE)(f:Str):TS:=fun D σ H=>tv σ H fun y H1=>ta σ H1 fun x H2=>∃a C dx fs,x= .ref a/\H2 a=some (.ins C dx fs)/\xn K C/\dr K C f/\fs.length < 1000/\
 D.nx σ (upd H2 a (.ins C dx (kE f y fs)))
def RY(X:Cx)(op:Operator)(rd:V->V->Hp->VK->Prop):Prop:=
 ∀(pins:Vr) (s:Shared) (σ:St) (H:Hp) (x y:V) (u v:Value) (Q:VK),Inv X pins σ H s->RelV x u->RelV y v->rd x y H Q->wpAny (model X.prog X.w) X.A (inplaceOp op u v) (EP X pins σ Q) X.xe s
def Np(K:W.Frag)(ta tv:TE)(rd:V->V->Hp->VK->Prop)(f:Str):TS:=fun D σ H=>ta σ H fun x H1=>∃a C dx fs v,x= .ref a/\H1 a=some (.ins C dx fs)/\xn K C/\dr K C f/\fs.lookup f=some v/\
 tv σ H1 fun y H2=>rd v y H2 fun z H3=>∃dx' LA,H3 a=some (.ins C dx' LA)/\LA.length < 1000/\D.nx σ (upd H3 a (.ins C dx' (kE f z LA)))
section
variable {X:Cx} {o e value:Expr} {f:Str} {pos pos' qK:Pos} {ta tv:TE}
theorem Kx(he:PE X e ta)(hb:attributeBase e f X.env (eval e X.env)=eval e X.env):PE X (.Attribute e f pos) (Ox X.K ta f):=by
 intro pins s σ H Q I h;refine Hy hb (eI (he pins s σ H _ I h) fun u s1 ⟨x,H1,I1,rx,a,C,dx,fs,v,ex,ea,c,n,l,q⟩=>?_)
 subst ex;obtain rfl:u=Value.ref a:=rx;exact zF I1 ea c n l fun u' s2 I2 ru=>⟨v,H1,I2,ru,q⟩
theorem JL(ha:PE X o ta)(hv:PE X value tv)(hs:swapsWith value (some (.Attribute o f pos')) pos.line X.env=pure false):PS X (.Assign [.Attribute o f pos'] value pos) (OX X.K ta tv f):=by
 intro pins s σ H D I h;refine plainObj_wpAny_Assign_Attribute (eI (hv pins s σ H _ I h) fun u s1 ⟨y,H1,I1,ry,q⟩=>eI (ha pins s1 σ H1 _ I1 q) fun ov s2 ⟨x,H2,I2,rx,a,C,dx,fs,ex,ea,c,n,l,q2⟩=>?_) hs
 subst ex;obtain rfl:ov=Value.ref a:=rx;exact zL I2 ea c n l ry fun s3 I3=>⟨σ,_,I3,q2⟩
def Sk:V->V->Hp->VK->Prop:=fun x y H Q=>∃i j,x= .int i/\y= .int j/\Q (.int (i+j)) H
def SV:V->V->Hp->VK->Prop:=fun x y H Q=>∃i j,x= .int i/\y= .int j/\Q (.int (i - j)) H
end
section
variable {X:Cx} {pins:Vr} {σ:St} {H:Hp} {s:Shared} {A:Around} {E:Vs} {Q:Vs} {c:Value} {b:Bool}
inductive t7 (K:W.Frag) (H:Hp):V->Value->Prop where
 | cn:t7 K H .cn (.type "NoneType")
 | bl (x:Bool):t7 K H (.bl x) (.type "bool")
 | int (i:Int):t7 K H (.int i) (.type "int")
 | str (x:Str):t7 K H (.str x) (.type "str")
 | flt (x:UInt64):t7 K H (.flt x) (.type "float")
 | lst {a:Addr} {xs:List V} (e:H a=some (.lst xs)):t7 K H (.ref a) (.type "list")
 | ki {a:Addr} {o:Obj} {xs:List V} (e:H a=some (.ki o (.lst xs))):t7 K H (.ref a) (.type "list")
 | tup {a:Addr} {xs:List V} (e:H a=some (.tup xs)):t7 K H (.ref a) (.type "tuple")
 | dK {a:Addr} {kvs:List (Key × V)} (e:H a=some (.dK kvs)):t7 K H (.ref a) (.type "dict")
 | dT {a:Addr} {kvs:List (List Key × V)} (e:H a=some (.dT kvs)):t7 K H (.ref a) (.type "dict")
 | ins {a C dx:Addr} {fs:List (Str × V)} (e:H a=some (.ins C dx fs)) (cl:xn K C) (ha:PySem.W.findIn K (.ref C) "__class__"=some (some (.builtin "object.__class__")))
    (hn:PySem.W.specialIn K (.builtin "object.__class__") "__get__"=some (some (.builtin "getset_descriptor.__get__"))) (Vm:PySem.W.takesIn K (.builtin "object.__class__")=some true)
    (hm:PySem.W.mroIn K C (.type "object")=some true):t7 K H (.ref a) (.ref C)
end
structure eV (k:Nat) (A:Around):Prop where
 hd:A.handled=none
 dp:A.depth+3*k+5 < recursionLimit
 un:A.units+16*k+200 < cLine
theorem eV.mono{j k:Nat}(r:eV k A)(h:j<=k):eV j A:=⟨r.hd,by have:=r.dp;omega,by have:=r.un;omega⟩
theorem eV.deeper{k:Nat}{A:Around}(r:eV (k+1) A)(env:Env):eV k (A.deeper env):=
 ⟨r.hd,by have:=r.dp;show A.depth+1+3*k+5 < _;omega,by have:=r.un;show A.units+3+16*k+200 < _;omega⟩
theorem zl{A:Around}{C:Addr}{us:List Value}{kw:List (Str × Value)}:(A.under (.builtin "type.__call__" ⟨.ref C ::us,kw⟩)).depth=A.depth+1:=by
 first | rfl | simp [Around.under,Code.weight,Code.isCreation,Code.isGuard,Code.isCaller,Code.frames,Code.isFrame,guardIds]
theorem Aa{A:Around}{C:Addr}{us:List Value}{kw:List (Str × Value)}:(A.under (.builtin "type.__call__" ⟨.ref C ::us,kw⟩)).units=A.units+1:=by
 first | rfl | simp [Around.under,Code.cUnits,Code.frames,Code.isFrame]
theorem eV.make{k:Nat}{A:Around}(r:eV (k+1) A)(C:Addr)(us:List Value)(kw:List (Str × Value)):eV k (A.under (.builtin "type.__call__" ⟨.ref C ::us,kw⟩)):=
 ⟨r.hd,by have:=r.dp;rw [zl];omega,by have:=r.un;rw [Aa];omega⟩
theorem eV.depth{k:Nat}{A:Around}(r:eV k A):A.depth < recursionLimit:=by have:=r.dp;omega
theorem eV.units{k:Nat}{A:Around}(r:eV k A):A.units+64 < cLine:=by have:=r.un;omega
def Ot:TA:=fun _ H Q=>Q [] H
def LR(ta:TE)(tr:TA):TA:=fun σ H Q=>ta σ H fun x H1=>tr σ H1 fun xs H2=>Q (x ::xs) H2
section
variable {X:Cx} {e:Expr} {es:List Expr} {te:TE} {t:TA} {pos:Pos}
theorem kM:PA X [] Ot:=fun _ _ _ _ H Q I h=>Calls.spliced_nil ⟨[],H,I, .nil,h⟩
theorem gd(ha:PE X e te)(hr:PA X es t)(hs:starEach (e ::es) X.env=(false,eval e X.env) ::starEach es X.env:=by rfl):PA X (e ::es) (LR te t):=by
 intro pos pins s σ H Q I h;rw[hs];show wpAny _ _ (spliced ((false,eval e X.env) ::backTo pos (starEach es X.env))) _ _ s;refine Calls.spliced_cons (eI (ha pins s σ H _ I h) fun u s1 ⟨x,H1,I1,r1,q1⟩=>?_)
 exact eI (hr pos pins s1 σ H1 _ I1 q1) fun us s2 ⟨xs,H2,I2,r2,q2⟩=>⟨x ::xs,H2,I2, .cons r1 r2,q2⟩
def Oe(t:TA):TE:=fun σ H Q=>t σ H fun xs H1=>xs.length<=sizeLine/\∀p,H1 p=none->Q (.ref p) (upd H1 p (.tup xs))
def Of(t:TA):TE:=fun σ H Q=>t σ H fun xs H1=>xs.length<=sizeLine/\∀p,H1 p=none->Q (.ref p) (upd H1 p (.lst xs))
theorem EA{x1}(h:PA X es t):PE X (.Tuple es x1 pos) (Oe t):=by
 intro pins s σ H Q I hq;refine wpAny_Tuple_spliced (eI (h pos pins s σ H _ I hq) fun us s1 ⟨xs,H1,I1,r,z,q⟩=>⟨by rw[<-r.length];exact z,?_⟩)
 have hf:H1 s1.heap.objs.size=none:=I1.hok.fresh (Nat.le_refl _);refine⟨.ref s1.heap.objs.size,upd H1 s1.heap.objs.size (.tup xs),I1.laid (t':=s1.toks) (fun b u e=>Heap.get?_push_of_some _ e) (Nat.le_refl _) ?_,rfl,q _ hf⟩
 exact⟨z,us,r,⟨_,Heap.get?_push_size _ rfl,rfl,_,rfl⟩⟩
theorem KN(h:PA X es t):PE X (.List es pos) (Of t):=by
 intro pins s σ H Q I hq;refine wpAny_List_spliced (eI (h pos pins s σ H _ I hq) fun us s1 ⟨xs,H1,I1,r,z,q⟩=>⟨by rw[<-r.length];exact z,?_⟩)
 have hf:H1 s1.heap.objs.size=none:=I1.hok.fresh (Nat.le_refl _);refine⟨.ref s1.heap.objs.size,upd H1 s1.heap.objs.size (.lst xs),I1.laid (t':=s1.toks) (fun b u e=>Heap.get?_push_of_some _ e) (Nat.le_refl _) ?_,rfl,q _ hf⟩
 exact⟨z,us,0,r,Heap.get?_push_size _ rfl⟩
end
abbrev Sp:=List V->Hp->VK->XK->Prop
abbrev DG:=List Env->Hp->Shared->XK->Value->Shared->Prop
structure zr (P:Program) (w:World) (K:W.Frag) (mg:Vw) (base:Heap) (A:Around) (outer:List Env) (s:Shared) (H:Hp):Prop where
 frames:A.frames=some outer
 mod:Mod K mg base
 bs:∀b o,base.get? b=some o->s.heap.get? b=some o/\H b=none
 bsz:base.objs.size<=s.heap.objs.size
 rH:s.heap.FunFrames base outer
 frf:∀b∈CW outer,H b=none
 hok:oj P w H s.heap
 bare:AllBare s.gens
def CE(outer:List Env)(P:Program)(w:World)(H:Hp)(s:Shared)(Q:VK)(u:Value)(s':Shared):Prop:=
 ∃v H',s'.os=s.os/\AllBare s'.gens/\Un (CW outer) [] H H' s.heap s'.heap/\oj P w H' s'.heap/\RelV v u/\Q v H'
def CR(CX:DG)(outer:List Env)(P:Program)(w:World)(H:Hp)(s:Shared)(Q:VK)(E:XK)(r:Result)(s':Shared):Prop:=
 match r with
 | .ok (.ret u)=>CE outer P w H s Q u s'
 | .ok _=>False
 | .error e=>CX outer H s E e s'
structure jg (P:Program) (w:World) (K:W.Frag) (mg:Vw) (base:Heap) (CX:DG) (k:Nat) (f:Addr) (fd:FuncData) (ps:List Str) (sp:Sp):Prop where
 len:∀vs H Q E,sp vs H Q E->vs.length=ps.length
 run:∀(A:Around) (outer:List Env) (s:Shared) (H:Hp) (args:Args) (us:List Value) (vs:List V) (Q:VK) (E:XK),eV k A->zr P w K mg base A outer s H->BindsTo s fd args (ps.zip us)->Vals vs us->sp vs H Q E->
  codeAny (model P w) A (.call (.ref f) args) (CR CX outer P w H s Q E) s
theorem jg.imp{P:Program}{w:World}{K:W.Frag}{mg:Vw}{base:Heap}{CX:DG}{k:Nat}{f:Addr}{fd:FuncData}{ps:List Str}{sp Rb:Sp}(F:jg P w K mg base CX k f fd ps sp)
 (h:∀vs H Q E,Rb vs H Q E->sp vs H Q E):jg P w K mg base CX k f fd ps Rb:=
 ⟨fun vs H Q E q=>F.len vs H Q E (h _ _ _ _ q),fun A outer s H args us vs Q E hr he hb hv hs=>F.run A outer s H args us vs Q E hr he hb hv (h _ _ _ _ hs)⟩
theorem zr.make{K:W.Frag}{mg:Vw}{outer:List Env}{s:Shared}(e:zr P w K mg base A outer s H)(C:Addr)(us:List Value)(kw:List (Str × Value)) :
 zr P w K mg base (A.under (.builtin "type.__call__" ⟨.ref C ::us,kw⟩)) outer s H:=⟨by first | exact e.frames | (simpa [Around.under,Code.envs,Code.isFrame,pushEnvs] using e.frames),e.mod,e.bs,e.bsz,e.rH,e.frf,e.hok,e.bare⟩
section
variable {X:Cx} {pins:Vr} {σ:St} {H:Hp} {s s':Shared}
theorem Inv.Mu(I:Inv X pins σ H s):zr X.prog X.w X.K X.mg X.base X.A X.stack s H:=
 ⟨I.ok.frames,I.ok.mod,I.bs,Nat.le_trans I.ok.bsz I.sz,I.stack,I.A4,I.hok,I.bare⟩
theorem Inv.after{Q:VK}{u:Value}(I:Inv X pins σ H s)(h:CE X.stack X.prog X.w H s Q u s'):EP X pins σ Q u s':=by
 obtain⟨v,H',os,bare,un,hok,r,q⟩:=h;obtain⟨hh,g,d,t,UD⟩:=s';obtain rfl:UD=s.os:=os;exact⟨v,H',I.call (h':=hh) (g':=g) (d':=d) (t':=t) (ch:=[]) un hok bare (fun b z=>absurd z (by simp)),r,q⟩
end
def M0(sp:Sp)(xf:List V)(E:XK)(t:TA):TE:=fun σ H Q=>t σ H fun vs H1=>sp (vs++xf) H1 Q E
def LM(C:Addr)(m:Str)(sp:Sp)(xf:List V)(E:XK)(ta:TE)(t:TA):TE:=fun σ H Q=>ta σ H fun x H1=>∃a dx fs,x= .ref a/\H1 a=some (.ins C dx fs)/\fs.lookup m=none/\
 t σ H1 fun vs H2=>sp (x ::(vs++xf)) H2 Q E
def Mg(C:Addr)(sp:Sp)(xf:List V)(E:XK)(t:TA):TE:=fun σ H Q=>t σ H fun vs H1=>∀x dx,H1 x=none->H1 dx=none->dx≠x->
 sp (.ref x ::(vs++xf)) (upd (upd H1 dx (.own x)) x (.ins C dx [])) (fun v H2=>v= .cn/\Q (.ref x) H2) E
def Binds(K:W.Frag)(fd:FuncData)(ps:List Str)(ds:List Value):Prop:=
 ∀(s:Shared) (us:List Value),K.In s.heap->(us++ds).length=ps.length->BindsTo s fd ⟨us,[]⟩ (ps.zip (us++ds))
theorem Binds.all{K:W.Frag}{fd:FuncData}{ps:List Str}(h:∀us:List Value,us.length=ps.length->bindArgs fd ⟨us,[]⟩=pure (ps.zip us)):Binds K fd ps []:=fun s us _ hl=>by
 rw[List.append_nil] at hl ⊢;exact .of_eq (h us hl)
def Passes(CX:DG)(X:Cx)(E:XK):Prop:=∀(pins:Vr) (σ:St) (H:Hp) (s:Shared) (e:Value) (s':Shared),Inv X pins σ H s->CX X.stack H s E e s'->X.xe e s'
section
variable {X:Cx} {CX:DG} {k:Nat} {f C:Addr} {fd:FuncData} {ps:List Str} {sp:Sp} {xf:List V} {ds:List Value} {E:XK} {x m:Str} {p pos apos:Pos} {e o:Expr} {es:List Expr} {ta:TE} {t:TA}
theorem Dr{pins:Vr}{σ:St}{H:Hp}{s:Shared}{Q:VK}{us:List Value}{vs:List V}(F:jg X.prog X.w X.K X.mg X.base CX k f fd ps sp)(hr:eV k X.A)(hb:Binds X.K fd ps ds)(hd:Vals xf ds)(hx:Passes CX X E)
 (I:Inv X pins σ H s) (r:Vals vs us) (h:sp (vs++xf) H Q E):wpAny (model X.prog X.w) X.A (call (.ref f) us) (EP X pins σ Q) X.xe s:=by
 have r2:Vals (vs++xf) (us++ds):=r.append hd;have hl:(us++ds).length=ps.length:=by rw[<-r2.length];exact F.len _ _ _ _ h
 refine wpAny_call (codeAny_mono (F.run X.A X.stack s H ⟨us,[]⟩ (us++ds) (vs++xf) Q E hr I.Mu (hb s us I.AR hl) r2 h) fun r s' hq=>?_)
 cases r with
 | error e=>exact hx pins σ H s e s' I hq
 | ok fl=>
   cases fl with
   | ret u=>exact I.after hq
   | next=>exact False.elim hq
   | brk=>exact False.elim hq
   | cont=>exact False.elim hq
theorem vV(F:jg X.prog X.w X.K X.mg X.base CX k f fd ps sp)(hr:eV k X.A)(hg:Gl X x)(hm:X.mg x=some (.ref f))(hk:PySem.W.keepIn X.K (.ref f)=true)(hb:Binds X.K fd ps ds)(hd:Vals xf ds)(hx:Passes CX X E)
 (ha:PA X (e ::es) t) (qj:(x==("__debug__":Str))=false:=by decide) (he:starEach (e ::es) X.env=(false,eval e X.env) ::starEach es X.env:=by rfl) (mJ:(backTo pos (starEach es X.env)).any (·.1)=false:=by rfl) :
 PE X (.Call (.Name x p) (e ::es) [] pos) (M0 sp xf E t):=by
 intro pins s σ H Q I h;refine wpAny_Call_Name_kw (A_ I hg hm ?_ qj);refine PySem.W.callWith_K (h₀:=X.base) I.ok.mod.kin hk (eI (ha pos pins s σ H _ I h) fun us s1 ⟨vs,H1,I1,r,q⟩=>⟨I1.AR,?_⟩) he mJ
 exact Dr F hr hb hd hx I1 r q
theorem G9{pl:Sem Bool}(he:PE X o ta)(c:xn X.K C)(hm:Meth X.K C m f)(F:jg X.prog X.w X.K X.mg X.base CX k f fd ps sp)(hr:eV k X.A)(hb:Binds X.K fd ps ds)(hd:Vals xf ds)(hx:Passes CX X E)(ha:PA X (e ::es) t)
 (FH:starEach (e ::es) X.env=(false,eval e X.env) ::starEach es X.env:=by rfl) (mJ:(backTo pos (starEach es X.env)).any (·.1)=false:=by rfl)
 (ht:eval (.Call (.Attribute o m apos) (e ::es) [] pos) X.env=(do
   let ov <-eval o X.env
   standAt apos.atName
   let(f,first) <-holding [ov] (getMethod ov m pl)
   callWith pos f first (backTo pos (starEach (e ::es) X.env)) (backToKw pos (keywordEach [] X.env))):=by rfl) :
 PE X (.Call (.Attribute o m apos) (e ::es) [] pos) (LM C m sp xf E ta t):=by
 intro pins s σ H Q I h;refine PySem.W.methodCall_KW (pl:=pl) (eI (he pins s σ H _ I h) fun u s1 ⟨x,H1,I1,rx,a,dx,fs,ex,ea,l,q⟩=>?_) ht
 subst ex;obtain rfl:u=Value.ref a:=rx;refine zC I1 ea c hm l ?_;refine PySem.W.callWith_K (first:=[.ref a]) (h₀:=X.base) I.ok.mod.kin hm.kp (eI (ha pos pins s1 σ H1 _ I1 q) fun us s2 ⟨vs,H2,I2,r,q2⟩=>⟨I2.AR,?_⟩) FH mJ
 exact Dr (us:= .ref a ::us) (vs:= .ref a ::vs) F hr hb hd hx I2 (.cons rfl r) q2
structure Mk (K:W.Frag) (C f:Addr):Prop where
 makes:PySem.W.makesIn K C=true
 init:PySem.W.findIn K (.ref C) "__init__"=some (some (.ref f))
 fn:PySem.W.isFn K (.ref f)=true
 kp:PySem.W.keepIn K (.ref C)=true
theorem ET{pins:Vr}{σ:St}{H:Hp}{s:Shared}{Q:VK}{us:List Value}{vs:List V}(M:Mk X.K C f)(F:jg X.prog X.w X.K X.mg X.base CX k f fd ps sp)(hr:eV (k+1) X.A)(hb:Binds X.K fd ps ds)(hd:Vals xf ds)
 (hx:Passes CX X E) (I:Inv X pins σ H s) (r:Vals vs us)
 (h:∀x dx,H x=none->H dx=none->dx≠x->sp (.ref x ::(vs++xf)) (upd (upd H dx (.own x)) x (.ins C dx [])) (fun v H2=>v= .cn/\Q (.ref x) H2) E) :
 wpAny (model X.prog X.w) X.A (call (.ref C) us) (EP X pins σ Q) X.xe s:=by
 have hq:=h (s.heap.objs.size+1) s.heap.objs.size (I.hok.fresh (Nat.le_succ _)) (I.hok.fresh (Nat.le_refl _)) (Nat.ne_of_lt (Nat.lt_succ_self _));have I2:=Inv.made (C:=C) I;have r2:Vals (V.ref (s.heap.objs.size+1) ::(vs++xf)) (Value.ref (s.heap.objs.size+1) ::(us++ds)):= .cons rfl (r.append hd);have hl:(Value.ref (s.heap.objs.size+1) ::us++ds).length=ps.length:=by
  have e:=r2.length;rw[F.len _ _ _ _ hq] at e;exact e.symm
 refine wpAny_call (D1 (f:=f) I.AR M.makes M.init (beq_iff_eq.mp M.fn) (codeAny_mono (F.run _ X.stack _ _ ⟨Value.ref (s.heap.objs.size+1) ::us,[]⟩ (Value.ref (s.heap.objs.size+1) ::(us++ds)) _ _ E (hr.make C us [])
  (I2.Mu.make C us []) (hb _ (Value.ref (s.heap.objs.size+1) ::us) I2.AR hl) r2 hq) fun r s' M_=>?_))
 cases r with
 | error e=>exact hx pins σ _ _ e s' I2 M_
 | ok fl=>
   cases fl with
   | ret u=>
     obtain⟨v,H',I3,rv,ev,q3⟩:=I2.after M_;subst ev;exact⟨rv,⟨V.ref (s.heap.objs.size+1),H',I3,rfl,q3⟩⟩
   | next=>exact False.elim M_
   | brk=>exact False.elim M_
   | cont=>exact False.elim M_
theorem Gd(M:Mk X.K C f)(F:jg X.prog X.w X.K X.mg X.base CX k f fd ps sp)(hr:eV (k+1) X.A)(hg:Gl X x)(hm:X.mg x=some (.ref C))(hb:Binds X.K fd ps ds)(hd:Vals xf ds)(hx:Passes CX X E)
 (ha:PA X (e ::es) t) (qj:(x==("__debug__":Str))=false:=by decide) (he:starEach (e ::es) X.env=(false,eval e X.env) ::starEach es X.env:=by rfl) (mJ:(backTo pos (starEach es X.env)).any (·.1)=false:=by rfl) :
 PE X (.Call (.Name x p) (e ::es) [] pos) (Mg C sp xf E t):=by
 intro pins s σ H Q I h;refine wpAny_Call_Name_kw (A_ I hg hm ?_ qj);refine PySem.W.callWith_K (h₀:=X.base) I.ok.mod.kin M.kp (eI (ha pos pins s σ H _ I h) fun us s1 ⟨vs,H1,I1,r,q⟩=>⟨I1.AR,?_⟩) he mJ
 exact ET M F hr hb hd hx I1 r q
end
def PK(X:Cx)(Rt:List Keyword)(t:TA):Prop:=
 ∀(pos:Pos) (pins:Vr) (s:Shared) (σ:St) (H:Hp) (Q:List V->Hp->Prop),Inv X pins σ H s->t σ H Q->wpAny (model X.prog X.w) X.A (evalAll ((backToKw pos (keywordEach Rt X.env)).map (·.2))) (AP X pins σ Q) X.xe s
section
variable {X:Cx} {CX:DG} {k:Nat} {f C:Addr} {fd:FuncData} {ps ks:List Str} {sp:Sp} {E:XK} {x m:Str} {p pos apos Uu:Pos} {e o:Expr} {es:List Expr} {Rt:List Keyword} {te ta:TE} {t tk:TA} {nm:Option Str}
structure N8 (K:W.Frag) (fd:FuncData) (ps ks:List Str) (g:List Value->List Value->List Value) (gV:List V->List V->List V):Prop where
 to:∀(s:Shared) (us ws:List Value),K.In s.heap->(g us ws).length=ps.length->BindsTo s fd ⟨us,ks.zip ws⟩ (ps.zip (g us ws))
 rel:∀{vs:List V} {us:List Value} {zs:List V} {ws:List Value},Vals vs us->Vals zs ws->Vals (gV vs zs) (g us ws)
def O6(sp:Sp)(gV:List V->List V->List V)(E:XK)(t tk:TA):TE:=fun σ H Q=>t σ H fun vs H1=>tk σ H1 fun zs H2=>sp (gV vs zs) H2 Q E
variable {g:List Value->List Value->List Value} {gV:List V->List V->List V}
end
structure aR (N P:List Str) (sc:Scope):Prop where
 kind:sc.kind= .function
 co:sc.isCoroutine=false
 gen:sc.isGenerator=false
 nd:N.Nodup
 pre:N.take P.length=P
 par:∀x∈P,sc.names.lookup x=some .local\/sc.names.lookup x=some .cell
 nofree:∀y∈sc.names,y.2≠ .free
theorem vb{kindOf:Str->Option NameKind}:∀{binds:List (Str × Value)} {m:Vw},(∀v,(x,v) ∉ binds)->bindL kindOf binds m x=m x
 | [],_,_=>rfl
 | (n,v) ::r,m,h=>by
   unfold bindL;rw[vb fun w hw=>h w (List.mem_cons_of_mem _ hw)]
   split
   .have:x≠n:=by rintro rfl;exact h v List.mem_cons_self
    simp [this]
   .rfl
theorem va{kindOf:Str->Option NameKind}:∀{binds:List (Str × Value)} {m:Vw},(∀v,(x,v) ∉ binds)->bindC kindOf binds m x=m x
 | [],_,_=>rfl
 | (n,v) ::r,m,h=>by
   unfold bindC;rw[va fun w hw=>h w (List.mem_cons_of_mem _ hw)]
   split
   .rfl
   .have:x≠n:=by rintro rfl;exact h v List.mem_cons_self
    simp [this]
theorem vg{kindOf:Str->Option NameKind}{v:Value}:∀{P:List Str} {vs:List Value} {i:Nat} {m:Vw},P.Nodup->P[i]? =some x->vs[i]? =some v->kindOf x=some .local->
 bindL kindOf (P.zip vs) m x=some v
 | [],_,_,_,_,h,_,_=>by simp at h
 | _ ::_,[],_,_,_,_,h,_=>by simp at h
 | p ::P,w ::vs,0,m,nd,h1,h2,hk=>by
   simp at h1 h2;subst h1;subst h2;show bindL kindOf ((p,w) ::P.zip vs) m p=_;unfold bindL;rw[vb fun v hv=>(List.nodup_cons.mp nd).1 (List.of_mem_zip hv).1,if_pos hk]
   simp
 | p ::P,w ::vs,i+1,m,nd,h1,h2,hk=>by
   show bindL kindOf ((p,w) ::P.zip vs) m x=_;unfold bindL;exact vg (i:=i) (List.nodup_cons.mp nd).2 (by simpa using h1) (by simpa using h2) hk
theorem vp{kindOf:Str->Option NameKind}{v:Value}:∀{P:List Str} {vs:List Value} {i:Nat} {m:Vw},P.Nodup->P[i]? =some x->vs[i]? =some v->kindOf x≠some .local->
 bindC kindOf (P.zip vs) m x=some v
 | [],_,_,_,_,h,_,_=>by simp at h
 | _ ::_,[],_,_,_,_,h,_=>by simp at h
 | p ::P,w ::vs,0,m,nd,h1,h2,hk=>by
   simp at h1 h2;subst h1;subst h2;show bindC kindOf ((p,w) ::P.zip vs) m p=_;unfold bindC;rw[va fun v hv=>(List.nodup_cons.mp nd).1 (List.of_mem_zip hv).1,if_neg hk]
   simp
 | p ::P,w ::vs,i+1,m,nd,h1,h2,hk=>by
   show bindC kindOf ((p,w) ::P.zip vs) m x=_;unfold bindC;exact vp (i:=i) (List.nodup_cons.mp nd).2 (by simpa using h1) (by simpa using h2) hk
def start(N:List Str)(vs:List V):St:=vs.map some++List.replicate (N.length - vs.length) none
def tH(CX:DG)(P:Program)(w:World)(K:W.Frag)(mg:Vw)(base:Heap)(N:List Str)(qual:Str)(scope:Scope)(f:Addr)(cd:Value)(A:Around)(outer:List Env)(s:Shared)(H:Hp)(E:XK):Cx where
 prog:=P
 w:=w
 K:=K
 mg:=mg
 base:=base
 A:=A.deeper (envOfC qual scope s.heap.objs.size f cd)
 N:=N
 s₀:=s
 H₀:=H
 env:=envOfC qual scope s.heap.objs.size f cd
 outer:=outer
 stack:=envOfC qual scope s.heap.objs.size f cd ::outer
 ex:=[]
 calm:=true
 fn:=fun _=>true
 pn:=[]
 xe:=fun e s'=>wpAny (model P w) (A.deeper (envOfC qual scope s.heap.objs.size f cd)) (leaving (envOfC qual scope s.heap.objs.size f cd) e) (fun _ Pb=>CX outer H s E e Pb) (fun e' Pb=>CX outer H s E e' Pb) s'
theorem tp{sc:Scope}{n:Nat}(h:sc.names.lookup x=some .cell):∃c,(cellsFrom n sc.names []).lookup x=some c:=by
 have q:=PySem.W.cellsFrom_some sc.names n [] (.inl h);exact Option.isSome_iff_exists.mp q
theorem CH{CX:DG}{P:Program}{w:World}{K:W.Frag}{mg:Vw}{base:Heap}{N ps:List Str}{qual:Str}{scope:Scope}{f:Addr}{cd:Value}{A:Around}{outer:List Env}{s s1:Shared}{H:Hp}{E:XK}{us:List Value}{vs:List V}
 (S:aR N ps scope) (hd:A.handled=none) (e0:zr P w K mg base A outer s H) (hl:vs.length=ps.length) (r:Vals vs us)
 (x:InCallC s s.heap.objs.size (bindL (envOfC qual scope s.heap.objs.size f cd).kindOf (ps.zip us) fun _=>none) (cellsFrom (s.heap.objs.size+1) scope.names []) (bindC (envOfC qual scope s.heap.objs.size f cd).kindOf (ps.zip us) fun _=>none) s1) :
 Inv (tH CX P w K mg base N qual scope f cd A outer s H E) [] (start N vs) H s1:=by
 have mJ:ps.length<=N.length:=by have:=congrArg List.length S.pre;rw [List.length_take] at this;omega
 obtain⟨h1,tk,rfl,hk⟩:=x.done;have noA:∀b:Addr,b ∉ (tH CX P w K mg base N qual scope f cd A outer s H E).ex:=fun b z=>absurd (show b∈([]:List Addr) from z) (by simp)
 refine⟨⟨e0.mod,S.kind,rfl,rfl,Nat.le_refl _,fun y z c h1 h2=>?_,fun y hy=>?_,fun y c _ h=>?_,fun _=>hd,Around.frames_deeper e0.frames, .inr ⟨rfl,rfl⟩,fun b z=>absurd z (noA b),e0.bs,e0.bsz,fun b _ _=>noA b,fun b z=>absurd z (noA b),e0.rH,e0.frf⟩,
  rfl,e0.bare,Un.kept hk,⟨_,x.toInCall.ns,fun i y v h1 h2 h3=>?_⟩,fun y c h=>⟨_,x.cell y c h⟩,e0.hok.fresh (Nat.le_refl _),fun y c h=>?_,fun p hp=>absurd (show p∈([]:Vr) from hp) (by simp),e0.hok.kept hk,?_⟩
 .exact name_of_addr x.apart (PySem.mem_of_lookup h1) (PySem.mem_of_lookup h2)
 .have hy:scope.names.lookup y=some .cell\/scope.names.lookup y=some .free:=hy;rcases hy with hy | hy
  .exact tp hy
  .exact absurd rfl (S.nofree _ (PySem.mem_of_lookup hy))
 .exact Nat.le_of_lt (x.above y c (PySem.mem_of_lookup h))
 .have hi:i < vs.length:=by
   unfold start at h2;by_cases hi:i < vs.length
   .exact hi
   .rw [List.getElem?_append_right (by simpa using hi)] at h2
    rw[List.getElem?_replicate] at h2;split at h2 <;> cases h2
  have ha:vs[i]? =some v:=by
   unfold start at h2;rw[List.getElem?_append_left (by simpa using hi),List.getElem?_map] at h2
   cases e:vs[i]? with
   | none=>rw [e] at h2;cases h2
   | some a=>rw [e] at h2;cases h2;rfl
  obtain⟨u,hu,rv⟩:=r.get ha;have hp:ps[i]? =some y:=by
   rw[<-S.pre,List.getElem?_take_of_lt (by omega)];exact h1
  have ndP:ps.Nodup:=by rw[<-S.pre];exact S.nd.sublist (List.take_sublist _ _)
  refine⟨u,rv,?_⟩;rcases S.par y (List.mem_of_getElem? hp) with k | k
  .exact .inl ⟨k,vg ndP hp hu k⟩
  .obtain⟨c,e⟩:=tp (n:=s.heap.objs.size+1) k;refine .inr ⟨.inl k,c,e,?_⟩;have q:=x.cell y c e;rw[vp ndP hp hu (by show scope.names.lookup y≠_;rw [k];decide)] at q
   exact q
 .exact e0.hok.fresh (Nat.le_of_lt (x.above y c (PySem.mem_of_lookup h)))
 .unfold start;show _=N.length;rw[List.length_append,List.length_map,List.length_replicate];omega
theorem LJ{CX:DG}{P:Program}{w:World}{K:W.Frag}{mg:Vw}{base:Heap}{k:Nat}{f:Addr}{name qual:Str}{params:Arguments}{body:List Stmt}{scope:Scope}{dV kV doc pm dY ct oc:Value}{an od:Option Addr}
 {FY:Array (Option Value)} {N ps:List Str} {sp:Sp} (lk:K.lookup f=some ⟨oc,od, .func (PySem.W.fnOf name qual params body scope dV kV doc pm an dY ct),FY⟩) (uk:PySem.W.codeIn K dY qual=true) (S:aR N ps scope)
 (len:∀vs H Q E,sp vs H Q E->vs.length=ps.length)
 (lR:∀(A:Around) (outer:List Env) (s:Shared) (H:Hp) (vs:List V) (Q:VK) (E:XK),eV k (A.deeper (envOfC qual scope s.heap.objs.size f dY))->sp vs H Q E->
   ∃t,xm (tH CX P w K mg base N qual scope f dY A outer s H E) body t/\t {nx:=fun _ H'=>Q .cn H',rt:=Q} (start N vs) H) :
 jg P w K mg base CX (k+1) f (PySem.W.fnOf name qual params body scope dV kV doc pm an dY ct) ps sp:=by
 refine⟨len,fun A outer s H args us vs Q E hr e0 hb r Lv=>?_⟩
 have hl:=len _ _ _ _ Lv;have KX:K.In s.heap:=e0.mod.kin.keeps fun b o e=>(e0.bs b o e).1
 have lim:s.heap.NoLimit:=e0.mod.nolimit.keeps fun b o e=>(e0.bs b o e).1
 have hkind:∀y∈ps.zip us,scope.names.lookup y.1=some .local\/(scope.names.lookup y.1=some .cell/\((cellsFrom (s.heap.objs.size+1) scope.names []).lookup y.1).isSome=true):=fun⟨n,v⟩ hy=>by
  rcases S.par n (List.of_mem_zip hy).1 with q | q
  .exact .inl q
  .exact .inr ⟨q,PySem.W.cellsFrom_some _ _ _ (.inl q)⟩
 refine codeAny_call_function hr.depth (KX _ _ lk) rfl S.co S.gen rfl (PySem.W.codeRec_of KX uk) (hb _ _ _ _ ?_);refine wpAny_newFunctionEnv_cells S.kind hkind fun env he s1 x=>?_
 subst he;refine⟨lim.keeps x.toInCall.keep,codeAny_func ?_⟩;obtain⟨t,ht,hq⟩:=lR A outer s H vs Q E (hr.deeper _) Lv;have I:Inv (tH CX P w K mg base N qual scope f dY A outer s H E) [] (start N vs) H s1:=CH S hr.hd e0 hl r x;refine wpAny_mono (ht [] s1 (start N vs) H _ I hq) (fun fl s' hs=>?_) fun e s' hs=>hs
 have fin:∀{dw:St} {H':Hp} {v:V} {u:Value},Inv (tH CX P w K mg base N qual scope f dY A outer s H E) [] dw H' s'->RelV v u->Q v H'->CE outer P w H s Q u s':=
  fun {dw H' v u} J rv q=>⟨v,H',J.os,J.bare,J.base,J.hok,rv,q⟩
 cases fl with
 | ret u=>
   obtain⟨v,dw,H',J,rv,q⟩:=hs;exact fin J rv q
 | next=>
   obtain⟨dw,H',J,q⟩:=hs;exact fin (v:=V.cn) (u:=Value.none) J rfl q
 | brk=>
   obtain⟨_,_,_,q⟩:=hs;exact False.elim q
 | cont=>
   obtain⟨_,_,_,q⟩:=hs;exact False.elim q
section
variable {X:Cx} {x:Str} {p pos:Pos} {e:Expr} {es:List Expr} {t:TA} {id T:String} {r:List V->Hp->VK->Prop}
def Q6(r:List V->Hp->VK->Prop)(t:TA):TE:=fun σ H Q=>t σ H fun vs H1=>r vs H1 Q
theorem xW(hc:m4 X (.builtin id) r)(hg:Gl X x)(hm:X.mg x=none)(hv:bootBuiltins x=some (.builtin id))(ha:PA X (e ::es) t)(hn:x≠"__name__":=by decide)(qj:(x==("__debug__":Str))=false:=by decide)
 (he:starEach (e ::es) X.env=(false,eval e X.env) ::starEach es X.env:=by rfl) (mJ:(backTo pos (starEach es X.env)).any (·.1)=false:=by rfl):PE X (.Call (.Name x p) (e ::es) [] pos) (Q6 r t):=by
 intro pins s σ H Q I h;refine wpAny_Call_Name_kw (mQ I hg hm hv ?_ hn qj);exact PyProof.Rows.callWith_builtin1 (eI (ha pos pins s σ H _ I h) fun us s1 ⟨vs,H1,I1,r1,q1⟩=>hc pins s1 σ H1 vs us Q I1 r1 q1) he mJ
theorem B7(hc:m4 X (.type T) r)(hg:Gl X x)(hm:X.mg x=none)(hv:bootBuiltins x=some (.type T))(ha:PA X (e ::es) t)(hn:x≠"__name__":=by decide)(qj:(x==("__debug__":Str))=false:=by decide)
 (he:starEach (e ::es) X.env=(false,eval e X.env) ::starEach es X.env:=by rfl) (mJ:(backTo pos (starEach es X.env)).any (·.1)=false:=by rfl):PE X (.Call (.Name x p) (e ::es) [] pos) (Q6 r t):=by
 intro pins s σ H Q I h;refine wpAny_Call_Name_kw (mQ I hg hm hv ?_ hn qj);exact PyProof.Rows.callWith_type1 (eI (ha pos pins s σ H _ I h) fun us s1 ⟨vs,H1,I1,r1,q1⟩=>hc pins s1 σ H1 vs us Q I1 r1 q1) he mJ
end
section
variable {κ:Type} [DecidableEq κ]
def j8(kvs:List (κ × V))(k:κ):Option V:=(kvs.find? fun kv=>decide (kv.1=k)).map (·.2)
def putK(kvs:List (κ × V))(k:κ)(v:V):List (κ × V):=
 if(kvs.any fun kv=>decide (kv.1=k))=true then kvs.map (fun kv=>if kv.1=k then(kv.1,v) else kv) else kvs++[(k,v)]
def Fd(kvs:List (κ × V))(k:κ):List (κ × V):=kvs.filter fun kv=>decide (kv.1≠k)
theorem yG{p:κ × V}{r:List (κ × V)}{k:κ}(e:p.1=k):j8 (p ::r) k=some p.2:=by simp [j8,List.find?_cons,e]
theorem yk{p:κ × V}{r:List (κ × V)}{k:κ}(e:¬p.1=k):j8 (p ::r) k=j8 r k:=by simp [j8,List.find?_cons,e]
theorem xR(kvs:List (κ × V))(k:κ)(v:V):(putK kvs k v).length<=kvs.length+1:=by
 unfold putK;split
 .rw [List.length_map];omega
 .rw [List.length_append,List.length_cons,List.length_nil];omega
theorem pO.getD{o:Option V}{u:Option Value}{d:V}{d':Value}(r:pO o u)(rd:RelV d d'):RelV (o.getD d) (u.getD d'):=by
 cases o with
 | none=>cases u with
   | none=>exact rd
   | some _=>exact(show False from r).elim
 | some _=>cases u with
   | none=>exact(show False from r).elim
   | some _=>exact r
theorem KV.val{kvs:List (κ × V)}{vs:List (κ × Value)}(r:KV kvs vs)(k:κ):pO (j8 kvs k) (valueAt vs k):=by
 unfold KV at r
 induction r with
 | nil=>exact True.intro
 | @cons p q ps qs h t ih=>
   obtain⟨h1,h2⟩:=h;by_cases e:p.1=k
   .have e':q.1=k:=h1.symm.trans e;have b:valueAt (q ::qs) k=some q.2:=by simp [valueAt,List.find?_cons,e']
    rw[yG e,b];exact h2
   .have e':¬q.1=k:=fun z=>e (h1.trans z)
    have b:valueAt (q ::qs) k=valueAt qs k:=by simp [valueAt,List.find?_cons,e']
    rw[yk e,b];exact ih
theorem KV.any{kvs:List (κ × V)}{vs:List (κ × Value)}(r:KV kvs vs)(k:κ):(kvs.any fun kv=>decide (kv.1=k))=vs.any fun kv=>decide (kv.1=k):=by
 unfold KV at r
 induction r with
 | nil=>rfl
 | cons h t ih=>rw [List.any_cons,List.any_cons,ih,h.1]
theorem KV.Oy{kvs:List (κ × V)}{vs:List (κ × Value)}(r:KV kvs vs)(k:κ){y:V}{u:Value}(ry:RelV y u) :
 KV (kvs.map fun kv=>if kv.1=k then(kv.1,y) else kv) (vs.map fun kv=>if kv.1=k then(kv.1,u) else kv):=by
 unfold KV at r ⊢
 induction r with
 | nil=>exact .nil
 | @cons p q ps qs h t ih=>
   rw[List.map_cons,List.map_cons];refine .cons ?_ ih;obtain⟨h1,h2⟩:=h;by_cases e:p.1=k
   .rw [if_pos e,if_pos (h1.symm.trans e)];exact⟨h1,ry⟩
   .rw [if_neg e,if_neg (fun z=>e (h1.trans z))];exact⟨h1,h2⟩
theorem KV.put{kvs:List (κ × V)}{vs:List (κ × Value)}(r:KV kvs vs)(k:κ){y:V}{u:Value}(ry:RelV y u):KV (putK kvs k y) (stored vs k u):=by
 unfold putK stored;rw[r.any k];by_cases e:(vs.any fun kv=>decide (kv.1=k))=true
 .rw [if_pos e,if_pos e];exact r.Oy k ry
 .rw [if_neg e,if_neg e];exact Paired.snoc r ⟨rfl,ry⟩
end
theorem EL{k:Key}{u:Value}(r:RelV (kV k) u):(dD P w).is k u=true:=by
 cases k with
 | inl i=>obtain⟨t,e⟩:=(show ∃t,u=Value.int i t from r);subst e;exact yJ P w i t
 | inr x=>obtain⟨t,e⟩:=(show ∃t,u=Value.str x t from r);subst e;exact yC P w x t
theorem vv:∀{ks:List Key} {us:List Value},Vals (ks.map kV) us->ItemsAre (dD P w) ks us
 | [],_,r=>by rw[List.map_nil] at r;cases r;exact .nil
 | k ::ks,_,r=>by
   rw[List.map_cons] at r;cases r with
   | cons h t=>exact .cons (EL h) (vv t)
abbrev KT(H:Hp):List (List Key × V)->List (List Key × Addr × Value)->Prop:=Paired fun p q=>p.1=q.1/\H q.2.1=some (.tup (p.1.map kV))/\RelV p.2 q.2.2
theorem KT.val{kvs:List (List Key × V)}{xs:List (List Key × Addr × Value)}(r:KT H kvs xs)(k:List Key):pO (j8 kvs k) ((atKey xs k).map (·.2)):=by
 induction r with
 | nil=>exact True.intro
 | @cons p q ps qs h t ih=>
   obtain⟨h1,_,h2⟩:=h;by_cases e:p.1=k
   .have e':q.1=k:=h1.symm.trans e;have b:atKey (q ::qs) k=some q.2:=by simp [atKey,List.find?_cons,e']
    rw[yG e,b];exact h2
   .have e':¬q.1=k:=fun z=>e (h1.trans z)
    have b:atKey (q ::qs) k=atKey qs k:=by simp [atKey,List.find?_cons,e']
    rw[yk e,b];exact ih
section
variable {P:Program} {w:World} {H:Hp} {h:Heap} {a:Addr}
theorem Ij{u:HO}(ok:oj P w H h)(e:Rd H a u):fE P w H h a u:=e.ok ok
theorem DM{kvs:List (Key × V)}(ok:oj P w H h)(e:Rd H a (.dK kvs)):kvs.length<=sizeLine/\(a==sysModules)=false/\∃vs,KV kvs vs/\h.DictOf (dD P w) a vs:=
 show fE P w H h a (.dK kvs) from Ij ok e
theorem Mv{kvs:List (Key × V)}(ok:oj P w H h)(e:H a=some (.dK kvs)):kvs.length<=sizeLine/\(a==sysModules)=false/\∃vs,KV kvs vs/\h.DictOf (dD P w) a vs:=DM ok (.inl e)
theorem Ej{ks:List Key}(ok:oj P w H h)(e:H a=some (.tup (ks.map kV))):(tupleKind (dD P w)).is h ks a:=by
 obtain⟨_,its,r,o,h1,h2,n,h3⟩:=(show fE P w H h a (.tup (ks.map kV)) from ok a _ e)
 exact⟨o,its.toArray,n,h1,h2,h3,by simpa using vv r⟩
theorem Ir{kvs:List (List Key × V)}(ok:oj P w H h)(e:Rd H a (.dT kvs)):kvs.length<=sizeLine/\(a==sysModules)=false/\
 ∃xs,KT H kvs xs/\h.DictOfH (tupleKind (dD P w)) a xs:=by
 obtain⟨z,y,xs,r,o,es,ep,h1,h2,h3,h4,h5⟩:=(show fE P w H h a (.dT kvs) from Ij ok e)
 refine⟨z,y,xs,r,o,es,ep,h1,h2,h3,h4,fun x hx=>?_,h5⟩
 have all:∀{l:List (List Key × V)} {m:List (List Key × Addr × Value)},KT H l m->∀x∈m,(tupleKind (dD P w)).is h x.1 x.2.1:=by
  intro l m q
  induction q with
  | nil=>intro x hx;exact nomatch hx
  | @cons p q ps qs hq t ih=>
    intro x hx;rcases List.mem_cons.mp hx with e | hx
    .subst e;exact Ej ok (by rw[<-hq.1];exact hq.2.1)
    .exact ih x hx
 exact all r x hx
end
def uw(H:Hp)(a:Addr)(y:V)(r:Option V):Prop:=
 (∃kvs k,Rd H a (.dK kvs)/\y=kV k/\r=j8 kvs k)\/∃kvs k b,Rd H a (.dT kvs)/\y= .ref b/\H b=some (.tup (k.map kV))/\r=j8 kvs k
def LU(H:Hp)(a:Addr)(y v:V)(H':Hp):Prop:=
 (∃kvs k,H a=some (.dK kvs)/\y=kV k/\kvs.length < sizeLine/\H'=upd H a (.dK (putK kvs k v)))\/
 ∃kvs k b,H a=some (.dT kvs)/\y= .ref b/\H b=some (.tup (k.map kV))/\kvs.length < sizeLine/\H'=upd H a (.dT (putK kvs k v))
theorem uw.k{H:Hp}{a:Addr}{kvs:List (Key × V)}{k:Key}(e:H a=some (.dK kvs)):uw H a (kV k) (j8 kvs k):= .inl ⟨kvs,k, .inl e,rfl,rfl⟩
section
variable {X:Cx} {pins:Vr} {σ:St} {H:Hp} {s:Shared} {a:Addr} {y v:V} {u r:Value} {o:Option V} {A:Around} {E:Vs}
theorem Inv.big(I:Inv X pins σ H s):sysModules < s.heap.objs.size:=by
 have h:mainGlobals < s.heap.objs.size:=(I.mod.glob.keeps I.bk).lt;exact Nat.lt_trans (by decide) h
theorem G0{h':Heap}{t':Nat}{ob:HO}(I:Inv X pins σ H s)(mu:Ma (H a))(hs:Heap.SameBut a s.heap h')(he:∃q,h'.get? a=some q)(new:fE X.prog X.w (upd H a ob) h' a ob) :
 Inv X pins σ (upd H a ob) {s with heap:=h',toks:=t'}:=
 I.write (x:=a) (e:=a) mu (.inl rfl) (fun b q hb z=>(hs.2 b hb).trans z) he new
theorem Kc{H':Hp}{h':Heap}{kvs:List (Key × V)}{vs:List (Key × Value)}(z:kvs.length<=sizeLine)(hd:(a==sysModules)=false)(rel:KV kvs vs)(dd:h'.DictOf (dD P w) a vs) :
 fE P w H' h' a (.dK kvs):=⟨z,hd,vs,rel,dd⟩
end
section
variable {X:Cx} {pins:Vr} {σ:St} {H:Hp} {s:Shared} {a:Addr} {kvs:List (Key × V)} {k:Key} {u:Value} {A:Around} {E:Vs}
end
def RX(i:Expr):Prop:=∀ov iv,subscripted i false ov iv=operate [ov,iv] (getItem ov iv)
def QM(td ty:TE):TE:=fun σ H Q=>td σ H fun x H1=>ty σ H1 fun y H2=>∃a v,x= .ref a/\uw H2 a y (some v)/\Q v H2
def SI(ty td:TE):TE:=fun σ H Q=>ty σ H fun y H1=>td σ H1 fun x H2=>∃a o,x= .ref a/\uw H2 a y o/\Q (.bl o.isSome) H2
def Nw(ty td:TE):TE:=fun σ H Q=>ty σ H fun y H1=>td σ H1 fun x H2=>∃a o,x= .ref a/\uw H2 a y o/\Q (.bl (!o.isSome)) H2
def Qk(td ty tv:TE):TS:=fun D σ H=>tv σ H fun v H1=>td σ H1 fun x H2=>ty σ H2 fun y H3=>∃a H4,x= .ref a/\LU H3 a y v H4/\D.nx σ H4
def QX(td ty tv:TE)(rd:V->V->Hp->VK->Prop):TS:=fun D σ H=>td σ H fun x H1=>ty σ H1 fun y H2=>∃a v,x= .ref a/\uw H2 a y (some v)/\
 tv σ H2 fun y2 H3=>rd v y2 H3 fun z H4=>∃H5,LU H4 a y z H5/\D.nx σ H5
def Qz(td ty:TE):TS:=fun D σ H=>td σ H fun x H1=>ty σ H1 fun y H2=>∃a kvs k,x= .ref a/\H2 a=some (.dK kvs)/\y=kV k/\(j8 kvs k).isSome=true/\D.nx σ (upd H2 a (.dK (Fd kvs k)))
section
variable {X:Cx} {o i e value:Expr} {pos pos' qK:Pos} {td ty tv:TE}
end
theorem DC(h:Heap)(hb:sysModules < h.objs.size):fE P w H (h.push {cls:= .type "dict",data:= .dict #[]}) h.objs.size (.dK []):=
 ⟨Nat.zero_le _,beq_eq_false_iff_ne.mpr (Ne.symm (Nat.ne_of_lt hb)),[], .nil,Heap.DictOf.new h⟩
def OS:TE:=fun _ H Q=>∀p,H p=none->Q (.ref p) (upd H p (.dK []))
def N4:TE:=fun _ H Q=>∀p,H p=none->Q (.ref p) (upd H p (.dT []))
section
variable {X:Cx} {pos:Pos}
end
def wO:List (TE × TE)->St->Hp->(List (V × V)->Hp->Prop)->Prop
 | [],_,H,Q=>Q [] H
 | (tk,tv) ::r,σ,H,Q=>tk σ H fun x H1=>tv σ H1 fun y H2=>wO r σ H2 fun ps H3=>Q ((x,y) ::ps) H3
abbrev VV:List (V × V)->List (Value × Value)->Prop:=Paired fun p q=>RelV p.1 q.1/\RelV p.2 q.2
def MI(X:Cx)(pos:Pos)(keys:List (Option Expr))(values:List Expr)(BC:List (TE × TE)):Prop:=
 ∀(pins:Vr) (s:Shared) (σ:St) (H:Hp) (Q:List (V × V)->Hp->Prop),Inv X pins σ H s->wO BC σ H Q->
  wpAny (model X.prog X.w) X.A (evalPairs (pairTrees keys values X.env pos)) (fun vs s'=>∃ps H',Inv X pins σ H' s'/\VV ps vs/\Q ps H') X.xe s
theorem G7{X:Cx}:MI X pos [] [] []:=fun pins s σ H Q I h=>pairTrees_nil_walk ⟨[],H,I, .nil,h⟩
theorem Fc{X:Cx}{ks:List (Option Expr)}{tk tv:TE}{BC:List (TE × TE)}(hk:PE X k tk)(hv:PE X v tv)(hr:MI X pos ks vs BC) :
 MI X pos (some k ::ks) (v ::vs) ((tk,tv) ::BC):=fun pins s σ H Q I h=>
 pairTrees_cons_walk (eI (hk pins s σ H _ I h) fun u s1 ⟨x,H1,I1,rx,q1⟩=>eI (hv pins s1 σ H1 _ I1 q1) fun w2 s2 ⟨y,H2,I2,ry,q2⟩=>
  eI (hr pins s2 σ H2 _ I2 q2) fun ws s3 ⟨ps,H3,I3,rel,q3⟩=>⟨(x,y) ::ps,H3,I3, .cons ⟨rx,ry⟩ rel,q3⟩)
def kL(kvs more:List (Key × V)):List (Key × V):=more.foldl (fun acc kv=>putK acc kv.1 kv.2) kvs
theorem KV.merge:∀{more:List (Key × V)} {rs:List (Key × Value)} {kvs:List (Key × V)} {vs:List (Key × Value)},KV more rs->KV kvs vs->KV (kL kvs more) (merged vs rs):=by
 intro more rs kvs vs r;unfold KV at r
 induction r generalizing kvs vs with
 | nil=>intro q;exact q
 | @cons p q ps qs h t ih=>
   intro r0;have e:KV (putK kvs p.1 p.2) (stored vs q.1 q.2):=by
    have:=r0.put p.1 h.2;rw[<-h.1];exact this
   exact ih e
theorem om:∀(more kvs:List (Key × V)),(kL kvs more).length<=kvs.length+more.length
 | [],kvs=>by show kvs.length<=kvs.length+0;omega
 | p ::r,kvs=>by
   have h1:=om r (putK kvs p.1 p.2);have h2:=xR kvs p.1 p.2;show(kL (putK kvs p.1 p.2) r).length<=_;rw[List.length_cons];omega
theorem sC:∀{kvs:List (Key × V)} {ws:List (Value × Value)},VV (kvs.map fun kv=>(kV kv.1,kv.2)) ws->∃rs,Carries (dD P w) ws rs/\KV kvs rs
 | [],_,r=>by rw[List.map_nil] at r;cases r;exact⟨[],True.intro, .nil⟩
 | p ::kvs,_,r=>by
   rw[List.map_cons] at r;cases r with
   | @cons a b as bs h t=>
     obtain⟨rs,c,q⟩:=sC (P:=P) (w:=w) t;obtain⟨b1,b2⟩:=b;exact⟨(p.1,b2) ::rs,⟨EL h.1,rfl,c⟩, .cons ⟨rfl,h.2⟩ q⟩
def Mo(BC:List (TE × TE)):TE:=fun σ H Q=>∀p,H p=none->wO BC σ (upd H p (.dK [])) fun ps H2=>H2 p=some (.dK [])/\∃kvs:List (Key × V),ps=kvs.map (fun kv=>(kV kv.1,kv.2))/\kvs.length<=15/\Q (.ref p) (upd H2 p (.dK (kL [] kvs)))
theorem Gz{X:Cx}{pos:Pos}{keys:List (Option Expr)}{values:List Expr}{BC:List (TE × TE)}(h:MI X pos keys values BC)(Fp:keys.all (·.isSome)=true)(hl:keys.length=values.length)(h0:keys≠[])
 (Qf:keys.length<=15):PE X (.Dict keys values pos) (Mo BC):=by
 intro pins s σ H Q I q;have hn:=I.hok.fresh (Nat.le_refl s.heap.objs.size);have I1:=I.laid (a:=s.heap.objs.size) (o:= .dK []) (h':=s.heap.push {cls:= .type "dict",data:= .dict #[]}) (t':=s.toks) (fun _ _ q=>Heap.get?_push_of_some _ q) (Nat.le_refl _) (DC s.heap I.big)
 refine wpAny_Dict_walk (knd:=dD X.prog X.w) Fp hl h0 Qf (eI (h pins _ σ _ _ I1 (q _ hn)) fun ws s2 ⟨ps,H2,I2,rel,e,kvs,ep,lk,q2⟩=>?_)
 subst ep;obtain⟨rs,c,rk⟩:=sC (P:=X.prog) (w:=X.w) rel;obtain⟨z,hd,Vk,r0,dd⟩:=Mv I2.hok e;cases r0;refine⟨rs,c,dd,fun h' Ro hs=>⟨.ref s.heap.objs.size,_,?_,rfl,q2⟩⟩
 have hz:(kL [] kvs).length<=sizeLine:=by
  have h1:=om kvs [];rw[List.length_nil] at h1;rw[sizeLine_eq];omega
 have he:∃q,h'.get? s.heap.objs.size=some q:=let⟨q,_,_,hq,_⟩:=Ro;⟨q,hq⟩
 exact G0 I2 (by rw[e];exact True.intro) hs he (Kc hz hd (rk.merge .nil) Ro)
structure M1 (X:Cx) (o:Expr) (m:Str) (apos:Pos) (e:Expr) (dO:Pos):Prop where
 base:attributeBase o m X.env (eval o X.env)=eval o X.env
 few:((backTo dO (starEach [e] X.env)).all (fun x=>!x.1) && (backToKw dO (keywordEach [] X.env)).all (fun x=>x.1.isSome)
  && decide (([e]:List Expr).length+([]:List Keyword).length+(if([]:List Keyword).isEmpty then 0 else 1) < 30))=true
 line:(apos.endLine==dO.line)=true
 trees:backTo dO (starEach [e] X.env)=[(false,eval e X.env)]
structure M2 (X:Cx) (o:Expr) (m:Str) (apos:Pos) (e f:Expr) (dO:Pos):Prop where
 base:attributeBase o m X.env (eval o X.env)=eval o X.env
 few:((backTo dO (starEach [e,f] X.env)).all (fun x=>!x.1) && (backToKw dO (keywordEach [] X.env)).all (fun x=>x.1.isSome)
  && decide (([e,f]:List Expr).length+([]:List Keyword).length+(if([]:List Keyword).isEmpty then 0 else 1) < 30))=true
 line:(apos.endLine==dO.line)=true
 trees:backTo dO (starEach [e,f] X.env)=[(false,eval e X.env),(false,eval f X.env)]
def MV(H:Hp)(a:Addr):Prop:=(∃kvs,Rd H a (.dK kvs))\/∃kvs,Rd H a (.dT kvs)
theorem K2{X:Cx}{pins:Vr}{s:Shared}{a:Addr}(I:Inv X pins σ H s)(d:MV H a) :
 s.TypeIs (.ref a) "dict"/\(∀b,Value.ref a= .ref b->∃ob,s.heap.get? b=some ob/\ob.dict=none)/\(a==sysModules)=false:=by
 rcases d with⟨kvs,e⟩ | ⟨kvs,e⟩
 .obtain⟨_,hd,vs,_,dd⟩:=DM I.hok e;refine⟨dd.typeIs,fun b q=>?_,hd⟩
  cases q;obtain⟨ob,_,_,h1,h2,_⟩:=dd;exact⟨ob,h1,h2.2.1⟩
 .obtain⟨_,hd,xs,_,dd⟩:=Ir I.hok e;refine⟨dd.typeIs,fun b q=>?_,hd⟩
  cases q;obtain⟨ob,_,_,h1,h2,_⟩:=dd;exact⟨ob,h1,h2.2.1⟩
section
variable {X:Cx} {pins:Vr} {σ:St} {H:Hp} {s:Shared} {a:Addr} {y d:V} {u r:Value} {o:Option V} {A:Around} {E:Vs}
theorem JH{Q:Vs}(hu:A.units+1 < cLine)(I:Inv X pins σ H s)(g:uw H a y o)(ry:RelV y u)(rd:RelV d r)(h:∀w' s',Inv X pins σ H s'->RelV (o.getD d) w'->Q w' s') :
 wpAny (model X.prog X.w) A (call (.builtin "dict.get") [.ref a,u,r]) Q E s:=by
 rcases g with⟨kvs,k,e,ey,l⟩ | ⟨kvs,k,b,e,ey,eb,l⟩
 .subst ey;obtain⟨z,hd,vs,rel,dd⟩:=DM I.hok e;refine call_meetsIn PySem.F.slot_dict_get dd.typeIs PySem.F.entry_dict_get (PySem.F.args_dict_get_3 _ _ _) (meets_dict_get_default (dD X.prog X.w) a (EL ry) hd r) ⟨_,dd.mapOf,h _ _ (I.tok _) ?_⟩;rw[l];exact(rel.val k).getD rd
 .subst ey;cases(show u=Value.ref b from ry)
  obtain⟨z,hd,xs,rel,dd⟩:=Ir I.hok e;refine call_meetsIn PySem.F.slot_dict_get dd.typeIs PySem.F.entry_dict_get (PySem.F.args_dict_get_3 _ _ _) (meetsH_dict_get_default (tupleKind (dD X.prog X.w)) a b hd r) ⟨tupleKind_room_in1 hu,k,xs,Ej I.hok eb,dd,h _ _ (I.tok _) ?_⟩;rw[l];exact(rel.val k).getD rd
end
def OM(td ty:TE):TE:=fun σ H Q=>td σ H fun x H1=>∃a,x= .ref a/\MV H1 a/\ty σ H1 fun y H2=>∃o,uw H2 a y o/\Q (o.getD .cn) H2
def JG(td ty tx:TE):TE:=fun σ H Q=>td σ H fun x H1=>∃a,x= .ref a/\MV H1 a/\ty σ H1 fun y H2=>tx σ H2 fun z H3=>∃o,uw H3 a y o/\Q (o.getD z) H3
def N_(td ty:TE):TE:=fun σ H Q=>td σ H fun x H1=>∃a,x= .ref a/\MV H1 a/\ty σ H1 fun y H2=>∃kvs k v,H2 a=some (.dK kvs)/\y=kV k/\j8 kvs k=some v/\Q v (upd H2 a (.dK (Fd kvs k)))
def O8(td ty tx:TE):TE:=fun σ H Q=>td σ H fun x H1=>∃a,x= .ref a/\MV H1 a/\ty σ H1 fun y H2=>tx σ H2 fun z H3=>∃kvs k,H3 a=some (.dK kvs)/\y=kV k/\
 (∀v,j8 kvs k=some v->Q v (upd H3 a (.dK (Fd kvs k))))/\(j8 kvs k=none->Q z H3)
section
variable {X:Cx} {o e f:Expr} {apos dO:Pos} {td ty tx:TE}
theorem Ds(hu:X.A.units+1 < cLine)(ho:PE X o td)(he:PE X e ty)(hf:PE X f tx)(m:M2 X o "get" apos e f dO):PE X (.Call (.Attribute o "get" apos) [e,f] [] dO) (JG td ty tx):=by
 intro pins s σ H Q I h;refine wpAny_Call_method m.base m.few m.line PySem.F.plainAttrs_dict PySem.F.slot_dict_get PySem.F.type_dict_get (eI (ho pins s σ H _ I h) fun u s1 ⟨x,H1,I1,rx,a,ex,d,q1⟩=>?_)
 subst ex;obtain rfl:u=Value.ref a:=rx;obtain⟨t1,t2,_⟩:=K2 I1 d;refine⟨t1,t2,?_⟩;rw[m.trees];refine Calls.callWith_builtin rfl (Calls.evalArgs_plain (Calls.spliced_cons (eI (he pins s1 σ H1 _ I1 q1) fun iv s2 ⟨y,H2,I2,ry,q2⟩=>
  Calls.spliced_cons (eI (hf pins s2 σ H2 _ I2 q2) fun fv s3 ⟨z,H3,I3,rz,ov,g,q3⟩=>Calls.spliced_nil ?_))))
 exact JH hu I3 g ry rz fun w' s4 I4 FI=>⟨_,H3,I4,FI,q3⟩
end
section
variable {X:Cx} {pins:Vr} {σ:St} {H:Hp} {s:Shared} {a:Addr} {kvs:List (Key × V)} {A:Around} {E:Vs}
end
section
variable {X:Cx} {pins:Vr} {σ:St} {H:Hp} {s:Shared} {a:Addr} {y:V} {u:Value} {A:Around} {E:Vs}
end
end L2
namespace HT
open PySem PyProof.Rows
def lexLt:List Int->List Int->Bool
 | [],[]=>false
 | [],_ ::_=>true
 | _ ::_,[]=>false
 | x ::xs,y ::ys=>if x=y then lexLt xs ys else decide (x < y)
section
open PySem.SeqAt
open PySem.AutoSeq1 (wpAny_loadPart')
open PySem.MeetsSeq PySem.MeetsSeq2 PySem.MeetsSeq3
end
section
variable {prog:Program} {w:World} {A:Around} {E:Vs} {s:Shared}
theorem GY{t b:Addr}{vs ws:List Value}{Q:Vs}(ht:IsTup s.heap t vs.toArray)(hb:IsTup s.heap b ws.toArray)(hv:vs≠[])
 (h1:ws=[]->Q (.ref t) s) (h2:ws≠[]->Q (.ref s.heap.objs.size) {s with heap:=s.heap.push {cls:= .type "tuple",data:= .seq (vs++ws).toArray}})
 (IC:vs.length+ws.length<=sizeLine):wpAny (model prog w) A (binaryOp .Add (.ref t) (.ref b)) Q E s:=by
 obtain⟨⟨cls,dd,data,sl⟩,ho,hc,n,hd⟩:=id ht;obtain⟨⟨Qc,NN,data2,Lw⟩,HR,LB,n2,hd2⟩:=id hb;simp only at hc hd LB hd2;subst hc hd LB hd2;have e:vs.toArray++ws.toArray=(vs++ws).toArray:=by simp
 by_cases hw:ws=[]
 .exact concat_meets ⟨_,ho,rfl⟩ ⟨_,HR,rfl⟩ noFill_tuple_add seq_tuple_add PySem.F.slot_tuple_add PySem.F.entry_tuple_add (PySem.F.args_tuple_add_2 _ _)
   (tuple_addW1 t b vs.toArray ws.toArray n n2 dd NN sl Lw (by simpa using hv) (by simp [hw])) ⟨ho,HR,h1 hw⟩
 .refine concat_meets ⟨_,ho,rfl⟩ ⟨_,HR,rfl⟩ noFill_tuple_add seq_tuple_add PySem.F.slot_tuple_add PySem.F.entry_tuple_add (PySem.F.args_tuple_add_2 _ _)
   (tuple_addW2 t b vs.toArray ws.toArray n n2 dd NN sl Lw (by simpa using hv) (by simpa using hw) (by rw[List.size_toArray,List.size_toArray];exact IC)) ⟨ho,HR,?_⟩
  rw[e];exact h2 hw
def rY(n d:Nat):Option Int->Nat
 | none=>d
 | some v=>if v < 0 then(v+(n:Int)).toNat else min v.toNat n
theorem Eg(n d:Nat):rY n d none=d:=rfl
theorem GL(n d k:Nat):rY n d (some (k:Int))=min k n:=by
 show(if(k:Int) < 0 then((k:Int)+(n:Int)).toNat else min (k:Int).toNat n)=min k n
 rw[if_neg (by omega),Int.toNat_natCast]
end
end HT
namespace L2
open PySem PySem.Spec PyProof.Rows
abbrev TO:=St->Hp->(Option Int->Hp->Prop)->Prop
def PO(X:Cx)(e:Option Expr)(t:TO):Prop:=
 ∀(pins:Vr) (s:Shared) (σ:St) (H:Hp) (Q:Option Int->Hp->Prop),Inv X pins σ H s->t σ H Q->
  wpAny (model X.prog X.w) X.A (evalPart e X.env) (fun u s'=>∃o H',Inv X pins σ H' s'/\IsPart u o/\Q o H') X.xe s
def G5:TO:=fun _ H Q=>Q none H
def LG(t:TE):TO:=fun σ H Q=>t σ H fun x H1=>∃i,x= .int i/\Q (some i) H1
section
variable {X:Cx} {e:Expr} {te:TE} {lo hi:Option Expr} {tl th:TO} {pos p2:Pos}
theorem Gs:PO X none G5:=by
 intro pins s σ H Q I h;rw[evalPart_none];exact wpAny_pure ⟨none,H,I, .none,h⟩
theorem HF(h:PE X e te):PO X (some e) (LG te):=by
 intro pins s σ H Q I hw;rw[evalPart_some];refine eI (h pins s σ H _ I hw) fun u s1 ⟨x,H1,I1,r1,q1⟩=>?_
 obtain⟨i,rfl,q⟩:=q1;obtain⟨t,rfl⟩:=r1;exact⟨some i,H1,I1, .int i t,q⟩
def KD(X:Cx)(r:V->Option Int->Option Int->Hp->VK->Prop):Prop:=
 ∀(pins:Vr) (s:Shared) (σ:St) (H:Hp) (x:V) (v vl vu:Value) (lo hi:Option Int) (sl:Addr) (Q:VK),Inv X pins σ H s->RelV x v->s.heap.IsSliceOf sl vl vu .none->IsPart vl lo->IsPart vu hi->r x lo hi H Q->
  ∃T id,typeLookup (.type T) "__getitem__"=pure (some (.builtin id))/\s.TypeIs v T/\wpAny (model X.prog X.w) X.A (getItem v (.ref sl)) (EP X pins σ Q) X.xe s
theorem KD.or{r r':V->Option Int->Option Int->Hp->VK->Prop}(h:KD X r)(h':KD X r'):KD X (fun x lo hi H Q=>r x lo hi H Q\/r' x lo hi H Q):=by
 intro pins s σ H x v vl vu lo hi sl Q I rx hs pl pu q;rcases q with q | q
 .exact h pins s σ H x v vl vu lo hi sl Q I rx hs pl pu q
 .exact h' pins s σ H x v vl vu lo hi sl Q I rx hs pl pu q
def R0(r:V->Option Int->Option Int->Hp->VK->Prop)(te:TE)(tl th:TO):TE:=fun σ H Q=>te σ H fun x H1=>tl σ H1 fun l H2=>th σ H2 fun u H3=>r x l u H3 Q
theorem D6{r:V->Option Int->Option Int->Hp->VK->Prop}(hr:KD X r)(he:PE X e te)(hl:PO X lo tl)(hu:PO X hi th):PE X (.Subscript e (.Slice lo hi none p2) pos) (R0 r te tl th):=by
 intro pins s σ H Q I h;refine Subscript_ (eI (he pins s σ H _ I h) fun v s1 ⟨x,H1,I1,r1,q1⟩=>?_)
 refine wpAny_Slice (eI (hl pins s1 σ H1 _ I1 q1) fun vl s2 ⟨l,H2,I2,pl,q2⟩=>eI (hu pins s2 σ H2 _ I2 q2) fun vu s3 ⟨u,H3,I3,pu,q3⟩=>?_)
 rw[evalPart_none];refine wpAny_pure ?_;have I4:Inv X pins σ H3 {s3 with heap:=s3.heap.push {cls:= .type "slice",data:= .fields #[vl,vu, .none]}}:=I3.kept (t':=s3.toks) fun b ob q=>Heap.get?_push_of_some _ q
 obtain⟨T,id,hT,ht,hg⟩:=hr pins {s3 with heap:=s3.heap.push {cls:= .type "slice",data:= .fields #[vl,vu, .none]}} σ H3 x v vl vu l u s3.heap.objs.size Q I4 r1 (Heap.IsSliceOf.new ..) pl pu q3
 show wpAny (model X.prog X.w) X.A (subscriptTail e (.Slice lo hi none p2) v (.ref s3.heap.objs.size)) (EP X pins σ Q) X.xe {s3 with heap:=s3.heap.push {cls:= .type "slice",data:= .fields #[vl,vu, .none]}}
 exact tail_any (ops:=[.ref s3.heap.objs.size,v]) ht hT hg (by with_unfolding_all rfl)
def yX(xs:List V)(lo hi:Option Int):List V:=(xs.drop (HT.rY xs.length 0 lo)).take (HT.rY xs.length xs.length hi - HT.rY xs.length 0 lo)
theorem x6(xs:List V)(lo hi:Option Int):(yX xs lo hi).length<=xs.length:=by
 unfold yX;rw[List.length_take,List.length_drop];omega
def RI(K:W.Frag):V->Option Int->Option Int->Hp->VK->Prop:=fun x lo hi H Q=>∃a xs,x= .ref a/\rO K H a xs/\
 ¬(HT.rY xs.length 0 lo=0/\HT.rY xs.length xs.length hi=xs.length)/\∀p,H p=none->Q (.ref p) (upd H p (.tup (yX xs lo hi)))
def RH(K:W.Frag):R2:=fun x y H Q=>∃a b ns ms,x= .ref a/\y= .ref b/\rO K H a (ns.map V.int)/\rO K H b (ms.map V.int)/\Q (.bl (HT.lexLt ns ms)) H
def QT(K:W.Frag):R2:=fun x y H Q=>∃a b xs ys,x= .ref a/\y= .ref b/\rO K H a xs/\rO K H b ys/\xs≠[]/\xs.length+ys.length<=sizeLine/\
 (ys=[]->Q (.ref a) H)/\(ys≠[]->∀p,H p=none->Q (.ref p) (upd H p (.tup (xs++ys))))
end
def Cg(n:Nat)(i:Int):Option Nat:=if 0<=i then(if i < n then some i.toNat else none) else if -(n:Int)<=i then some (i+n).toNat else none
def rS{α:Type}(xs:List α)(i:Int):Option α:=(Cg xs.length i).bind fun j=>xs[j]?
theorem HA{n:Nat}{i:Int}{j:Nat}(h:Cg n i=some j):seqIndex? i n=some j/\j < n/\ -(n:Int)<=i/\i < n:=by
 unfold Cg at h;by_cases h0:0<=i
 .rw [if_pos h0] at h;by_cases h1:i < n
  .rw [if_pos h1] at h;have e:i.toNat=j:=Option.some.inj h;exact⟨by rw[seqIndex_of h0 h1,e],by omega,by omega,h1⟩
  .rw [if_neg h1] at h;cases h
 .rw [if_neg h0] at h;by_cases h1: -(n:Int)<=i
  .rw [if_pos h1] at h;have e:(i+n).toNat=j:=Option.some.inj h;exact⟨by rw[seqIndex_neg (by omega) h1,e],by omega,h1,by omega⟩
  .rw [if_neg h1] at h;cases h
theorem wu{α:Type}{xs:List α}{i:Int}{v:α}(h:rS xs i=some v):∃j,seqIndex? i xs.length=some j/\xs[j]? =some v/\j < xs.length/\ -(xs.length:Int)<=i/\i < xs.length:=by
 unfold rS at h;cases e:Cg xs.length i with
 | none=>rw [e] at h;cases h
 | some j=>
   rw[e] at h;obtain⟨h1,h2,h3,h4⟩:=HA e;exact⟨j,h1,h,h2,h3,h4⟩
def r_(b:Expr):Prop:=∀o i,subscripted b false o i=operate [o,i] (getItem o i)
def Hd(X:Cx)(r:R2):Prop:=
 ∀(value slice:Expr) (pins:Vr) (s:Shared) (σ:St) (H:Hp) (x y:V) (v u:Value) (Q:VK),Inv X pins σ H s->RelV x v->RelV y u->r x y H Q->
  subscripted slice false v u=operate [v,u] (getItem v u)->wpAny (model X.prog X.w) X.A (subscriptTail value slice v u) (EP X pins σ Q) X.xe s
def SN(X:Cx)(id:String)(r:V->List V->Hp->VK->Prop):Prop:=
 ∀(pins:Vr) (s:Shared) (σ:St) (H:Hp) (x:V) (xs:List V) (v:Value) (us:List Value) (Q:VK),Inv X pins σ H s->RelV x v->Vals xs us->r x xs H Q->
  wpAny (model X.prog X.w) X.A (call (.builtin id) (v ::us)) (EP X pins σ Q) X.xe s
section
variable {X:Cx} {a b:Expr} {ta tb:TE} {pos:Pos}
theorem Hd.or{r r':R2}(h:Hd X r)(h':Hd X r'):Hd X (fun x y H Q=>r x y H Q\/r' x y H Q):=by
 intro value slice pins s σ H x y v u Q I rx ry q hs;rcases q with q | q
 .exact h value slice pins s σ H x y v u Q I rx ry q hs
 .exact h' value slice pins s σ H x y v u Q I rx ry q hs
theorem Ih{r:R2}(hr:Hd X r)(ha:PE X a ta)(hb:PE X b tb)(hs:r_ b):PE X (.Subscript a b pos) (Lo r ta tb):=by
 intro pins s σ H Q I h;exact Subscript_ (JR ha hb I h fun v u s2 x y H2 I2 rx ry q=>hr a b pins s2 σ H2 x y v u Q I2 rx ry q (hs _ _))
def My(K:W.Frag):R2:=fun x y H Q=>∃p xs i v,x= .ref p/\y= .int i/\pL K H p xs/\rS xs i=some v/\Q v H
def MD(K:W.Frag):R2:=fun x y H Q=>∃p xs i v,x= .ref p/\y= .int i/\rO K H p xs/\rS xs i=some v/\Q v H
def Mj:R2:=fun x y H Q=>∃z i c,x= .str z/\y= .int i/\z.length<=sizeLine/\rS z.cps.toList i=some c/\Q (.str ⟨#[c]⟩) H
theorem Hg:Hd X (My X.K):=by
 intro value slice pins s σ H x y v u Q I rx ry h hs;obtain⟨p,xs,i,z,rfl,rfl,hq,he,q⟩:=h;cases rx;obtain⟨t,rfl⟩:=ry;obtain⟨its,r,pl,hz⟩:=I.list hq;obtain⟨j,h1,h2,h3,h4,h5⟩:=wu he;obtain⟨w,ew,FI⟩:=r.get h2;have hl:=r.length;have hn:=sG;have fin:EP X pins σ Q w s:=⟨z,H,I,FI,q⟩;by_cases h0:0<=i
 .have hj:i.toNat=j:=by
   rw[seqIndex_of h0 h5] at h1;exact Option.some.inj h1
  exact item_listR pl.isList h0 (by omega) (by rw[hj];simpa using ew) fin hs
 .have hj:(i+(its.toArray.size:Int)).toNat=j:=by
   rw[seqIndex_neg (by omega) h4] at h1
   rw[List.size_toArray,<-hl];exact Option.some.inj h1
  exact subscriptTail_builtinR (x:=w) pl.isList.typeIs slot_list_getitem.lookup
   (wpAny_getItem_list_neg (Q:=fun r s'=>r=w/\EP X pins σ Q r s') pl.isList (by omega) (by rw[List.size_toArray] <;> omega) (by omega) (by rw[hj];simpa using ew) ⟨rfl,fin⟩) hs
theorem J9:Hd X (MD X.K):=by
 intro value slice pins s σ H x y v u Q I rx ry h hs;obtain⟨p,xs,i,z,rfl,rfl,hq,he,q⟩:=h;cases rx;obtain⟨t,rfl⟩:=ry;obtain⟨its,r,pl,hz⟩:=I.tuple hq;obtain⟨j,h1,h2,h3,h4,h5⟩:=wu he;obtain⟨w,ew,FI⟩:=r.get h2;have hl:=r.length;have hn:=sG;have fin:EP X pins σ Q w s:=⟨z,H,I,FI,q⟩;exact subscriptTail_builtinR (x:=w) pl.typeIs slot_tuple_getitem.lookup
  (getItem_tuple (j:=j) (Q:=fun r s'=>r=w/\EP X pins σ Q r s') pl (by omega) (by omega) (by rw[List.size_toArray,<-hl];exact h1) (by simpa using ew) ⟨rfl,fin⟩) hs
theorem J8:Hd X Mj:=by
 intro value slice pins s σ H x y v u Q I rx ry h hs;obtain⟨z,i,c,rfl,rfl,hz,he,q⟩:=h;obtain⟨t,rfl⟩:=rx;obtain⟨t',rfl⟩:=ry;obtain⟨j,h1,h2,h3,h4,h5⟩:=wu he;have hl:z.cps.toList.length=z.length:=by simp [Str.length]
 rw[hl] at h1 h4 h5;have hn:=sG;exact tail_any (typeIs_str s z t) slot_str_getitem.lookup (getItem_str (c:=c) (by
  have e1:decide (i < -(2 ^ 63:Int))=false:=decide_eq_false (by omega)
  have e2:decide (i>=2 ^ 63)=false:=decide_eq_false (by omega)
  rw[e1,e2,Bool.or_false]) (by rw[h1];simpa using h2) ⟨.str ⟨#[c]⟩,H,I.tok _,⟨_,rfl⟩,q⟩) hs
def OY(K:W.Frag):R2:=fun x y H Q=>My K x y H Q\/MD K x y H Q\/Mj x y H Q
theorem Fe:Hd X (OY X.K):=Hg.or (J9.or J8)
def Q8:V->V->V->Hp->(Hp->Prop)->Prop:=fun o i v H Q=>∃p xs k j,o= .ref p/\i= .int k/\H p=some (.lst xs)/\Cg xs.length k=some j/\Q (upd H p (.lst (xs.set j v)))
theorem wc(lo hi:Option Int)(n:Nat):(sliceBounds lo hi none n).1=((HT.rY n 0 lo:Nat):Int)/\(sliceBounds lo hi none n).2.1=((HT.rY n n hi:Nat):Int)/\(sliceBounds lo hi none n).2.2=1:=by
 refine⟨?_,?_,rfl⟩
 .cases lo with
  | none=>simp [sliceBounds,HT.rY]
  | some i=>
    simp only[sliceBounds,HT.rY,Option.getD_none,show(1:Int) > 0 by decide,if_true]
    by_cases h:i < 0
    .simp only[h,if_true] <;> omega
    .simp only[h,if_false] <;> omega
 .cases hi with
  | none=>simp [sliceBounds,HT.rY]
  | some i=>
    simp only[sliceBounds,HT.rY,Option.getD_none,show(1:Int) > 0 by decide,if_true]
    by_cases h:i < 0
    .simp only[h,if_true] <;> omega
    .simp only[h,if_false] <;> omega
theorem uA(its:List Value)(lo hi:Option Int):slicePick its.toArray lo hi none=((its.drop (HT.rY its.length 0 lo)).take (HT.rY its.length its.length hi - HT.rY its.length 0 lo)).toArray:=by
 obtain⟨h1,h2,h3⟩:=wc lo hi its.toArray.size;unfold slicePick;rw[h1,h2,h3];simp only[sliceRange_one,pick_run,List.size_toArray] <;> rfl
def Oo(K:W.Frag):V->Option Int->Option Int->Hp->VK->Prop:=fun x lo hi H Q=>∃a xs,x= .ref a/\pL K H a xs/\∀p,H p=none->Q (.ref p) (upd H p (.lst (yX xs lo hi)))
theorem Gf:KD X (Oo X.K):=by
 intro pins s σ H x v vl vu lo hi sl Q I rx hs pl pu h;obtain⟨a,xs,rfl,hx,q⟩:=h;cases rx;obtain⟨its,r,ht,hz⟩:=I.list hx;have hlen:=r.length;refine⟨"list",_,slot_list_getitem.lookup,ht.isList.typeIs,?_⟩;refine wpAny_getItem_list_slice ht.isList hs pl pu .none (by simp) ?_ (by rw[List.size_toArray] <;> omega)
 rw[uA,<-hlen];refine⟨.ref s.heap.objs.size,_,I.laid (t':=s.toks) (o:= .lst (yX xs lo hi)) (fun b ob q=>Heap.get?_push_of_some _ q) (Nat.le_refl _) ?_,rfl,q _ (I.hok.fresh (Nat.le_refl _))⟩
 exact⟨Nat.le_trans (x6 xs lo hi) hz,_,0,(r.drop (HT.rY xs.length 0 lo)).take (HT.rY xs.length xs.length hi - HT.rY xs.length 0 lo),Heap.get?_push_size _ rfl⟩
def lu:V->Bool
 | .cn=>true
 | .bl _=>true
 | .int _=>true
 | .str _=>true
 | _=>false
def Ib:V->V->Bool
 | .cn, .cn=>true
 | .bl a, .bl b=>a==b
 | .bl a, .int b=>(if a then 1 else 0)==b
 | .int a, .bl b=>a==(if b then 1 else 0)
 | .int a, .int b=>a==b
 | .str a, .str b=>a==b
 | _,_=>false
theorem Jz{s:Shared}{y x:V}{u v:Value}(ry:RelV y u)(rx:RelV x v)(fy:lu y=true)(fx:lu x=true):SeqAt.EqAt A s u v (Ib y x):=by
 cases y with
 | cn=>
   cases ry;cases x with
   | cn=>cases rx;exact SeqAt.EqAt.same _
   | bl b=>cases rx;exact SeqAt.EqAt.none_bool b
   | int b=>obtain⟨t,rfl⟩:=rx;exact SeqAt.EqAt.none_int b t
   | str b=>obtain⟨t,rfl⟩:=rx;exact SeqAt.EqAt.none_str b t
   | _=>exact absurd (show false=true from fx) Bool.false_ne_true
 | bl a=>
   cases ry;cases x with
   | cn=>cases rx;exact SeqAt.EqAt.bool_none a
   | bl b=>cases rx;exact SeqAt.EqAt.bool_bool a b
   | int b=>obtain⟨t,rfl⟩:=rx;exact SeqAt.EqAt.bool_int a b t
   | str b=>obtain⟨t,rfl⟩:=rx;exact SeqAt.EqAt.bool_str a b t
   | _=>exact absurd (show false=true from fx) Bool.false_ne_true
 | int a=>
   obtain⟨t',rfl⟩:=ry;cases x with
   | cn=>cases rx;exact SeqAt.EqAt.int_none a t'
   | bl b=>cases rx;exact SeqAt.EqAt.int_bool a t' b
   | int b=>obtain⟨t,rfl⟩:=rx;exact SeqAt.EqAt.int_int a t' b t
   | str b=>obtain⟨t,rfl⟩:=rx;exact SeqAt.EqAt.int_str a t' b t
   | _=>exact absurd (show false=true from fx) Bool.false_ne_true
 | str a=>
   obtain⟨t',rfl⟩:=ry;cases x with
   | cn=>cases rx;exact SeqAt.EqAt.str_none a t'
   | bl b=>cases rx;exact SeqAt.EqAt.str_bool a t' b
   | int b=>obtain⟨t,rfl⟩:=rx;exact SeqAt.EqAt.str_int a t' b t
   | str b=>obtain⟨t,rfl⟩:=rx;exact SeqAt.EqAt.str_str a t' b t
   | _=>exact absurd (show false=true from fx) Bool.false_ne_true
 | _=>exact absurd (show false=true from fy) Bool.false_ne_true
def GW(x:V)(u:Value):Bool:=match u with
 | .none=>Ib .cn x
 | .bool b=>Ib (.bl b) x
 | .int i _=>Ib (.int i) x
 | .str z _=>Ib (.str z) x
 | _=>false
theorem D0{x y:V}{u:Value}(r:RelV y u)(f:lu y=true):GW x u=Ib y x:=by
 cases y with
 | cn=>cases r;rfl
 | bl b=>cases r;rfl
 | int i=>obtain⟨t,rfl⟩:=r;rfl
 | str z=>obtain⟨t,rfl⟩:=r;rfl
 | _=>exact absurd (show false=true from f) Bool.false_ne_true
theorem vQ{x:V}:∀{xs:List V} {us:List Value},Vals xs us->xs.all lu=true->us.any (GW x)=xs.any fun y=>Ib y x
 | _,_, .nil,_=>rfl
 | y ::xs,u ::us, .cons r t,f=>by
   rw[List.all_cons,Bool.and_eq_true] at f;rw[List.any_cons,List.any_cons,D0 r f.1,vQ t f.2]
theorem uf{s:Shared}{x:V}{v:Value}(rx:RelV x v)(fx:lu x=true):∀{xs:List V} {us:List Value},Vals xs us->xs.all lu=true->∀u∈us,SeqAt.EqAt A s u v (GW x u)
 | _,_, .nil,_=>fun u hu=>by cases hu
 | y ::xs,u ::us, .cons r t,f=>fun u' hu=>by
   rw[List.all_cons,Bool.and_eq_true] at f;rcases List.mem_cons.mp hu with rfl | hu
   .rw [D0 r f.1];exact Jz r rx f.1 fx
   .exact uf rx fx t f.2 u' hu
def D_(x:V)(xs:List V):Bool:=xs.any fun y=>Ib y x
def Qv(K:W.Frag)(neg:Bool):R2:=fun x y H Q=>∃p xs,y= .ref p/\(pL K H p xs\/rO K H p xs)/\lu x=true/\xs.all lu=true/\Q (.bl (if neg then !D_ x xs else D_ x xs)) H
theorem vH:mK X (compareOp .In) (Qv X.K false):=by
 intro pins s σ H x y v u Q I rx ry h;obtain⟨p,xs,rfl,hq,fx,fs,q⟩:=h;cases ry;rcases hq with hq | hq
 .obtain⟨its,r,pl,hz⟩:=I.list hq;refine SeqAt.in_listAt (GW x) pl.isList (fun w hw=>uf rx fx r fs w (by simpa using hw)) ⟨.bl _,H,I,rfl,?_⟩
  rw[show its.toArray.any (GW x)=its.any (GW x) by simp,vQ r fs]
  exact q
 .obtain⟨its,r,pl,hz⟩:=I.tuple hq;refine SeqAt.in_tupleAt (GW x) pl (fun w hw=>uf rx fx r fs w (by simpa using hw)) ⟨.bl _,H,I,rfl,?_⟩
  rw[show its.toArray.any (GW x)=its.any (GW x) by simp,vQ r fs]
  exact q
theorem uN:m4 X (.type "tuple") (fun xs H Q=>∃p ys,xs=[.ref p]/\((pL X.K H p ys/\∀l,H l=none->Q (.ref l) (upd H l (.tup ys)))\/(rO X.K H p ys/\Q (.ref p) H))):=by
 intro pins s σ H xs us Q I r h;obtain⟨p,ys,rfl,h⟩:=h;obtain⟨u,rfl,rx⟩:=vals1 r;cases rx;rcases h with⟨hq,q⟩ | ⟨hq,q⟩
 .obtain⟨its,r',pl,hz⟩:=I.list hq;have hlen:=r'.length;refine call_tuple_list pl.isList (fun h' kp=>?_) (by simp only[List.size_toArray] <;> omega)
  have I1:Inv X pins σ H {s with heap:=h'}:=I.kept (t':=s.toks) kp
  have I2:Inv X pins σ (upd H h'.objs.size (.tup ys)) {s with heap:=h'.push {cls:= .type "tuple",data:= .seq its.toArray}}:=
   I1.laid (t':=s.toks) (fun b o e=>Heap.get?_push_of_some _ e) (Nat.le_refl _) (show fE X.prog X.w _ _ _ (.tup ys) from⟨hz,its,r',IsTup.new _ _⟩)
  exact⟨.ref h'.objs.size,_,I2,rfl,q _ (I1.hok.fresh (Nat.le_refl _))⟩
 .obtain⟨its,r',pl,hz⟩:=I.tuple hq;exact call_tuple_same pl ⟨.ref p,H,I,rfl,q⟩
def ON(K:W.Frag)(T:String)(x:V)(H:Hp):Prop:=match x with
 | .str _=>T="str"
 | .int _=>T="int"
 | .ref p=>(T="list"/\∃xs,pL K H p xs)\/(T="tuple"/\∃o,K.lookup p=some o/\o.cls= .type "tuple"/\o.dict=none)\/
    (T="dict"/\((∃kvs,H p=some (.dK kvs))\/∃kvs,H p=some (.dT kvs)))\/(T="set"/\∃S n,H p=some (.set S n))
 | _=>False
theorem Jh{pins:Vr}{s:Shared}{T:String}{x:V}{v:Value}(I:Inv X pins σ H s)(r:RelV x v)(ty:ON X.K T x H) :
 s.TypeIs v T/\∀a,v= .ref a->∃ob,s.heap.get? a=some ob/\ob.dict=none:=by
 cases x with
 | str z=>
   obtain⟨t,rfl⟩:=r;cases(show T="str" from ty)
   exact⟨typeIs_str s z t,fun _ e=>nomatch e⟩
 | int i=>
   obtain⟨t,rfl⟩:=r;cases(show T="int" from ty)
   exact⟨typeIs_int s i t,fun _ e=>nomatch e⟩
 | ref p=>
   cases r;rcases ty with⟨rfl,xs,hq⟩ | ⟨rfl,o,hk,hc,hd⟩ | ⟨rfl,hk⟩ | ⟨rfl,S,n,hk⟩
   .obtain⟨its,_,pl,_⟩:=I.list hq;refine⟨pl.isList.typeIs,fun a e=>?_⟩
    cases e;obtain⟨o,n,e,c,hd,_⟩:=pl;exact⟨o,e,hd⟩
   .refine⟨⟨o,I.AR p o hk,hc⟩,fun a e=>?_⟩
    cases e;exact⟨o,I.AR _ o hk,hd⟩
   .have z:∃o,s.heap.get? p=some o/\o.ExactDict:=by
     rcases hk with⟨kvs,hk⟩ | ⟨kvs,hk⟩
     .obtain⟨_,_,_,_,o,_,_,e,ex,_⟩:=I.hok p _ hk;exact⟨o,e,ex⟩
     .obtain⟨_,_,_,_,o,_,_,e,ex,_⟩:=I.hok p _ hk;exact⟨o,e,ex⟩
    obtain⟨o,e,ex⟩:=z;refine⟨⟨o,e,ex.1⟩,fun a e2=>?_⟩
    cases e2;exact⟨o,e,ex.2.1⟩
   .obtain⟨o,_,_,_,e,ex,_⟩:=I.hok p _ hk;refine⟨⟨o,e,ex.1⟩,fun a e2=>?_⟩
    cases e2;exact⟨o,e,ex.2.1⟩
 | _=>exact False.elim ty
def Ru(K:W.Frag)(T:String)(r:V->List V->Hp->VK->Prop)(to:TE):TE:=fun σ H Q=>to σ H fun x H1=>ON K T x H1/\r x [] H1 Q
def R5(K:W.Frag)(T:String)(r:V->List V->Hp->VK->Prop)(to:TE)(t:TA):TE:=fun σ H Q=>to σ H fun x H1=>ON K T x H1/\t σ H1 fun xs H2=>r x xs H2 Q
variable {o e:Expr} {es:List Expr} {to:TE} {t:TA} {name:Str} {apos dO:Pos} {T id:String} {r:V->List V->Hp->VK->Prop}
theorem Iw(pa:PlainAttrs T)(slot:Slot T name id)(Ur:typeOf (.builtin id)=pure (.type "method_descriptor"))(hm:SN X id r)(ho:PE X o to)(ha:PA X (e ::es) t)
 (ql:attributeBase o name X.env (eval o X.env)=eval o X.env:=by rfl)
 (xc:((backTo dO (starEach (e ::es) X.env)).all (fun x=>!x.1) && (backToKw dO (keywordEach [] X.env)).all (fun x=>x.1.isSome)
   && decide ((e ::es).length+([]:List Keyword).length+(if([]:List Keyword).isEmpty then 0 else 1) < 30))=true:=by rfl)
 (qk:(apos.endLine==dO.line)=true:=by rfl) (hs:starEach (e ::es) X.env=(false,eval e X.env) ::starEach es X.env:=by rfl) (K9:(backTo dO (starEach es X.env)).any (·.1)=false:=by rfl) :
 PE X (.Call (.Attribute o name apos) (e ::es) [] dO) (R5 X.K T r to t):=by
 intro pins s σ H Q I h;refine wpAny_Call_method_late ql xc qk rfl (eI (ho pins s σ H _ I h) fun v s1 ⟨x,H1,I1,r1,ty,q1⟩=>?_)
 obtain⟨h1,h2⟩:=Jh I1 r1 ty;refine⟨T,id,pa,slot,Ur,h1,h2,?_⟩;have hA:=ha dO pins s1 σ H1 _ I1 q1;rw[hs] at hA ⊢;refine Calls.callWith_builtin (by show(false || (backTo dO (starEach es X.env)).any (·.1))=false;rw [K9] <;> rfl) (Calls.evalArgs_plain ?_)
 exact eI hA fun us s2 ⟨vs,H2,I2,r2,q2⟩=>hm pins s2 σ H2 x vs v us Q I2 r1 r2 q2
end
def Su(X:Cx)(id:String)(r:V->List V->Hp->VK->Prop):Prop:=
 ∀(pins:Vr) (s:Shared) (σ:St) (H:Hp) (x:V) (xs:List V) (v:Value) (us:List Value) (Q:VK),Inv X pins σ H s->RelV x v->Vals xs us->r x xs H Q->
  wpAny (model X.prog X.w) X.A (call (.builtin id) (v ::us)) (EP X pins σ Q) X.xe s
theorem Vals.one:∀{x:V} {us:List Value},Vals [x] us->∃u,us=[u]/\RelV x u
 | _,_, .cons r .nil=>⟨_,rfl,r⟩
theorem Vals.rep{xs:List V}{us:List Value}(h:Vals xs us):∀k:Nat,Vals (List.replicate k xs).flatten (List.replicate k us).flatten
 | 0=> .nil
 | k+1=>by
   rw[List.replicate_succ,List.replicate_succ,List.flatten_cons,List.flatten_cons];exact Vals.append h (Vals.rep h k)
theorem foldl_rep(its:List Value):∀(k:Nat) (acc:List Value),
 List.foldl (fun x1 x2=>x1++x2) acc.toArray (List.replicate k its.toArray)=(acc++(List.replicate k its).flatten).toArray
 | 0,acc=>by simp
 | k+1,acc=>by
   have e:acc.toArray++its.toArray=(acc++its).toArray:=by simp
   have e2:(acc++its)++(List.replicate k its).flatten=acc++(List.replicate (k+1) its).flatten:=by
    rw[List.replicate_succ,List.flatten_cons,List.append_assoc]
   rw[<-e2,<-foldl_rep its k (acc++its),<-e,List.replicate_succ,List.foldl_cons]
section
variable {X:Cx} {pins:Vr} {σ:St} {H:Hp} {s:Shared} {l b:Addr} {xs ys zs:List V}
theorem Inv.OO{its its':List Value}{n:Nat}{f:Array Value->Array Value}{t':Nat}(I:Inv X pins σ H s)(hH:H l=some (.lst xs))
 (e:s.heap.get? l=some {cls:= .type "list",data:= .seq its.toArray n}) (hf:f its.toArray=its'.toArray) (hv:Vals ys its') (hz:ys.length<=sizeLine) :
 Inv X pins σ (upd H l (.lst ys)) {s with heap:=s.heap.update l (Obj.mapSeq f),toks:=t'}:=by
 have q:=PySem.IsL.update e f;rw[hf] at q;refine I.write (x:=l) (e:=l) (by rw[hH];exact trivial) (.inl rfl) (fun b' u hb hu=>(Heap.get?_update_other s.heap (Obj.mapSeq f) (Ne.symm hb)).trans hu) ⟨_,q⟩ ?_
 exact⟨hz,its',_,hv,q⟩
theorem Inv.Gy{its:List Value}{t':Nat}(I:Inv X pins σ H s)(hv:Vals ys its)(hz:ys.length<=sizeLine) :
 Inv X pins σ (upd H s.heap.objs.size (.lst ys)) {s with heap:=s.heap.push {cls:= .type "list",data:= .seq its.toArray},toks:=t'}:=
 I.laid (fun _ _ q=>Heap.get?_push_of_some _ q) (Nat.le_refl _) ⟨hz,its,0,hv,Heap.get?_push_size _ rfl⟩
theorem Inv.fresh(I:Inv X pins σ H s):H s.heap.objs.size=none:=I.hok.fresh (Nat.le_refl _)
theorem Inv.Mz(I:Inv X pins σ H s)(hH:H l=some (.lst xs)):xs.length<=sizeLine/\∃(its:List Value) (n:Nat),Vals xs its/\xs.length=its.length/\s.heap.get? l=some {cls:= .type "list",data:= .seq its.toArray n}:=by
 obtain⟨z,its,n,r,e⟩:=I.hok l _ hH;exact⟨z,its,n,r,r.length,e⟩
theorem Dg{n:Nat}(h:n<=sizeLine):Builtin.List.listTooLong n=false:=by
 unfold Builtin.List.listTooLong;exact decide_eq_false (by omega)
end
section
variable {X:Cx}
def Gi:V->List V->Hp->VK->Prop:=fun x vs H Q=>∃l xs y,x= .ref l/\vs=[y]/\H l=some (.lst xs)/\xs.length < sizeLine/\Q .cn (upd H l (.lst (xs++[y])))
theorem qA:Su X "list.append" Gi:=by
 intro pins s σ H x vs v us Q I rx rv h;obtain⟨l,xs,y,rfl,rfl,hH,hz,q⟩:=h;cases rx;obtain⟨u,rfl,ru⟩:=rv.one;obtain⟨z,its,n,r,hl,e⟩:=I.Mz hH;refine call_meets F.slot_list_append ⟨_,e,rfl⟩ F.entry_list_append (F.args_list_append_2 _ _) (PySem.list_append l its.toArray n u (by rw[List.size_toArray];omega)) ⟨e,?_⟩
 refine⟨.cn,_,I.OO (its':=its++[u]) hH e (by simp) (r.append (.cons ru .nil)) ?_,rfl,q⟩
 rw[List.length_append,List.length_singleton];omega
def Nv:V->List V->Hp->VK->Prop:=fun x vs H Q=>∃l b xs zs,x= .ref l/\vs=[.ref b]/\H l=some (.lst xs)/\H b=some (.lst zs)/\xs.length+zs.length<=sizeLine/\Q .cn (upd H l (.lst (xs++zs)))
def Sd:V->List V->Hp->VK->Prop:=fun x vs H Q=>∃l xs y,x= .ref l/\vs=[]/\H l=some (.lst xs)/\xs[xs.length - 1]? =some y/\Q y (upd H l (.lst xs.dropLast))
def O9:V->List V->Hp->VK->Prop:=fun x vs H Q=>∃l xs i k y,x= .ref l/\vs=[.int i]/\H l=some (.lst xs)/\ -(2 ^ 63)<=i/\i < 2 ^ 63/\seqIndex? i xs.length=some k/\xs[k]? =some y/\Q y (upd H l (.lst (xs.eraseIdx k)))
def MJ:V->List V->Hp->VK->Prop:=fun x vs H Q=>∃l xs,x= .ref l/\vs=[]/\H l=some (.lst xs)/\Q .cn (upd H l (.lst xs.reverse))
def Oh:V->List V->Hp->VK->Prop:=fun x vs H Q=>∃l xs,x= .ref l/\vs=[]/\H l=some (.lst xs)/\Q .cn (upd H l (.lst []))
def Sr:R2:=fun x y H Q=>∃l b xs zs,x= .ref l/\y= .ref b/\H l=some (.lst xs)/\H b=some (.lst zs)/\xs.length+zs.length<=sizeLine/\∀p,H p=none->Q (.ref p) (upd H p (.lst (xs++zs)))
def Oi:R2:=fun x y H Q=>∃l k xs,x= .ref l/\y= .int k/\H l=some (.lst xs)/\ -(2 ^ 63)<=k/\k < 2 ^ 63/\xs.length*k.toNat<=sizeLine/\
 ∀p,H p=none->Q (.ref p) (upd H p (.lst (List.replicate k.toNat xs).flatten))
theorem len_rep{α:Type}(xs:List α)(k:Nat):(List.replicate k xs).flatten.length=k*xs.length:=by
 induction k with
 | zero=>simp
 | succ k ih=>rw [List.replicate_succ,List.flatten_cons,List.length_append,ih,Nat.succ_mul,Nat.add_comm]
theorem JP:mK X (binaryOp .Mult) Oi:=by
 intro pins s σ H x y v u Q I rx ry h;obtain⟨l,k,xs,rfl,rfl,hH,h1,h2,hz,q⟩:=h;cases rx;obtain⟨t,rfl⟩:=ry;obtain⟨z,its,n,r,hl,e⟩:=I.Mz hH;have hlen:its.toArray.size*k.toNat<=sizeLine:=by rw[List.size_toArray,<-hl];exact hz
 have hcap:¬its.toArray.size*k.toNat > (2 ^ 63 - 1) / 8:=by
  have:(sizeLine:Nat)<=(2 ^ 63 - 1) / 8:=by decide
  omega
 have hfit:¬(!Builtin.List.listFitsIndex k)=true:=by
  rw[fitsIndex_both h1 h2];exact Bool.false_ne_true
 have hlong:¬Builtin.List.listTooLong (its.toArray.size*k.toNat)=true:=by
  rw[Dg hlen];exact Bool.false_ne_true
 have hnew:List.foldl (fun x1 x2=>x1++x2) #[] (List.replicate (if its.toArray.isEmpty=true then 0 else k.toNat) its.toArray)=(List.replicate k.toNat its).flatten.toArray:=by
  have f0:∀m:Nat,List.foldl (fun x1 x2=>x1++x2) #[] (List.replicate m its.toArray)=(List.replicate m its).flatten.toArray:=fun m=>by
   have:=foldl_rep its m [];rw[List.nil_append] at this;exact this
  rw[f0];cases its with
  | nil=>simp
  | cons a r'=>rw [if_neg (by simp)]
 refine wpAny_binaryOp_repeat_ref (T:="list") (U:="int") (by decide) ⟨_,e,rfl⟩ (fun s'=>typeIs_int s' k t) noFill_list_mul F.fills_int_mul F.slot_int_rmul repeat_list F.slot_int_index.lookup
  (call_meets F.slot_int_rmul (typeIs_int s k t) F.entry_int_rmul (F.args_int_rmul_2 _ _) (int___rmul___int_list k t l its.toArray n)
    ⟨e,rfl,⟨_,e,rfl⟩,call_meets F.slot_list_mul ⟨_,e,rfl⟩ F.entry_list_mul (F.args_list_mul_2 _ _) (AutoListH.list___mul___list_int_3 l its.toArray n k t hfit hcap hlong) ⟨e,?_⟩⟩)
 rw[hnew];exact⟨.ref _,_,I.Gy (t':=s.toks) (r.rep k.toNat) (by rw[len_rep,Nat.mul_comm];exact hz),rfl,q _ I.fresh⟩
end
section
variable {prog:Program} {w:World} {A:Around} {E:Vs} {s:Shared}
set_option maxRecDepth 100000 in
end
section
variable {X:Cx}
end
end L2
namespace Att
open PySem PySem.W PySem.Calls PyProof.Rows
theorem rN{P:Params}:∀(ns:List Int) (vs:List Value),WellAll P h vs (ns.map WData.int)->IntsAre vs ns:=by
 intro ns
 induction ns with
 | nil=>
   intro vs w;rw[List.map_nil] at w;cases w;exact .nil
 | cons n ns ih=>
   intro vs w;rw[List.map_cons] at w;cases w with
   | cons a b=>
     cases a;exact .cons _ _ (ih _ b)
theorem CC{l:OpenLaw}{n:Nat}(hn:l.most=some n){P:Params}{h:Heap}{args:List WData}{vals:List Value}
 (HV:l.row.toRowW.claim.pre args=true) (Ar:WellAll P h vals args) :
 ∃a vs ns,vals=[Value.ref a]/\args=[WData.list (ns.map WData.int)]/\h.get? a=some {cls:= .type "list",data:= .seq vs.toArray}/\IntsAre vs ns/\ns.length<=n:=by
 have hsh:WShape.hasAll [] args [.list .int]=true:=(pre_splitW HV).1;have hc:l.pre.holds [] {args:=args}=true:=(pre_splitW HV).2;obtain⟨d,r,rfl,h1,h2⟩:=hasAllW_cons hsh;obtain rfl:=hasAllW_nil h2;obtain⟨xs,rfl,h3⟩:=hasW_list h1;obtain⟨ns,rfl⟩:=items_int h3;have hlen:ns.length<=n:=by
  unfold OpenLaw.pre at hc;have h4:(WTm.not (.lt (.lit (.int (n:Int))) (.len (.arg 0)))).holds [] {args:=[.list (ns.map .int)]}=true:=by
   have h4:=(holds_andW hc).1;rw[hn] at h4;exact h4
  have h5:=condW_of h4 (w_not (w_lt w_lit (w_len_list (w_arg rfl))));rw[List.length_map] at h5;refine Nat.le_of_not_lt fun q=>?_
  have q':(n:Int) < ((ns.length:Nat):Int):=by omega
  first
   | (rw [decide_eq_true q'] at h5;exact absurd h5 (by decide))
   | (simp at h5;omega)
 cases Ar with
 | cons w1 w2=>
   cases w2;cases w1 with
   | list ho Fp=>exact⟨_,_,ns,rfl,rfl,ho,rN ns _ Fp,hlen⟩
theorem BZ(l:OpenLaw)(args:List WData):l.row.toRowW.claim.post args (.bool true) args=true:=
 postW_of (r:=l.row.toRowW) (X:=(true==true))
  (show WShape.has [] (.bool true) .bool=true by first | rfl | decide | simp [WShape.has,WShape.arms,WShape.armsAll])
  (show(WTm.eq .res (.lit (.bool true))).value [] {args:=args,res:=some (.bool true),after:=args}=some (.bool (true==true)) from w_eq_bool (w_res rfl) w_lit) rfl
theorem x5{l:OpenLaw}{n:Nat}{q:Program}{loose:List Str}{XP:(Str->Option Value)->Heap->Prop}{YP:World->Heap->Prop}{d:DefRec}
 (hn:l.most=some n) (PR:d.params.defaults=[])
 (call:∀(w:World) (s₀ s₁:Shared) (mg mb:Vw) (fa:Addr) (o:Obj) (pm cd doc:Value) (a:Addr) (vs:List Value) (ns:List Int),
   Ground q loose [] XP w s₀ mg mb s₁.heap->YP w s₁.heap->
   s₁.heap.get? fa=some o->o.data= .func (docDef d.name d.params d.body d.scope pm cd doc)->s₁.heap.CodeRec cd d.name->mg d.name=some (.ref fa)->
   s₁.heap.get? a=some {cls:= .type "list",data:= .seq vs.toArray}->IntsAre vs ns->ns.length<=n->s₁.gens=#[]->
   codeAny (model l.prog w) callerA (.call (.ref fa) ⟨[.ref a],[]⟩) (fun r s'=>r= .ok (.ret (.bool true))/\OldK s₁.heap s'.heap/\s'.os=s₁.os/\AllBare s'.gens) s₁) :
 WalkO q loose XP YP l.row.toRowW d [] (fun f vs=>PySem.call f vs):=by
 intro w s₀ s₁ mg mb G Y fa o pm cd doc dV kV ho hd uk hD Nk hg args vals as HV hlay hrd Ar hlo;obtain rfl:dV= .none:=Dflts.none hD PR;obtain rfl:kV= .none:=Dflts.noKw hD;obtain⟨a,vs,ns,rfl,rfl,K7,hints,hlen⟩:=CC hn HV Ar;refine enter_call (codeAny_mono (call w s₀ s₁ mg mb fa o pm cd doc a vs ns G Y ho (fd_plain hd) uk Nk K7 hints hlen hg) fun r s' hq=>?_)
 obtain⟨rfl,h2,h3,h4⟩:=hq;exact⟨.inl ⟨.bool true, .bool true,[],rfl,fun _=>rfl, .bool true,BZ l _,fun _=>⟨List.Pairwise.nil,fun _ hm=>(nomatch hm)⟩⟩,h2,h3,h4⟩
section
variable {prog:Program} {w:World} {A:Around} {E:Vs} {s:Shared} {K:Frag}
def OV(h:Heap):Heap:={h with objs:=#[]}
def ledger(h:Heap)(L d:Addr):Vr:=(List.range h.objs.size).filterMap fun a=>if a=L\/a=d then none else(h.get? a).map fun o=>(a,o)
end
end Att
namespace L2
open PySem PySem.Spec PyProof.Rows
theorem vw:∀{vs:List Value} {ns:List Int},IntsAre vs ns->Vals (ns.map V.int) vs
 | _,_, .nil=> .nil
 | _,_, .cons n t h=> .cons ⟨t,rfl⟩ (vw h)
def Mh(H:Hp):Prop:=∀b,H b=none\/∃o xs,H b=some (.ki o (.lst xs))
abbrev ft{K:W.Frag}{h:Heap}(_:K.In h):W.Frag:=K
def inClass(s:Stmt)(j:Nat):Stmt:=match s with
 | .ClassDef _ _ _ body _ _ _ _ _ _ _=>body.getD j (.Pass ⟨0,0,0,0⟩)
 | _=> .Pass ⟨0,0,0,0⟩
def fV(s:Stmt):Arguments:=match s with
 | .FunctionDef _ a _ _ _ _ _ _ _ _=>a
 | _=>{posonlyargs:=[],args:=[],vararg:=none,kwonlyargs:=[],kw_defaults:=[],kwarg:=none,defaults:=[]}
def aJ(s:Stmt):List Stmt:=match s with
 | .FunctionDef _ _ b _ _ _ _ _ _ _=>b
 | _=>[]
def ax(s:Stmt):Scope:=match s with
 | .FunctionDef _ _ _ _ _ _ sc _ _ _=>sc
 | _=>{kind:= .function,names:=[],isGenerator:=false,isCoroutine:=false}
abbrev uI:DG:=fun _ _ _ _ _ _=>False
abbrev E0:XK:=fun _ _ _=>False
theorem xO{X:Cx}:Passes uI X E0:=fun _ _ _ _ _ _ _ h=>h.elim
structure Bj (K:W.Frag) (x qual:Str) (st:Stmt) (f:Addr) (fd:FuncData):Prop where
 ex:∃(oc:Value) (od:Option Addr) (kV doc pm:Value) (an:Option Addr) (dY ct:Value) (FY:Array (Option Value)),
  fd=PySem.W.fnOf x qual (fV st) (aJ st) (ax st) .none kV doc pm an dY ct/\K.lookup f=some ⟨oc,od, .func fd,FY⟩/\PySem.W.codeIn K dY qual=true
 kp:PySem.W.keepIn K (.ref f)=true
section
variable {P:Program} {w:World} {K:W.Frag} {mg:Vw} {base:Heap}
theorem Bj.ok{x qual:Str}{st:Stmt}{f:Addr}{fd:FuncData}{N ps:List Str}{k:Nat}{sp:Sp}(F:Bj K x qual st f fd)(S:aR N ps (ax st))(len:∀vs H Q E,sp vs H Q E->vs.length=ps.length)
 (lR:∀(dY:Value) (A:Around) (outer:List Env) (s:Shared) (H:Hp) (vs:List V) (Q:VK) (E:XK),eV k (A.deeper (envOfC qual (ax st) s.heap.objs.size f dY))->sp vs H Q E->
   ∃t,xm (tH uI P w K mg base N qual (ax st) f dY A outer s H E).HH (aJ st) t/\t {nx:=fun _ H'=>Q .cn H',rt:=Q} (start N vs) H):jg P w K mg base uI (k+1) f fd ps sp:=by
 obtain⟨oc,od,kV,doc,pm,an,dY,ct,FY,rfl,lk,uk⟩:=F.ex;refine LJ lk uk S len fun A outer s H vs Q E hr Lv=>?_
 obtain⟨t,h,q⟩:=lR dY A outer s H vs Q E hr Lv;exact⟨t,h.HH,q⟩
theorem Bj.binds{x qual:Str}{st:Stmt}{f:Addr}{fd:FuncData}{ps:List Str}(F:Bj K x qual st f fd)
 (h:∀(kV doc pm:Value) (an:Option Addr) (dY ct:Value) (us:List Value),us.length=ps.length->bindArgs (PySem.W.fnOf x qual (fV st) (aJ st) (ax st) .none kV doc pm an dY ct) ⟨us,[]⟩=pure (ps.zip us)):Binds K fd ps []:=by
 obtain⟨oc,od,kV,doc,pm,an,dY,ct,FY,rfl,lk,uk⟩:=F.ex;exact .all (h kV doc pm an dY ct)
theorem mW{x qual:Str}{st:Stmt}{f:Addr}{oc:Value}{od an:Option Addr}{FY:Array (Option Value)}{kV doc pm dY ct:Value}(l:K.lookup f=some ⟨oc,od, .func (PySem.W.fnOf x qual (fV st) (aJ st) (ax st) .none kV doc pm an dY ct),FY⟩)
 (c:PySem.W.codeIn K dY qual=true) (k:PySem.W.keepIn K (.ref f)=true):Bj K x qual st f (PySem.W.fnOf x qual (fV st) (aJ st) (ax st) .none kV doc pm an dY ct):=⟨⟨oc,od,kV,doc,pm,an,dY,ct,FY,rfl,l,c⟩,k⟩
end
theorem LP{A:Around}{k:Nat}(hr:eV k A):A.units+1 < cLine:=Nat.lt_of_le_of_lt (Nat.add_le_add_left (by decide:1<=64) _) hr.units
section
variable {X:Cx}
end
theorem Hz{A B:Prop}(h:B):if false=true then A else B:=by
 rw[if_neg Bool.false_ne_true];exact h
theorem GV{A B:Prop}(h:A):if true=true then A else B:=by
 rw[if_pos rfl];exact h
def aO(H H':Hp):Prop:=∀b o,H b=some o->H' b=some o
theorem aO.refl(H:Hp):aO H H:=fun _ _ h=>h
theorem aO.trans(a:aO H H1)(b:aO H1 H2):aO H H2:=fun c o h=>b c o (a c o h)
theorem aO.free{H H':Hp}(e:aO H H'){l:Addr}(h:H' l=Option.none):H l=Option.none:=by
 cases q:H l with
 | none=>rfl
 | some o=>
   rw[e l o q] at h;cases h
section
variable {κ:Type} [DecidableEq κ]
end
end L2
end
section
namespace L2
open PySem PySem.Spec PyProof.Rows
def n6(cells:List (Str × Addr)):List (Str × NameKind)->List (Str × Addr)->List (Str × Addr)
 | [],acc=>acc
 | (n,k) ::r,acc=>n6 cells r (if k==NameKind.free then(n,(cells.lookup n).getD 0) ::acc else acc)
theorem ma{env:Env}:∀(names:List (Str × NameKind)) (acc:List (Str × Addr)),(∀y∈names,y.2= .free->∃c,env.cells.lookup y.1=some c)->
 (forIn names acc fun(x:Str × NameKind) (cs:List (Str × Addr))=>(match x with
   | (name,kind)=>if kind== .free then do let a <-cellOf env name;pure (ForInStep.yield ((name,a) ::cs)) else pure (ForInStep.yield cs):Sem (ForInStep (List (Str × Addr)))))=pure (n6 env.cells names acc)
 | [],acc,_=>by simp [n6]
 | (n,k) ::r,acc,h=>by
   rw[List.forIn_cons];by_cases hk:k=NameKind.free
   .subst hk;obtain⟨c,hc⟩:=h (n, .free) List.mem_cons_self rfl;have e:cellOf env n=pure c:=by unfold cellOf;rw [hc]
    simp only[beq_self_eq_true,if_true,e,pure_bind,n6,hc,Option.getD_some];exact ma r _ fun y hy=>h y (List.mem_cons_of_mem _ hy)
   .have hb:(k==NameKind.free)=false:=by simpa using hk
    simp only[hb,Bool.false_eq_true,if_false,pure_bind,n6];exact ma r _ fun y hy=>h y (List.mem_cons_of_mem _ hy)
theorem mw{env:Env}{scope:Scope}(h:∀y∈scope.names,y.2= .free->∃c,env.cells.lookup y.1=some c):closureFor scope env=pure (n6 env.cells scope.names []):=by
 unfold closureFor;have:=ma (env:=env) scope.names [] h;simp only[bind_pure];exact this
theorem km{cells:List (Str × Addr)}:∀(names:List (Str × NameKind)) (acc:List (Str × Addr)) {x:Str} {c:Addr},(n6 cells names acc).lookup x=some c->
 acc.lookup x=some c\/((x,NameKind.free)∈names/\c=(cells.lookup x).getD 0)
 | [],acc,x,c,h=> .inl h
 | (n,k) ::r,acc,x,c,h=>by
   rcases km r _ h with q | ⟨q1,q2⟩
   .by_cases hk:k=NameKind.free
    .subst hk;simp only[beq_self_eq_true,if_true] at q;cases hx:x==n with
     | true=>
       have e:x=n:=by simpa using hx
       subst e;rw[List.lookup_cons,hx] at q;exact .inr ⟨List.mem_cons_self,(Option.some.inj q).symm⟩
     | false=>
       rw[List.lookup_cons,hx] at q;exact .inl q
    .have hb:(k==NameKind.free)=false:=by simpa using hk
     simp only[hb,Bool.false_eq_true,if_false] at q;exact .inl q
   .exact .inr ⟨List.mem_cons_of_mem _ q1,q2⟩
theorem xE{cells:List (Str × Addr)}:∀(names:List (Str × NameKind)) (acc:List (Str × Addr)) {x:Str},((x,NameKind.free)∈names\/∃c,acc.lookup x=some c)->∃c,(n6 cells names acc).lookup x=some c
 | [],acc,x,h=>by
   rcases h with h | h
   .simp at h
   .exact h
 | (n,k) ::r,acc,x,h=>by
   refine xE r _ ?_;rcases h with h | ⟨c,h⟩
   .rcases List.mem_cons.mp h with e | e
    .cases e;exact .inr ⟨(cells.lookup n).getD 0,by simp [List.lookup_cons]⟩
    .exact .inl e
   .by_cases hk:k=NameKind.free
    .subst hk;simp only[beq_self_eq_true,if_true];cases hx:x==n with
     | true=>exact .inr ⟨(cells.lookup n).getD 0,by rw[List.lookup_cons,hx]⟩
     | false=>exact .inr ⟨c,by rw[List.lookup_cons,hx];exact h⟩
    .have hb:(k==NameKind.free)=false:=by simpa using hk
     simp only[hb,Bool.false_eq_true,if_false];exact .inr ⟨c,h⟩
theorem wb:∀(names:List (Str × NameKind)) (n:Nat) (acc:List (Str × Addr)) {x:Str},(x,NameKind.cell) ∉ names->(cellsFrom n names acc).lookup x=acc.lookup x
 | [],_,_,_,_=>rfl
 | (y,k) ::r,n,acc,x,h=>by
   unfold cellsFrom;split
   .rename_i hk;have hk:k= .cell:=by simpa using hk
    subst hk;rw[wb r _ _ fun z=>h (List.mem_cons_of_mem _ z),List.lookup_cons]
    cases hx:x==y with
    | true=>
      have e:x=y:=by simpa using hx
      subst e;exact absurd List.mem_cons_self h
    | false=>rfl
   .exact wb r _ _ fun z=>h (List.mem_cons_of_mem _ z)
theorem oF:∀(names:List (Str × NameKind)) (n:Nat) (acc:List (Str × Addr)),cellsFrom n names acc=cellsFrom n names []++acc
 | [],_,_=>rfl
 | (y,k) ::r,n,acc=>by
   unfold cellsFrom;split
   .rw [oF r (n+1) ((y,n) ::acc),oF r (n+1) [(y,n)],List.append_assoc];rfl
   .exact oF r n acc
theorem zc{a b:List (Str × Addr)}{c:Addr}(h:(a++b).lookup x=some c):(x,c)∈a\/b.lookup x=some c:=by
 induction a with
 | nil=>exact .inr h
 | cons y r ih=>
   obtain⟨n,v⟩:=y;rw[List.cons_append,List.lookup_cons] at h;cases hx:x==n with
   | true=>
     rw[hx] at h;have e:x=n:=by simpa using hx
     subst e;cases h;exact .inl List.mem_cons_self
   | false=>
     rw[hx] at h;exact(ih h).imp (List.mem_cons_of_mem _) id
theorem mN{a b:List (Str × Addr)}(h:∃c,b.lookup x=some c):∃c,(a++b).lookup x=some c:=by
 induction a with
 | nil=>exact h
 | cons y r ih=>
   rw[List.cons_append,List.lookup_cons];cases x==y.1 with
   | true=>exact⟨_,rfl⟩
   | false=>exact ih
theorem vO{a b:List (Str × Addr)}{c:Addr}(h:a.lookup x=some c):∃c,(a++b).lookup x=some c:=by
 induction a with
 | nil=>cases h
 | cons y r ih=>
   rw[List.cons_append,List.lookup_cons];rw[List.lookup_cons] at h;cases hx:x==y.1 with
   | true=>exact⟨_,rfl⟩
   | false=>rw [hx] at h;exact ih h
theorem uS{M:Model}{A:Around}{E:Vs}{s:Shared}{scope:Scope}{cl:List (Str × Addr)}{qual:Str}{env:Env}{Q:Env->Shared->Prop}(hQ:∀h',h'.Ns s.heap.objs.size (fun _=>none)->(∀b o,s.heap.get? b=some o->h'.get? b=some o)->CellsOk h' (s.heap.objs.size+1) (cellsFrom (s.heap.objs.size+1) scope.names [])->
 Q (newEnv scope s.heap.objs.size env.globals (cellsFrom (s.heap.objs.size+1) scope.names cl) qual none .none (some env) builtinsNs) {s with heap:=h'}) :
 wpAny M A (newFunctionEnv scope env.globals cl [] qual none .none (some env)) Q E s:=by
 simp only[newFunctionEnv,Option.isSome_some,if_true];refine wpAny_bind (wpAny_alloc ?_);refine wpAny_bind (wpAny_layCells _ (fun name kind cells=>by cases hkc:kind==NameKind.cell <;> simp [hkc]) _ _ _ _ ?_)
 have ok:=cellsFrom_ok scope.names (s.heap.push {cls:= .type "dict",data:= .dict #[]}) (s.heap.objs.size+1) [] ⟨fun _ _ hm=>(nomatch hm),List.Pairwise.nil⟩ (by rw[Heap.size_push];exact Nat.le_refl _)
 rw[Heap.size_push] at ok;rw[show({s with heap:=s.heap.push {cls:= .type "dict",data:= .dict #[]}}:Shared).heap.objs.size=s.heap.objs.size+1 from Heap.size_push ..]
 rw[List.forIn_nil];refine wpAny_bind (wpAny_pure (wpAny_pure ?_));exact hQ _ ((Heap.Ns.new s.heap (.type "dict")).keeps (pushCells_keeps _ _)) (fun b o e=>pushCells_keeps _ _ b o (Heap.get?_push_of_some _ e)) ok
def bR(X:Cx)(scope:Scope)(N':List Str)(fp:List Addr)(s:Shared)(H:Hp):Cx where
 prog:=X.prog
 w:=X.w
 K:=X.K
 mg:=X.mg
 base:=X.base
 A:=X.A
 N:=N'
 s₀:=s
 H₀:=H
 env:=compEnvC scope (cellsFrom (s.heap.objs.size+1) scope.names (n6 X.env.cells scope.names [])) s.heap.objs.size X.env
 outer:=X.stack
 stack:=X.stack
 ex:=fp
 fn:=fun x=>scope.names.lookup x==some .cell
 calm:=X.calm
 pn:=[]
 xe:=fun _ _=>False
structure bG (X:Cx) (scope:Scope) (own:List Str) (kp:List Nat) (kn:List Str):Prop where
 kind:scope.kind= .function
 cel:∀y∈scope.names,y.2= .cell->scope.names.lookup y.1=some .cell
 nd:∀y∈scope.names,y.2= .local->scope.names.lookup y.1=some .local
 free:∀y∈scope.names,y.2= .free->X.env.kindOf y.1=some .cell\/X.env.kindOf y.1=some .free
 frl:∀y∈scope.names,y.2= .free->scope.names.lookup y.1=some .free
 names:kn.length=kp.length
 at_:∀(j i:Nat) (x:Str),kp[j]? =some i->kn[j]? =some x->X.N[i]? =some x
 isfree:∀x∈kn,scope.names.lookup x=some .free
def dS(own:List Str)(kp:List Nat)(σ:St):St:=List.replicate own.length none++kp.map fun i=>(σ[i]?).getD none
section
variable {X:Cx} {scope:Scope} {own:List Str} {kp:List Nat} {kn:List Str}
theorem e_{env:Env}:∀{names:List (Str × NameKind)} {x:Str} {k:NameKind},
 (names.map fun(n,k)=>if(k==NameKind.free && env.scope.kind== .function && env.kindOf n==some .cell) then(n,NameKind.cell) else(n,k)).lookup x=some k->
 names.lookup x=some k\/(k= .cell/\names.lookup x=some .free)
 | [],_,_,h=>by simp at h
 | (n,k) ::r,x,k',h=>by
   have ih:=@e_ env r x k';have h:List.lookup x ((if(k==NameKind.free && env.scope.kind== .function && env.kindOf n==some .cell)=true then(n,NameKind.cell) else(n,k)) ::_)=some k':=h
   by_cases hc:(k==NameKind.free && env.scope.kind== .function && env.kindOf n==some .cell)=true
   .rw [if_pos hc] at h;have hkf:k= .free:=by
     simp only[Bool.and_eq_true,beq_iff_eq] at hc;exact hc.1.1
    cases hx:x==n with
    | true=>
      rw[List.lookup_cons,hx] at h;cases h;exact .inr ⟨rfl,by rw[List.lookup_cons,hx,hkf]⟩
    | false=>
      rw[List.lookup_cons,hx] at h;rw[List.lookup_cons,hx];exact ih h
   .rw [if_neg hc] at h;cases hx:x==n with
    | true=>
      rw[List.lookup_cons,hx] at h;rw[List.lookup_cons,hx];exact .inl h
    | false=>
      rw[List.lookup_cons,hx] at h;rw[List.lookup_cons,hx];exact ih h
theorem oI{pins:Vr}{s:Shared}(C:bG X scope own kp kn)(I:Inv X pins σ H s):∀y∈scope.names,y.2= .free->∃c,X.env.cells.lookup y.1=some c:=fun y hy hf=>
 I.ok.has y.1 (C.free y hy hf)
theorem Fb{pins:Vr}{σ:St}{H:Hp}{s:Shared}{fp:List Addr}{i4:Heap}{tk:Nat}(C:bG X scope own kp kn)(I:Inv X pins σ H s)(hf:∀b∈fp,rE X pins H b)(hb:∀b∈fp,b < s.heap.objs.size)
 (hn:i4.Ns s.heap.objs.size (fun _=>none)) (hk:∀b o,s.heap.get? b=some o->i4.get? b=some o) (hC:CellsOk i4 (s.heap.objs.size+1) (cellsFrom (s.heap.objs.size+1) scope.names [])):Inv (bR X scope (own++kn) fp s H) [] (dS own kp σ) H {s with heap:=i4,toks:=tk}:=by
 have cl:∀x c,(n6 X.env.cells scope.names []).lookup x=some c->X.env.cells.lookup x=some c:=fun x c e=>by
  rcases km scope.names [] e with q | ⟨q1,q2⟩
  .simp at q
  .obtain⟨c',CY⟩:=oI C I (x, .free) q1 rfl;have CY:X.env.cells.lookup x=some c':=CY;rw[CY] at q2;rw[CY,q2];rfl
 have clA:∀x c,(cellsFrom (s.heap.objs.size+1) scope.names (n6 X.env.cells scope.names [])).lookup x=some c->(x,c)∈cellsFrom (s.heap.objs.size+1) scope.names []\/(n6 X.env.cells scope.names []).lookup x=some c:=fun x c e=>by
  rw[oF] at e;exact zc e
 have old:∀x c,(n6 X.env.cells scope.names []).lookup x=some c->c < s.heap.objs.size:=fun x c e=>by
  obtain⟨v,h⟩:=I.cell x c (cl x c e);exact h.lt
 have new:∀x c,(x,c)∈cellsFrom (s.heap.objs.size+1) scope.names []->s.heap.objs.size<=c:=fun x c e=>Nat.le_of_lt (hC.empty x c e).2
 have clh:∀x,scope.names.lookup x=some .free->∃c,(n6 X.env.cells scope.names []).lookup x=some c:=fun x hx=>xE scope.names [] (.inl (PySem.mem_of_lookup hx))
 refine⟨⟨I.ok.mod,C.kind,I.ok.glob,I.ok.blt,Nat.le_refl _,fun x y c h1 h2=>?inj,fun x hx=>?_,fun x c hn h=>?cab,I.ok.hd,I.ok.frames, .inl rfl,fun b xi=>⟨Nat.ne_of_lt (hb b xi),fun x c e z=>?exf⟩,
  fun b o e=>I.bs b o e,Nat.le_trans I.ok.bsz I.sz,fun b o e xi=>?_,fun b xi hs=>?_,I.stack,I.A4⟩,
  rfl,I.bare,Un.kept hk,⟨_,hn,fun i x v h1 h2 h3=>?_⟩,fun x c e=>?_,I.hok.fresh (Nat.le_refl _),fun x c e=>?frc,fun p hp=>(by cases hp),I.hok.kept hk,?_⟩
 case inj=>
  rcases clA x c h1 with a | a <;> rcases clA y c h2 with b | b
  .exact name_of_addr hC.apart a b
  .exact absurd (Nat.lt_of_lt_of_le (old y c b) (new x c a)) (Nat.lt_irrefl _)
  .exact absurd (Nat.lt_of_lt_of_le (old x c a) (new y c b)) (Nat.lt_irrefl _)
  .exact I.ok.inj x y c (cl x c a) (cl y c b)
 case cab=>
  have hn:(scope.names.lookup x==some .cell)=true:=hn;rcases clA x c h with a | a
  .exact new x c a
  .rcases km scope.names [] a with q | ⟨q1,q2⟩
   .simp at q
   .have hx:scope.names.lookup x=some .cell:=by simpa using hn
    have h7:scope.names.lookup x=some .free:=C.frl _ q1 rfl;rw[hx] at h7;cases h7
 case exf=>
  rcases clA x c e with a | a
  .subst z;exact absurd (Nat.lt_of_lt_of_le (hb _ xi) (new x _ a)) (Nat.lt_irrefl _)
  .exact(hf b xi).2.2.2.2.1 x c (cl x c a) z
 case frc=>
  rcases clA x c e with a | a
  .exact I.hok.fresh (new x c a)
  .exact I.freeC x c (cl x c a)
 .have hx:(relabel scope X.env).names.lookup x=some .cell\/(relabel scope X.env).names.lookup x=some .free:=hx;show ∃c,(cellsFrom (s.heap.objs.size+1) scope.names (n6 X.env.cells scope.names [])).lookup x=some c;rcases hx with hx | hx
  .rcases e_ hx with q | ⟨_,q⟩
   .rw [oF];obtain⟨c,hc⟩:=tp (n:=s.heap.objs.size+1) q;exact vO hc
   .rw [oF];exact mN (clh x q)
  .rcases e_ hx with q | ⟨q,_⟩
   .rw [oF];exact mN (clh x q)
   .cases q
 .rcases(hf b xi).2.2.2.1 with z | z
  .exact I.ok.noex b o e z
  .exact absurd (Nat.lt_of_lt_of_le (Heap.lt_size (I.ok.bs b o e).1) z) (Nat.lt_irrefl _)
 .rcases List.mem_cons.mp (I.y_ b hs) with z | z
  .exact(hf b xi).2.1 z
  .exact(hf b xi).2.2.1 z
 .-- a kept name
  have h1:(own++kn)[i]? =some x:=h1;have h2:(dS own kp σ)[i]? =some (some v):=h2;unfold dS at h2;by_cases hi:i < own.length
  .rw [List.getElem?_append_left (by simpa using hi),List.getElem?_replicate] at h2
   split at h2 <;> cases h2
  .rw [List.getElem?_append_right (by simpa using hi),List.length_replicate,List.getElem?_map] at h2
   rw[List.getElem?_append_right (by simpa using hi)] at h1
   cases e:kp[i - own.length]? with
   | none=>rw [e] at h2;cases h2
   | some j=>
     rw[e] at h2;have h2:(σ[j]?).getD none=some v:=Option.some.inj h2;have hj:X.N[j]? =some x:=C.at_ _ j x e h1;have HW:σ[j]? =some (some v):=by
      cases q:σ[j]? with
      | none=>rw [q] at h2;cases h2
      | some y=>rw [q] at h2;exact congrArg some h2
     have hfree:scope.names.lookup x=some .free:=C.isfree x (List.mem_of_getElem? h1);have hkind:=C.free (x, .free) (PySem.mem_of_lookup hfree) rfl;obtain⟨m,hm,hl⟩:=I.loc;obtain⟨u,r,l⟩:=hl j x v hj HW (hkind.elim (fun q=>Or.inr (Or.inl q)) fun q=>Or.inr (Or.inr q))
     refine⟨u,r, .inr ⟨?_,?_⟩⟩
     .have h3:(relabel scope X.env).names.lookup x=some .local\/(relabel scope X.env).names.lookup x=some .cell\/(relabel scope X.env).names.lookup x=some .free:=h3;rcases h3 with q | q | q
      .rcases e_ q with z | ⟨z,_⟩
       .rw [hfree] at z;cases z
       .cases z
      .exact .inl q
      .exact .inr q
     .rcases l with⟨k,_⟩ | ⟨_,c,hc,hcell⟩
      .rcases hkind with q | q
       .rw [show X.env.kindOf x=some .cell from q] at k;cases k
       .rw [show X.env.kindOf x=some .free from q] at k;cases k
      .obtain⟨c',CY⟩:=clh x hfree;have:=cl x c' CY;rw[hc] at this;cases this;obtain⟨o,ho,hd⟩:=hcell;exact⟨c,(wb _ _ _ fun z=>by have:=C.cel _ z rfl;rw [hfree] at this;cases this).trans CY,o,hk c o ho,hd⟩
 .rcases clA x c e with a | a
  .exact⟨_,(hC.empty x c a).1⟩
  obtain⟨v,o,ho,hd⟩:=I.cell x c (cl x c a);exact⟨v,o,hk c o ho,hd⟩
 .show(dS own kp σ).length=(own++kn).length;unfold dS;rw[List.length_append,List.length_replicate,List.length_map,List.length_append,C.names]
theorem sI{pins:Vr}{s s':Shared}{fp:List Addr}{N':List Str}(I:Inv X pins σ H s)(hf:∀b∈fp,rE X pins H b)(J:Inv (bR X scope N' fp s H) [] dw H' s'):Inv X pins σ H' s':=
 I.MU (ch:=fp) J.os J.base J.hok J.bare fun b hb=>⟨(hf b hb).2.2.2.1,(hf b hb).2.1,(hf b hb).2.2.2.2.1,(hf b hb).2.2.2.2.2⟩
end
def qx(X:Cx)(ifs:List Expr)(t:TT):Prop:=
 ∀(pins:Vr) (s:Shared) (σ:St) (H:Hp) (Q:Bool->Hp->Prop),Inv X pins σ H s->t σ H Q->
  wpAny (model X.prog X.w) X.A (forIn ifs true fun c r=>if r=true then do let ok <-isTrue c X.env (eval c X.env);pure (ForInStep.yield ok) else pure (ForInStep.yield r)) (TP X pins σ Q) X.xe s
def O1:TT:=fun _ H Q=>Q true H
theorem yK{X:Cx}:qx X [] O1:=fun _ _ _ H _ I h=>wpAny_tests_nil ⟨H,I,h⟩
theorem xv{X:Cx}{t:TT}(h:PT X c t):qx X [c] t:=fun pins s σ H Q I hq=>wpAny_tests_one (h pins s σ H Q I hq)
def A7(wi:TI)(g:TG)(tc:TT)(te:TE)(own:List Str)(kp:List Nat):TE:=fun σ H Q=>wi σ H fun J H1=>∀D,H1 D=none->
 ∃W:Nat->Nat->List V->Hp->Prop,(∃m,W 0 m [] (upd H1 D (.lst [])))/\∀i m ys H,W i m ys H->
  (J.stop i H/\Q (.ref D) H)\/(J.go i H/\∀x H',J.yld i H x H'->g x (dS own kp σ) H' fun xj H2=>tc xj H2 fun c H3=>
    if c=true then te xj H3 fun y H4=>H4 D=some (.lst ys)/\ys.length < sizeLine/\∃m',m' < m/\W (i+1) m' (ys++[y]) (upd H4 D (.lst (ys++[y])))
    else ∃m',m' < m/\W (i+1) m' ys H3)
section
variable {X:Cx} {scope:Scope} {own:List Str} {kp:List Nat} {kn:List Str} {tg iter elt:Expr} {ifs:List Expr} {wi:TI} {g:TG} {tc:TT} {te:TE} {pos:Pos}
theorem xG{pins:Vr}{σ:St}{H:Hp}{s:Shared}{fp:List Addr}{it D:Addr}{tn:Nat->Heap->Prop}{J:It}{Q:VK}{i4:Heap}{tk:Nat}{R:Result->Shared->Prop}
 (hc:X.calm=true) (C:bG X scope own kp kn) (I:Inv X pins σ H s) (hf:∀b∈fp,rE X pins H b) (hb:∀b∈fp,b < s.heap.objs.size) (T:Turn X.prog X.w X.K tg J fp it tn)
 (hg:PG (bR X scope (own++kn) fp s H) tg g) (hi:qx (bR X scope (own++kn) fp s H) ifs tc) (he:PE (bR X scope (own++kn) fp s H) elt te)
 (hn:i4.Ns s.heap.objs.size (fun _=>none)) (hk:∀b o,s.heap.get? b=some o->i4.get? b=some o) (hC:CellsOk i4 (s.heap.objs.size+1) (cellsFrom (s.heap.objs.size+1) scope.names [])) (st:tn 0 s.heap)
 (W:Nat->Nat->List V->Hp->Prop) (w0:∃m,W 0 m [] H)
 (turn:∀i m ys H,W i m ys H->
   (J.stop i H/\Q (.ref D) H)\/(J.go i H/\∀x H',J.yld i H x H'->g x (dS own kp σ) H' fun xj H2=>tc xj H2 fun c H3=>
     if c=true then te xj H3 fun y H4=>H4 D=some (.lst ys)/\ys.length < sizeLine/\∃m',m' < m/\W (i+1) m' (ys++[y]) (upd H4 D (.lst (ys++[y])))
     else ∃m',m' < m/\W (i+1) m' ys H3))
 (hR:∀H' s' dw,Inv (bR X scope (own++kn) fp s H) [] dw H' s'->Q (.ref D) H'->R (.ok .next) s') :
 codeAny (model X.prog X.w) X.A (.compStart (.ListComp elt [⟨tg,iter,ifs,0⟩] scope pos) 0 (.ref it) (.ref D) (bR X scope (own++kn) fp s H).env) R {s with heap:=i4,toks:=tk}:=by
 have I1:Inv (bR X scope (own++kn) fp s H) [] (dS own kp σ) H {s with heap:=i4,toks:=tk}:=Fb C I hf hb hn hk hC
 have Rr:tn 0 i4:=T.keep _ _ _ st fun b _ o e=>hk b o e
 have fp1:∀{H':Hp} {p:Vr},(∀b∈fp,H' b=none)->(∀b∈fp,∀q∈p,q.1≠b)->∀b∈fp,rE (bR X scope (own++kn) fp s H) p H' b:=fun {H' p} hn hp b xi=>
  ⟨hn b xi,(I1.ok.exf b xi).1,I1.ok.exfs b xi, .inl xi,fun x c e=>(I1.ok.exf b xi).2 x c e,fun q hq=>hp b xi q hq⟩
 obtain⟨m0,w0⟩:=w0;have loop:codeAny (model X.prog X.w) X.A (.compLoop (.ListComp elt [⟨tg,iter,ifs,0⟩] scope pos) 0 (.ref it) (.ref D) (bR X scope (own++kn) fp s H).env) R {s with heap:=i4,toks:=tk}:=by
  refine codeAny_loop rfl (fun n s'=>∃i ys H',Inv (bR X scope (own++kn) fp s H) [] (dS own kp σ) H' s'/\tn i s'.heap/\(∀b∈fp,H' b=none)/\W i n ys H') (fun n s' hI=>?_) m0 ⟨0,[],H,I1,Rr,fun b xi=>(hf b xi).1,w0⟩
  obtain⟨i,ys,H3,I3,HX,M9,w3⟩:=hI;show wpAny _ _ ((compTurn (.ListComp elt [⟨tg,iter,ifs,0⟩] scope pos) 0 (.ref it) (.ref D) (bR X scope (own++kn) fp s H).env).onRaise (fun x=>do noteFrame x (bR X scope (own++kn) fp s H).env;theTreesLotGoes x)) _ _ s'
  refine wpAny_noted (wpAny_noRaise ?_);rw[compTurn_list];refine wpAny_bind (wpAny_standAt (wpAny_bind ?_));rcases turn i n ys H3 w3 with⟨stop,q⟩ | ⟨go,step⟩
  .refine eI (T.done (bR X scope (own++kn) fp s H) rfl rfl rfl hc i [] s' _ H3 _ I3 (fp1 M9 (fun _ _ q hq=>by cases hq)) HX stop) fun r s4 ⟨hr,I4⟩=>?_
   subst hr;exact wpAny_pure (hR H3 s4 _ I4 q)
  .refine eI (T.item (bR X scope (own++kn) fp s H) rfl rfl rfl hc i [] s' _ H3 _ I3 (fp1 M9 (fun _ _ q hq=>by cases hq)) HX go) fun r s4 ⟨u,hr,h4⟩=>?_
   subst hr;refine wpAny_bind (eI h4 fun _ s5 ⟨x,H5,I5,r5,y5,Lc,PF⟩=>?_)
   have I5':=I5.pinned (fp1 PF (fun _ _ q hq=>by cases hq)) (T.obj _ _ Lc)
   have keepIt:∀{yP:St} {H7:Hp} {s7:Shared},Inv (bR X scope (own++kn) fp s H) ([]++oP fp s5.heap) yP H7 s7->tn (i+1) s7.heap/\∀b∈fp,H7 b=none:=fun {yP H7 s7} I7=>by
    refine⟨T.keep _ _ _ Lc fun b hb o e=>(I7.pin (b,o) (List.mem_append_right _ (List.mem_append_right _ (l6 hb e)))).1,fun b hb=>?_⟩
    obtain⟨o,e,d⟩:=T.obj _ _ Lc b hb;exact(I7.pin (b,o) (List.mem_append_right _ (List.mem_append_right _ (l6 hb e)))).2.1
   have reset:∀{yP:St} {H7:Hp} {s7:Shared},Inv (bR X scope (own++kn) fp s H) ([]++oP fp s5.heap) yP H7 s7->Inv (bR X scope (own++kn) fp s H) [] (dS own kp σ) H7 s7:=fun {yP H7 s7} I7=>by
    have I8:=I7.pT;have hun:Un (CW X.stack) fp H H7 s.heap s7.heap:=I8.base;have I9:Inv X pins σ H7 s7:=sI I hf I8;refine⟨I8.ok,I8.os,I8.bare,I8.base,?_,I8.cell,I8.free,I8.freeC,I8.pin,I8.hok,I1.len⟩;obtain⟨m,hm,_⟩:=I8.loc;refine⟨m,hm,fun i x v h1 h2 h3=>?_⟩
    obtain⟨m1,Vl,F6⟩:=I1.loc;obtain⟨u1,r1,l1⟩:=F6 i x v h1 h2 h3;have h1:(own++kn)[i]? =some x:=h1;have h2:(dS own kp σ)[i]? =some (some v):=h2;unfold dS at h2;by_cases hi:i < own.length
    .rw [List.getElem?_append_left (by simpa using hi),List.getElem?_replicate] at h2
     split at h2 <;> cases h2
    .rw [List.getElem?_append_right (by simpa using hi),List.length_replicate,List.getElem?_map] at h2
     rw[List.getElem?_append_right (by simpa using hi)] at h1
     cases e:kp[i - own.length]? with
     | none=>rw [e] at h2;cases h2
     | some j=>
       rw[e] at h2;have h2:(σ[j]?).getD none=some v:=Option.some.inj h2;have hj:X.N[j]? =some x:=C.at_ _ j x e h1;have HW:σ[j]? =some (some v):=by
        cases q:σ[j]? with
        | none=>rw [q] at h2;cases h2
        | some y=>rw [q] at h2;exact congrArg some h2
       have hfree:scope.names.lookup x=some .free:=C.isfree x (List.mem_of_getElem? h1);have hkind:=C.free (x, .free) (PySem.mem_of_lookup hfree) rfl;obtain⟨m9,Vj,Ua⟩:=I9.loc;obtain⟨u,r,l⟩:=Ua j x v hj HW (hkind.elim (fun q=>Or.inr (Or.inl q)) fun q=>Or.inr (Or.inr q))
       refine⟨u,r, .inr ?_⟩;rcases l1 with⟨k,k2⟩ | ⟨k,c,hc,hcell⟩
       .have k:(relabel scope X.env).names.lookup x=some .local:=k;rcases e_ k with z | ⟨z,_⟩
        .rw [hfree] at z;cases z
        .cases z
       .refine⟨k,c,hc,?_⟩;rcases l with⟨k',_⟩ | ⟨_,c',CY,Lb⟩
        .rcases hkind with q | q
         .rw [show X.env.kindOf x=some .cell from q] at k';cases k'
         .rw [show X.env.kindOf x=some .free from q] at k';cases k'
        .have hcl:(n6 X.env.cells scope.names []).lookup x=some c:=(wb _ _ _ fun z=>by have:=C.cel _ z rfl;rw [hfree] at this;cases this).symm.trans hc
         rcases km scope.names [] hcl with q | ⟨q1,q2⟩
         .simp at q
         .rw [CY] at q2;have q2:c=c':=q2;rw[q2];exact Lb
   have hmm:=hg ([]++oP fp s5.heap) s5 (dS own kp σ) H5 x u _ I5' r5 (step x H5 y5);refine wpAny_bind (eI hmm fun _ s6 ⟨M7,H6,I6,q6⟩=>?_)
   refine wpAny_bind (eI (hi _ s6 M7 H6 _ I6 q6) fun ok s7 ⟨H7,I7,q7⟩=>?_)
   cases ok with
   | false=>
     simp only[Bool.false_eq_true,if_false] at q7 ⊢;obtain⟨m',K8,w7⟩:=q7;obtain⟨a1,a2⟩:=keepIt I7;exact wpAny_pure ⟨rfl,m',K8,i+1,ys,H7,reset I7,a1,a2,w7⟩
   | true=>
     simp only[if_true] at q7 ⊢;refine wpAny_bind (wpAny_bind (eI (he _ s7 M7 H7 _ I7 q7) fun yv s8 ⟨y,H8,I8,r8,hD,hlt,m',K8,w8⟩=>wpAny_bind ?_))
     obtain⟨a1,a2⟩:=keepIt I8;refine eI (qA _ s8 M7 H8 (.ref D) [y] (.ref D) [yv] (fun v H9=>v= .cn/\H9=upd H8 D (.lst (ys++[y]))) I8 rfl (.cons r8 .nil) ⟨D,ys,y,rfl,rfl,hD,hlt,rfl,rfl⟩) fun _ s9 ⟨v9,H9,I9,_,_,e9⟩=>?_
     subst e9;obtain⟨b1,b2⟩:=keepIt I9;exact wpAny_pure (wpAny_pure ⟨rfl,m',K8,i+1,ys++[y],_,reset I9,b1,b2,w8⟩)
 exact codeAny_compStart_list loop (T.self _ _ _ _ _ Rr loop)
theorem A0(hc:X.calm=true)(C:bG X scope own kp kn)(hi:PI X tg iter wi)(hg:∀fp s H,PG (bR X scope (own++kn) fp s H) tg g)(Fw:∀fp s H,qx (bR X scope (own++kn) fp s H) ifs tc)
 (he:∀fp s H,PE (bR X scope (own++kn) fp s H) elt te) (hs:∀x,foldedSetIterable iter X.env x=pure x:=by intro _;rfl):PE X (.ListComp elt [⟨tg,iter,ifs,0⟩] scope pos) (A7 wi g tc te own kp):=by
 intro pins s σ H Q I h;rw[eval_ListComp];refine wpAny_comprehension_free (use:=none) rfl hs (mw (oI C I)) C.kind C.nd (eI (hi pins s σ H _ I h) fun v s1 h1=>eI h1 fun NU s2 h2=>?_)
 obtain⟨it,fp,tn,J,H2,e,I2,T,F0,f2,q⟩:=h2;subst e;refine wpAny_newObj_type ?_;have I3:Inv X pins σ (upd H2 s2.heap.objs.size (.lst [])) {s2 with heap:=s2.heap.push {cls:= .type "list",dict:=none,data:= .seq ([]:List Value).toArray}}:=I2.Gy (its:=[]) (t':=s2.toks) .nil (Nat.zero_le _)
 obtain⟨W,w0,turn⟩:=q s2.heap.objs.size I2.fresh;have fne:∀b∈fp,b < s2.heap.objs.size:=fun b hb=>let⟨o,e,_⟩:=T.obj _ _ F0 b hb;Heap.lt_size e
 have f3:∀b∈fp,rE X pins (upd H2 s2.heap.objs.size (.lst [])) b:=fun b hb=>⟨by rw[aZ (Nat.ne_of_lt (fne b hb))];exact(f2 b hb).1,(f2 b hb).2⟩
 generalize hs3:({s2 with heap:=s2.heap.push {cls:= .type "list",dict:=none,data:= .seq ([]:List Value).toArray}}:Shared)=s3 at I3 ⊢
 have HX:tn 0 s3.heap:=by rw[<-hs3];exact T.keep _ _ _ F0 fun b _ o e=>Heap.get?_push_of_some _ e
 have fne3:∀b∈fp,b < s3.heap.objs.size:=fun b hb=>by rw[<-hs3];exact Nat.lt_of_lt_of_le (fne b hb) (by rw[Heap.size_push];exact Nat.le_succ _)
 refine uS fun i4 As hk hC=>?_
 refine xG (D:=s2.heap.objs.size) hc C I3 f3 fne3 T (hg fp s3 _) (Fw fp s3 _) (he fp s3 _) As hk hC HX W w0 turn fun H' s' dw J' hq=>?_
 have B:=sI I3 f3 J';obtain⟨m',K8,_⟩:=J'.loc;refine⟨m',K8,fun h' sb=>⟨.ref s2.heap.objs.size,H',?_,rfl,hq⟩⟩
 have fC:=I3.tM (H':=H') (b:=s3.heap.objs.size) (Nat.le_refl _) J'.free;exact B.turned (it:=s3.heap.objs.size) (t':=s'.toks) (fun b o hb e=>(sb.2 b hb).trans e) fC.1 fC.2.1 fC.2.2.2.1 fC.2.2.2.2.1 fC.2.2.2.2.2
theorem zm{i:Nat}{x:Str}{pos' Fs:Pos}(hc:X.calm=true)(hN:X.N.Nodup)(hx:X.N[i]? =some x)(NP:X.env.scope.names.lookup x=some .local)(C:bG X scope own kp kn)(hi:PI X tg iter wi)
 (hg:∀fp s H,PG (bR X scope (own++kn) fp s H) tg g) (Fw:∀fp s H,qx (bR X scope (own++kn) fp s H) ifs tc)
 (he:∀fp s H,PE (bR X scope (own++kn) fp s H) elt te)
 (HU:swapsWith (.ListComp elt [⟨tg,iter,ifs,0⟩] scope pos) (some (.Name x pos')) Fs.line X.env=pure true:=by rfl)
 (hs:∀x,foldedSetIterable iter X.env x=pure x:=by intro _;rfl) :
 PS X (.Assign [.Name x pos'] (.ListComp elt [⟨tg,iter,ifs,0⟩] scope pos) Fs) (CJ (A7 wi g tc te own kp) (t8 i)):=by
 intro pins s σ H D I h;rw[exec_Assign_Name_used _ _ _ _ HU];refine wpAny_bind (wpAny_standAt (wpAny_bind ?_));show wpAny _ X.A (do let _ <-comprehension (.ListComp elt [⟨tg,iter,ifs,0⟩] scope pos) scope X.env _ (newList []) false (eval iter X.env) (some (assign (.Name x pos') X.env))) _ _ s
 refine wpAny_bind (wpAny_mono (wpAny_comprehension_free (use:=some (assign (.Name x pos') X.env)) (Q:=fun _ s'=>SP X pins D .next s') rfl hs (mw (oI C I)) C.kind C.nd
  (eI (hi pins s σ H _ I h) fun v s1 h1=>eI h1 fun NU s2 h2=>?_)) (fun _ s' hq=>wpAny_pure (wpAny_pure hq)) fun _ _ e=>e)
 obtain⟨it,fp,tn,J,H2,e,I2,T,F0,f2,q⟩:=h2;subst e;refine wpAny_newObj_type ?_;have I3:Inv X pins σ (upd H2 s2.heap.objs.size (.lst [])) {s2 with heap:=s2.heap.push {cls:= .type "list",dict:=none,data:= .seq ([]:List Value).toArray}}:=I2.Gy (its:=[]) (t':=s2.toks) .nil (Nat.zero_le _)
 obtain⟨W,w0,turn⟩:=q s2.heap.objs.size I2.fresh;have fne:∀b∈fp,b < s2.heap.objs.size:=fun b hb=>let⟨o,e,_⟩:=T.obj _ _ F0 b hb;Heap.lt_size e
 have f3:∀b∈fp,rE X pins (upd H2 s2.heap.objs.size (.lst [])) b:=fun b hb=>⟨by rw[aZ (Nat.ne_of_lt (fne b hb))];exact(f2 b hb).1,(f2 b hb).2⟩
 generalize hs3:({s2 with heap:=s2.heap.push {cls:= .type "list",dict:=none,data:= .seq ([]:List Value).toArray}}:Shared)=s3 at I3 ⊢
 have HX:tn 0 s3.heap:=by rw[<-hs3];exact T.keep _ _ _ F0 fun b _ o e=>Heap.get?_push_of_some _ e
 have fne3:∀b∈fp,b < s3.heap.objs.size:=fun b hb=>by rw[<-hs3];exact Nat.lt_of_lt_of_le (fne b hb) (by rw[Heap.size_push];exact Nat.le_succ _)
 refine uS fun i4 As hk hC=>?_
 refine xG (Q:=fun x H1=>t8 i x σ H1 D.nx) (D:=s2.heap.objs.size) hc C I3 f3 fne3 T (hg fp s3 _) (Fw fp s3 _) (he fp s3 _) As hk hC HX W w0 turn fun H' s' dw J' hq=>?_
 have B:=sI I3 f3 J';obtain⟨m',K8,_⟩:=J'.loc;have fC:=I3.tM (H':=H') (b:=s3.heap.objs.size) (Nat.le_refl _) J'.free;show wpAny _ X.A (assign (.Name x pos') X.env (.ref s2.heap.objs.size)) _ _ s';refine wpAny_assign_Name (vk B hN hx (.inl NP) (v:= .ref s2.heap.objs.size) rfl (fun s4 I4 ⟨a,sb,ha⟩=>?_) (.inr NP))
 have ha':s3.heap.objs.size≠a:=by
  rcases ha with rfl | z
  .exact fC.2.1
  .exact fun e=>fC.2.2.2.2.1 x a z e.symm
 refine⟨m',K8.sameBut sb ha',fun h' T_=>⟨_,H',?_,hq⟩⟩
 exact I4.turned (it:=s3.heap.objs.size) (t':=s4.toks) (fun b o hb e=>(T_.2 b hb).trans e) fC.1 fC.2.1 fC.2.2.2.1 fC.2.2.2.2.1 fC.2.2.2.2.2
end
end L2
end
section
namespace L2
open PySem PySem.Spec PyProof.Rows
inductive D where
 | cn | bl (b:Bool) | int (i:Int) | str (x:Str) | lst (ds:List D) | tup (ds:List D) | dct (ks:List Key) (ds:List D)
inductive R (α:Type) where
 | ok (a:α) | ex (c:Nat) | no
def R.bind{α β:Type}:R α->(α->R β)->R β
 | .ok a,f=>f a
 | .ex c,_=> .ex c
 | .no,_=> .no
theorem R.ai{α β:Type}{r:R α}{f:α->R β}{b:β}(h:r.bind f= .ok b):∃a,r= .ok a/\f a= .ok b:=by
 cases r with
 | ok a=>exact⟨a,rfl,h⟩
 | ex c=>cases h
 | no=>cases h
@[simp] theorem R.aG{α β:Type}(a:α)(f:α->R β):(R.ok a).bind f=f a:=rfl
def R.bH{α:Type}(c:Bool)(r:R α):R α:=if c then r else .no
theorem R.bh{α:Type}{c:Bool}{r:R α}{a:α}(h:R.bH c r= .ok a):c=true/\r= .ok a:=by
 cases c with
 | true=>exact⟨rfl,h⟩
 | false=>cases h
@[simp] theorem R.Lm{α:Type}(r:R α):R.bH true r=r:=rfl
def uo(K:W.Frag)(B:List Addr)(H:Hp)(a:Addr)(xs:List V):Prop:=
 (a ∉ B/\Rd H a (.lst xs))\/∃(its:List Value) (n:Nat),K.lookup a=some {cls:= .type "list",data:= .seq its.toArray n}/\xs.length<=sizeLine/\Vals xs its
def vJ(K:W.Frag)(B:List Addr)(H:Hp)(a:Addr)(xs:List V):Prop:=
 (a ∉ B/\Rd H a (.tup xs))\/∃(o:Obj) (its:Array Value) (n:Nat),K.lookup a=some o/\o.cls= .type "tuple"/\o.data= .seq its n/\its.size<=sizeLine/\Vals xs its.toList
theorem uo.sq{K:W.Frag}{B:List Addr}{a:Addr}{xs:List V}(h:uo K B H a xs):pL K H a xs:=by
 rcases h with z | ⟨its,n,hk,hz,r⟩
 .exact .inl z.2
 .exact .inr ⟨_,its.toArray,n,hk,rfl,rfl,rfl,by rw[List.size_toArray,<-r.length];exact hz,by simpa using r⟩
theorem vJ.sq{K:W.Frag}{B:List Addr}{a:Addr}{xs:List V}(h:vJ K B H a xs):rO K H a xs:=h.elim (fun z=> .inl z.2) .inr
mutual
def Rep(K:W.Frag)(B:List Addr)(H:Hp):D->V->Prop
 | .cn,v=>v= .cn
 | .bl b,v=>v= .bl b
 | .int i,v=>v= .int i
 | .str x,v=>v= .str x
 | .lst ds,v=>∃a xs,v= .ref a/\uo K B H a xs/\aC K B H ds xs
 | .tup ds,v=>∃a xs,v= .ref a/\vJ K B H a xs/\aC K B H ds xs
 | .dct ks ds,v=>∃(a:Addr) (kvs:List (Key × V)),v= .ref a/\(a ∉ B/\H a=some (.dK kvs))/\kvs.map (·.1)=ks/\aC K B H ds (kvs.map (·.2))
def aC(K:W.Frag)(B:List Addr)(H:Hp):List D->List V->Prop
 | [],xs=>xs=[]
 | d ::ds,xs=>∃x r,xs=x ::r/\Rep K B H d x/\aC K B H ds r
end
def dG(B:List Addr)(H:Hp)(B':List Addr)(H':Hp):Prop:=∀b o,H b=some o->b ∉ B->H' b=some o/\b ∉ B'
theorem dG.rd{B B':List Addr}(p:dG B H B' H'){a:Addr}{u:HO}(h:Rd H a u)(n:a ∉ B):Rd H' a u/\a ∉ B':=by
 rcases h with e | ⟨o,e⟩
 .exact⟨.inl (p a _ e n).1,(p a _ e n).2⟩
 .exact⟨.inr ⟨o,(p a _ e n).1⟩,(p a _ e n).2⟩
theorem dG.trans{B B' M4:List Addr}(p:dG B H B' H')(q:dG B' H' M4 n5):dG B H M4 n5:=fun b o e n=>
 let⟨e1,n1⟩:=p b o e n;q b o e1 n1
theorem dG.same{B:List Addr}(s:aO H H'):dG B H B H':=fun b o e n=>⟨s b o e,n⟩
theorem dG.refl(B:List Addr)(H:Hp):dG B H B H:=dG.same (aO.refl H)
theorem uo.bo{K:W.Frag}{B B':List Addr}(p:dG B H B' H'){a:Addr}{xs:List V}(l:uo K B H a xs):uo K B' H' a xs:=
 l.elim (fun z=> .inl ⟨(p.rd z.2 z.1).2,(p.rd z.2 z.1).1⟩) .inr
mutual
theorem Rep.bo{K:W.Frag}{B B':List Addr}(p:dG B H B' H'):∀{d:D} {v:V},Rep K B H d v->Rep K B' H' d v
 | .cn,_,h=>h
 | .bl _,_,h=>h
 | .int _,_,h=>h
 | .str _,_,h=>h
 | .lst ds,v,h=>by
   unfold Rep at h ⊢;obtain⟨a,xs,e,l,r⟩:=h;exact⟨a,xs,e,l.bo p,aC.bo p r⟩
 | .tup ds,v,h=>by
   unfold Rep at h ⊢;obtain⟨a,xs,e,l,r⟩:=h;exact⟨a,xs,e,l.elim (fun z=> .inl ⟨(p.rd z.2 z.1).2,(p.rd z.2 z.1).1⟩) .inr,aC.bo p r⟩
 | .dct ks ds,v,h=>by
   unfold Rep at h ⊢;obtain⟨a,kvs,e,⟨n,l⟩,k,r⟩:=h;exact⟨a,kvs,e,⟨(p a _ l n).2,(p a _ l n).1⟩,k,aC.bo p r⟩
theorem aC.bo{K:W.Frag}{B B':List Addr}(p:dG B H B' H'):∀{ds:List D} {xs:List V},aC K B H ds xs->aC K B' H' ds xs
 | [],_,h=>h
 | d ::ds,xs,h=>by
   unfold aC at h ⊢;obtain⟨x,r,e,h1,h2⟩:=h;exact⟨x,r,e,Rep.bo p h1,aC.bo p h2⟩
end
theorem Rep.same{K:W.Frag}{B:List Addr}{d:D}{v:V}(h:Rep K B H d v)(s:aO H H'):Rep K B H' d v:=h.bo (dG.same s)
theorem aC.same{K:W.Frag}{B:List Addr}{d:List D}{v:List V}(h:aC K B H d v)(s:aO H H'):aC K B H' d v:=h.bo (dG.same s)
theorem aC.nil{K:W.Frag}{B:List Addr}:aC K B H [] []:=by unfold aC;rfl
theorem aC.cons{K:W.Frag}{B:List Addr}{d:D}{ds:List D}{x:V}{xs:List V}(h:Rep K B H d x)(t:aC K B H ds xs):aC K B H (d ::ds) (x ::xs):=by
 unfold aC;exact⟨x,xs,rfl,h,t⟩
theorem aC.cc{K:W.Frag}{B:List Addr}{d:D}{ds:List D}{xs:List V}(h:aC K B H (d ::ds) xs):∃x r,xs=x ::r/\Rep K B H d x/\aC K B H ds r:=by
 unfold aC at h;exact h
theorem aC.length{K:W.Frag}{B:List Addr}:∀{ds:List D} {xs:List V},aC K B H ds xs->ds.length=xs.length
 | [],_,h=>by unfold aC at h;rw [h];rfl
 | d ::ds,xs,h=>by
   obtain⟨x,r,rfl,_,h2⟩:=h.cc;simp [h2.length]
theorem aC.get{K:W.Frag}{B:List Addr}:∀{ds:List D} {xs:List V} {i:Nat} {d:D},aC K B H ds xs->ds[i]? =some d->∃x,xs[i]? =some x/\Rep K B H d x
 | [],_,_,_,_,e=>by simp at e
 | d ::ds,xs,0,d',h,e=>by
   obtain⟨x,r,rfl,h1,h2⟩:=h.cc;simp at e;subst e;exact⟨x,rfl,h1⟩
 | d ::ds,xs,i+1,d',h,e=>by
   obtain⟨x,r,rfl,h1,h2⟩:=h.cc;obtain⟨y,e1,e2⟩:=aC.get (i:=i) h2 (by simpa using e)
   exact⟨y,by simpa using e1,e2⟩
theorem aC.append{K:W.Frag}{B:List Addr}:∀{ds es:List D} {xs ys:List V},aC K B H ds xs->aC K B H es ys->aC K B H (ds++es) (xs++ys)
 | [],_,_,_,h,t=>by unfold aC at h;subst h;exact t
 | d ::ds,es,xs,ys,h,t=>by
   obtain⟨x,r,rfl,h1,h2⟩:=h.cc;exact aC.cons h1 (aC.append h2 t)
theorem aC.drop{K:W.Frag}{B:List Addr}:∀{ds:List D} {xs:List V} (n:Nat),aC K B H ds xs->aC K B H (ds.drop n) (xs.drop n)
 | _,_,0,h=>h
 | [],_,n+1,h=>by unfold aC at h;subst h;exact aC.nil
 | d ::ds,xs,n+1,h=>by
   obtain⟨x,r,rfl,h1,h2⟩:=h.cc;exact aC.drop n h2
theorem aC.take{K:W.Frag}{B:List Addr}:∀{ds:List D} {xs:List V} (n:Nat),aC K B H ds xs->aC K B H (ds.take n) (xs.take n)
 | _,_,0,h=>aC.nil
 | [],_,n+1,h=>by unfold aC at h;subst h;exact aC.nil
 | d ::ds,xs,n+1,h=>by
   obtain⟨x,r,rfl,h1,h2⟩:=h.cc;exact aC.cons h1 (aC.take n h2)
def D.atom:D->Bool
 | .cn=>true | .bl _=>true | .int _=>true | .str _=>true | _=>false
theorem Rep.atom{K:W.Frag}{B B':List Addr}{d:D}{v:V}(a:d.atom=true)(h:Rep K B H d v):Rep K B' H' d v:=by
 cases d <;> first | exact h | cases a
inductive Sl where
 | un | val (d:D) | bld (ds:List D)
abbrev av:=List Sl
structure eG (K:W.Frag) (Z B:List Addr) (H:Hp) (σ:St) (δ:av):Prop where
 len:δ.length=σ.length
 bs:∀a∈B,∃o,H a=some o
 zb:∀a∈Z,a∈B
 val:∀(i:Nat) (d:D),δ[i]? =some (.val d)->∃v,σ[i]? =some (some v)/\Rep K B H d v
 bld:∀(i:Nat) (ds:List D),δ[i]? =some (.bld ds)->∃a xs,σ[i]? =some (some (.ref a))/\a∈B/\a ∉ Z/\H a=some (.lst xs)/\aC K B H ds xs
 dis:∀(i j:Nat) (a:Addr) (ds es:List D),δ[i]? =some (.bld ds)->δ[j]? =some (.bld es)->σ[i]? =some (some (.ref a))->σ[j]? =some (some (.ref a))->i=j
theorem eG.same{K:W.Frag}{Z B:List Addr}{δ:av}(E:eG K Z B H σ δ)(s:aO H H'):eG K Z B H' σ δ where
 len:=E.len
 bs:=fun a ha=>let⟨o,e⟩:=E.bs a ha;⟨o,s a o e⟩
 zb:=E.zb
 val:=fun i d e=>let⟨v,h1,h2⟩:=E.val i d e;⟨v,h1,h2.same s⟩
 bld:=fun i ds e=>let⟨a,xs,h1,h2,h3,h4,h5⟩:=E.bld i ds e;⟨a,xs,h1,h2,h3,s a _ h4,h5.same s⟩
 dis:=E.dis
def MF(δ:av):av:=δ.map fun x=>match x with | .bld ds=> .val (.lst ds) | y=>y
theorem PE.imp{X:Cx}{t t':TE}(h:PE X e t)(w:∀σ H Q,t' σ H Q->t σ H Q):PE X e t':=fun pins s σ H Q I hq=>h pins s σ H Q I (w σ H Q hq)
theorem PT.imp{X:Cx}{t t':TT}(h:PT X e t)(w:∀σ H Q,t' σ H Q->t σ H Q):PT X e t':=fun pins s σ H Q I hq=>h pins s σ H Q I (w σ H Q hq)
theorem PA.imp{X:Cx}{t t':TA}(h:PA X e t)(w:∀σ H Q,t' σ H Q->t σ H Q):PA X e t':=fun pos pins s σ H Q I hq=>h pos pins s σ H Q I (w σ H Q hq)
theorem PS.imp{X:Cx}{t t':TS}(h:PS X e t)(w:∀D σ H,t' D σ H->t D σ H):PS X e t':=fun pins s σ H D I hq=>h pins s σ H D I (w D σ H hq)
theorem xm.imp{X:Cx}{t t':TS}(h:xm X e t)(w:∀D σ H,t' D σ H->t D σ H):xm X e t':=fun pins s σ H D I hq=>h pins s σ H D I (w D σ H hq)
theorem PG.imp{X:Cx}{t t':TG}(h:PG X e t)(w:∀v σ H Q,t' v σ H Q->t v σ H Q):PG X e t':=fun pins s σ H v u Q I r hq=>h pins s σ H v u Q I r (w v σ H Q hq)
theorem PI.imp{X:Cx}{t t':TI}(h:PI X tg e t)(w:∀σ H Q,t' σ H Q->t σ H Q):PI X tg e t':=fun pins s σ H Q I hq=>h pins s σ H Q I (w σ H Q hq)
abbrev FD:=av->R D
def tD(K:W.Frag)(f:FD):TE:=fun σ H Q=>∃Z B δ d,eG K Z B H σ δ/\f δ= .ok d/\∀v H',aO H H'->Rep K B H' d v->Q v H'
def tN(K:W.Frag)(f:av->R (List D)):TE:=fun σ H Q=>∃Z B δ ds,eG K Z B H σ δ/\f δ= .ok ds/\∀a xs H',aO H H'->H a=none->H' a=some (.lst xs)->aC K (a ::B) H' ds xs->Q (.ref a) H'
def KL(K:W.Frag)(f:av->R Bool):TT:=fun σ H Q=>∃Z B δ b,eG K Z B H σ δ/\f δ= .ok b/\∀H',aO H H'->Q b H'
def Qs(K:W.Frag)(f:av->R (List D)):TA:=fun σ H Q=>∃Z B δ ds,eG K Z B H σ δ/\f δ= .ok ds/\∀vs H',aO H H'->aC K B H' ds vs->Q vs H'
abbrev PD(X:Cx)(e:Expr)(f:FD):Prop:=PE X e (tD X.K f)
abbrev PN(X:Cx)(e:Expr)(f:av->R (List D)):Prop:=PE X e (tN X.K f)
abbrev PB(X:Cx)(e:Expr)(f:av->R Bool):Prop:=PT X e (KL X.K f)
abbrev FR(X:Cx)(es:List Expr)(f:av->R (List D)):Prop:=PA X es (Qs X.K f)
section
variable {X:Cx}
def eNew(f:av->R (List D)):FD:=fun δ=>(f δ).bind fun ds=> .ok (.lst ds)
theorem JO{f:av->R (List D)}(h:PN X e f):PD X e (eNew f):=h.imp fun σ H Q ⟨Z,B,δ,d,E,hf,q⟩=>by
 obtain⟨ds,h1,h2⟩:=R.ai hf;cases h2;refine⟨Z,B,δ,ds,E,h1,fun a xs H' s n e r=>q _ H' s ?_⟩
 unfold Rep;refine⟨a,xs,rfl, .inl ⟨fun ha=>?_, .inl e⟩,r.bo fun b o e nb=>⟨e,fun hb=>nb (List.mem_cons_of_mem _ hb)⟩⟩
 obtain⟨o,ho⟩:=E.bs a ha;rw[n] at ho;cases ho
theorem yp{B:List Addr}{H:Hp}{p:Addr}{o:HO}(h:H p=none):dG B H (p ::B) (upd H p o):=fun b u e nb=>
 ⟨by rw[aZ (cu e h)];exact e,fun hb=>by
   rcases List.mem_cons.mp hb with z | z
   .exact cu e h z
   .exact nb z⟩
def Q4(f:FD):FD:=fun δ=>(f (MF δ)).bind fun d=>R.bH d.atom (.ok d)
def Q5(f:av->R Bool):av->R Bool:=fun δ=>f (MF δ)
def ae(i:Nat):FD:=fun δ=>match δ[i]? with | some (.val d)=> .ok d | _=> .no
def eC(d:D):FD:=fun _=> .ok d
theorem KZ(i:Nat){x:Str}{pos:Pos}(hN:X.N[i]? =some x:=by rfl)(hv:Gr X.env.scope x:=by first | exact Or.inl rfl | exact Or.inr (Or.inl rfl) | exact Or.inr (Or.inr rfl))(hd:(x==("__debug__":Str))=false:=by decide)
 (uk:(x==("__classdict__":Str))=false:=by decide):PD X (.Name x pos) (ae i):=(tR hN hv hd uk).imp fun σ H Q ⟨Z,B,δ,d,E,hf,q⟩=>by
 unfold ae at hf;split at hf
 .rename_i d' e;cases hf;obtain⟨v,h1,h2⟩:=E.val i d e;exact⟨v,h1,q v H (aO.refl H) h2⟩
 .cases hf
theorem qf{v:V}{d:D}(h:PE X e (tC v))(r:∀B H,Rep X.K B H d v):PD X e (eC d):=h.imp fun σ H Q ⟨Z,B,δ,d',E,hf,q⟩=>by
 cases hf;exact q v H (aO.refl H) (r B H)
theorem IU{i j pos}:PD X (.Constant (.int i) j pos) (eC (.int i)):=qf Ks fun _ _=>by unfold Rep;rfl
theorem Ms{b j pos}:PD X (.Constant (.bool b) j pos) (eC (.bl b)):=qf Mb fun _ _=>by unfold Rep;rfl
theorem Je{j pos}:PD X (.Constant .none j pos) (eC .cn):=qf Ka fun _ _=>by unfold Rep;rfl
theorem KQ{x j pos}:PD X (.Constant (.str x) j pos) (eC (.str x)):=qf Jm fun _ _=>by unfold Rep;rfl
def Glob(K:W.Frag)(mg:Vw)(x:Str)(d:D):Prop:=∃(u:Value) (v:V),mg x=some u/\RelV v u/\∀B H,Rep K B H d v
def aI:av->R (List D):=fun _=> .ok []
def ak(f:FD)(g:av->R (List D)):av->R (List D):=fun δ=>(f δ).bind fun d=>(g δ).bind fun ds=> .ok (d ::ds)
theorem Hl:FR X [] aI:=kM.imp fun σ H Q ⟨Z,B,δ,d,E,hf,q⟩=>by
 cases hf;exact q [] H (aO.refl H) aC.nil
theorem DL{g:av->R (List D)}(h:PD X e f)(t:FR X es g)(hs:starEach (e ::es) X.env=(false,eval e X.env) ::starEach es X.env:=by rfl):FR X (e ::es) (ak f g):=
 (gd h t hs).imp fun σ H Q ⟨Z,B,δ,d,E,hf,q⟩=>by
   obtain⟨d1,h1,h2⟩:=R.ai hf;obtain⟨ds,h3,h4⟩:=R.ai h2;cases h4;exact⟨Z,B,δ,d1,E,h1,fun v H1 s1 r1=>⟨Z,B,δ,ds,E.same s1,h3,fun vs H2 s2 r2=>q _ H2 (s1.trans s2) (aC.cons (r1.same s2) r2)⟩⟩
def dX(g:av->R (List D)):FD:=fun δ=>(g δ).bind fun ds=>R.bH (decide (ds.length<=sizeLine)) (.ok (.tup ds))
def eW(g:av->R (List D)):av->R (List D):=fun δ=>(g δ).bind fun ds=>R.bH (decide (ds.length<=sizeLine)) (.ok ds)
theorem aW{H:Hp}{p:Addr}{o:HO}(h:H p=none):aO H (upd H p o):=fun b u e=>by rw[aZ (cu e h)];exact e
theorem Jj{g:av->R (List D)}{x1 pos}(h:FR X es g):PD X (.Tuple es x1 pos) (dX g):=(EA h).imp fun σ H Q ⟨Z,B,δ,d,E,hf,q⟩=>by
 obtain⟨ds,h1,h2⟩:=R.ai hf;obtain⟨hl,h3⟩:=R.bh h2;cases h3;refine⟨Z,B,δ,ds,E,h1,fun vs H1 s1 r1=>⟨by rw[<-r1.length];exact of_decide_eq_true hl,fun p hp=>q _ _ (s1.trans (aW hp)) ?_⟩⟩
 unfold Rep;refine⟨p,vs,rfl, .inl ⟨fun ha=>?_, .inl bf⟩,r1.same (aW hp)⟩
 obtain⟨o,ho⟩:=(E.same s1).bs p ha;rw[hp] at ho;cases ho
theorem IL{g:av->R (List D)}{pos}(h:FR X es g):PN X (.List es pos) (eW g):=(KN h).imp fun σ H Q ⟨Z,B,δ,d,E,hf,q⟩=>by
 obtain⟨ds,h1,h2⟩:=R.ai hf;obtain⟨hl,h3⟩:=R.bh h2;cases h3;exact⟨Z,B,δ,_,E,h1,fun vs H1 s1 r1=>⟨by rw[<-r1.length];exact of_decide_eq_true hl,fun p hp=>q p vs _ (s1.trans (aW hp)) (s1.free hp) bf (r1.bo (yp hp))⟩⟩
def lp(X:Cx)(f:Value->Value->Sem Value)(g:D->D->R D):Prop:=
 ∀(pins:Vr) (s:Shared) (σ:St) (H:Hp) (B:List Addr) (da db d:D) (x y:V) (v u:Value),Inv X pins σ H s->(∀a∈B,∃o,H a=some o)->RelV x v->RelV y u->Rep X.K B H da x->Rep X.K B H db y->g da db= .ok d->
  wpAny (model X.prog X.w) X.A (f v u) (EP X pins σ fun z H'=>aO H H'/\Rep X.K B H' d z) X.xe s
def e2(g:D->D->R D)(fa fb:FD):FD:=fun δ=>(fa δ).bind fun a=>(fb δ).bind fun b=>g a b
theorem lp.r{f:Value->Value->Sem Value}{g:D->D->R D}(h:lp X f g):mK X f (fun x y H Q=>∃B da db d,(∀a∈B,∃o,H a=some o)/\Rep X.K B H da x/\Rep X.K B H db y/\g da db= .ok d/\∀z H',aO H H'->Rep X.K B H' d z->Q z H'):=by
 intro pins s σ H x y v u Q I rx ry ⟨B,da,db,d,hb,ha,xi,hg,q⟩;exact eI (h pins s σ H B da db d x y v u I hb rx ry ha xi hg) fun z s' ⟨zv,H',I',r',s1,r1⟩=>⟨zv,H',I',r',q zv H' s1 r1⟩
theorem Jg{K:W.Frag}{g:D->D->R D}{Q:VK}(h:tD K (e2 g fa fb) σ H Q) :
 Lo (fun x y H Q=>∃B da db d,(∀a∈B,∃o,H a=some o)/\Rep K B H da x/\Rep K B H db y/\g da db= .ok d/\∀z H',aO H H'->Rep K B H' d z->Q z H') (tD K fa) (tD K fb) σ H Q:=by
 obtain⟨Z,B,δ,d,E,hf,q⟩:=h;obtain⟨d1,h1,h2⟩:=R.ai hf;obtain⟨d2,h3,h4⟩:=R.ai h2;exact⟨Z,B,δ,d1,E,h1,fun v1 H1 s1 r1=>⟨Z,B,δ,d2,E.same s1,h3,fun v2 H2 s2 r2=>⟨B,d1,d2,d,(E.same (s1.trans s2)).bs,r1.same s2,r2,h4,fun z H' s3 r3=>q z H' (s1.trans (s2.trans s3)) r3⟩⟩⟩
theorem Mw{op:Operator}{g:D->D->R D}(ho:lp X (binaryOp op) g)(ha:PD X a fa)(hb:PD X b fb):PD X (.BinOp a op b pos) (e2 g fa fb):=
 (Ax ho.r ha hb).imp fun σ H Q h=>Jg h
theorem JZ{op:CmpOp}{g:D->D->R D}(ho:lp X (compareOp op) g)(ha:PD X a fa)(hb:PD X b fb)(hm:behindInMarks op b=false):PD X (.Compare a [op] [b] pos) (e2 g fa fb):=
 (AX ho.r ha hb hm).imp fun σ H Q h=>Jg h
def b2(g:D->D->R D)(fa fb:FD):av->R Bool:=fun δ=>(e2 g fa fb δ).bind fun d=>match d with | .bl b=> .ok b | _=> .no
theorem KA{op:CmpOp}{g:D->D->R D}(ho:lp X (compareOp op) g)(ha:PD X a fa)(hb:PD X b fb)(hm:behindInMarks op b=false):PB X (.Compare a [op] [b] pos) (b2 g fa fb):=
 (AD ho.r ha hb hm).imp fun σ H Q ⟨Z,B,δ,b,E,hf,q⟩=>by
   obtain⟨d,h1,h2⟩:=R.ai hf;cases d with
   | bl k=>
     cases h2;exact Jg (g:=g) (Q:=fun x H'=>∃k,x= .bl k/\Q k H') ⟨Z,B,δ, .bl b,E,h1,fun v H' s r=>⟨b,by unfold Rep at r;exact r,q H' s⟩⟩
   | _=>cases h2
def NV(g g':D->D->R D)(fa fb fc:FD):FD:=fun δ=>(fa δ).bind fun a=>(fb δ).bind fun b=>(g a b).bind fun r=>match r with
 | .bl true=>(fc δ).bind fun c=>g' b c
 | .bl false=> .ok (.bl false)
 | _=> .no
def Ja:D->R Bool
 | .cn=> .ok false
 | .bl b=> .ok b
 | .int i=> .ok (i !=0)
 | .str x=>R.bH (decide (x.length<=sizeLine)) (.ok ((x.length:Int) !=0))
 | .lst ds=> .ok (!ds.isEmpty)
 | .tup ds=> .ok (!ds.isEmpty)
 | .dct _ _=> .no
def v_(f:FD):av->R Bool:=fun δ=>(f δ).bind Ja
theorem aC.isEmpty{K:W.Frag}{B:List Addr}{ds:List D}{xs:List V}(h:aC K B H ds xs):ds.isEmpty=xs.isEmpty:=by
 have:=h.length;cases ds <;> cases xs <;> simp_all
theorem KO{K:W.Frag}{B:List Addr}{d:D}{v:V}{b:Bool}(r:Rep K B H d v)(h:Ja d= .ok b):Jd K v H b:=by
 cases d with
 | cn=>unfold Rep at r;subst r;cases h;exact rfl
 | bl k=>unfold Rep at r;subst r;cases h;exact rfl
 | int i=>unfold Rep at r;subst r;cases h;exact rfl
 | str x=>unfold Rep at r;subst r;obtain⟨h1,h2⟩:=R.bh h;cases h2;exact⟨of_decide_eq_true h1,rfl⟩
 | lst ds=>unfold Rep at r;obtain⟨a,xs,rfl,l,r⟩:=r;cases h;exact .inl ⟨xs,l.sq,by rw[r.isEmpty]⟩
 | tup ds=>unfold Rep at r;obtain⟨a,xs,rfl,l,r⟩:=r;cases h;exact .inr (.inl ⟨xs,l.sq,by rw[r.isEmpty]⟩)
 | dct _ _=>cases h
theorem J7{a:Expr}(ha:PD X a f)(he:∀whole,isTrue a X.env whole=(do let v <-whole;standAt a.pos;holding [v] (truthy v)):=by intro _;rfl):PB X a (v_ f):=
 (E6 ha he).imp fun σ H Q ⟨Z,B,δ,b,E,hf,q⟩=>by
   obtain⟨d,h1,h2⟩:=R.ai hf;exact⟨Z,B,δ,d,E,h1,fun v H' s r=>⟨b,KO r h2,q H' s⟩⟩
def CO(f g:av->R Bool):av->R Bool:=fun δ=>(f δ).bind fun b=>if b then g δ else .ok false
def Il(f g:av->R Bool):av->R Bool:=fun δ=>(f δ).bind fun b=>if b then .ok true else g δ
def wg(f:av->R Bool):av->R Bool:=fun δ=>(f δ).bind fun b=> .ok (!b)
def FV(X:Cx)(e:Expr)(f:av->R Bool):Prop:=PW X e (KL X.K f)
theorem FV.pb{f:av->R Bool}(h:FV X e f):PB X e f:=PW.pt h
theorem Dz{f:av->R Bool}(h:PB X a f):FV X (.BoolOp .And [a] pos) f:=GF h
theorem Gv{f:av->R Bool}(h:PB X a f):FV X (.BoolOp .Or [a] pos) f:=Kl h
theorem Gw{rest:List Expr}{f g:av->R Bool}(ha:PB X a f)(hb:FV X (.BoolOp .And (b ::rest) pos) g):FV X (.BoolOp .And (a ::b ::rest) pos) (CO f g):=by
 intro wh pins s σ H Q I ⟨Z,B,δ,k,E,hf,q⟩;refine J5 ha hb wh pins s σ H Q I ?_;obtain⟨c,h1,h2⟩:=R.ai hf;refine⟨Z,B,δ,c,E,h1,fun H1 s1=>?_⟩
 cases c with
 | true=>rw [if_pos rfl] at h2 ⊢;exact⟨Z,B,δ,k,E.same s1,h2,fun H' s2=>q H' (s1.trans s2)⟩
 | false=>rw [if_neg (by decide)] at h2 ⊢;cases h2;exact q H1 s1
theorem Ju{rest:List Expr}{f g:av->R Bool}(ha:PB X a f)(hb:FV X (.BoolOp .Or (b ::rest) pos) g):FV X (.BoolOp .Or (a ::b ::rest) pos) (Il f g):=by
 intro wh pins s σ H Q I ⟨Z,B,δ,k,E,hf,q⟩;refine Mf ha hb wh pins s σ H Q I ?_;obtain⟨c,h1,h2⟩:=R.ai hf;refine⟨Z,B,δ,c,E,h1,fun H1 s1=>?_⟩
 cases c with
 | true=>rw [if_pos rfl] at h2 ⊢;cases h2;exact q H1 s1
 | false=>rw [if_neg (by decide)] at h2 ⊢;exact⟨Z,B,δ,k,E.same s1,h2,fun H' s2=>q H' (s1.trans s2)⟩
theorem Ko{f:av->R Bool}(ha:PB X a f):PB X (.UnaryOp .Not a pos) (wg f):=(JN ha).imp fun σ H Q ⟨Z,B,δ,k,E,hf,q⟩=>by
 obtain⟨c,h1,h2⟩:=R.ai hf;cases h2;exact⟨Z,B,δ,c,E,h1,fun H1 s1=>q H1 s1⟩
def Ll(f:FD):av->R Bool:=fun δ=>(f δ).bind fun d=>match d with | .bl b=> .ok b | _=> .no
def Df(f g:FD):FD:=fun δ=>(Ll f δ).bind fun b=>if b then g δ else .ok (.bl false)
def U2(f g:FD):FD:=fun δ=>(Ll f δ).bind fun b=>if b then .ok (.bl true) else g δ
def RD(f:FD):FD:=fun δ=>(Ll f δ).bind fun b=> .ok (.bl (!b))
theorem I_{f:FD}{δ:av}{b:Bool}(h:Ll f δ= .ok b):f δ= .ok (.bl b):=by
 obtain⟨d,h1,h2⟩:=R.ai h;cases d with
 | bl k=>cases h2;exact h1
 | _=>cases h2
theorem Ky{op}(h:PD X a f):PD X (.BoolOp op [a] pos) f:=DA h
theorem IT{rest:List Expr}(ha:PD X a f)(hb:PD X (.BoolOp .And (b ::rest) pos) g):PD X (.BoolOp .And (a ::b ::rest) pos) (Df f g):=(Dn ha hb).imp fun σ H Q ⟨Z,B,δ,k,E,hf,q⟩=>by
 obtain⟨c,h1,h2⟩:=R.ai hf;refine⟨Z,B,δ, .bl c,E,I_ h1,fun v H1 s1 r1=>⟨c,by unfold Rep at r1;exact r1,?_⟩⟩
 cases c with
 | true=>rw [if_pos rfl] at h2 ⊢;exact⟨Z,B,δ,k,E.same s1,h2,fun v H' s2 r2=>q v H' (s1.trans s2) r2⟩
 | false=>rw [if_neg (by decide)] at h2 ⊢;cases h2;exact q _ H1 s1 (by unfold Rep;rfl)
def Kq(c:av->R Bool)(f g:FD):FD:=fun δ=>(c δ).bind fun b=>if b then f δ else g δ
theorem LW{fc:av->R Bool}(hc:PB X c fc)(ha:PD X a f)(hb:PD X b g):PD X (.IfExp c a b pos) (Kq fc f g):=(Ei hc ha hb).imp fun σ H Q ⟨Z,B,δ,k,E,hf,q⟩=>by
 obtain⟨c,h1,h2⟩:=R.ai hf;refine⟨Z,B,δ,c,E,h1,fun H1 s1=>?_⟩
 cases c with
 | true=>rw [if_pos rfl] at h2 ⊢;exact⟨Z,B,δ,k,E.same s1,h2,fun v H' s2 r2=>q v H' (s1.trans s2) r2⟩
 | false=>rw [if_neg (by decide)] at h2 ⊢;exact⟨Z,B,δ,k,E.same s1,h2,fun v H' s2 r2=>q v H' (s1.trans s2) r2⟩
def cQ(X:Cx)(f:Value)(g:List D->R D):Prop:=
 ∀(pins:Vr) (s:Shared) (σ:St) (H:Hp) (B:List Addr) (ds:List D) (d:D) (xs:List V) (us:List Value),Inv X pins σ H s->(∀a∈B,∃o,H a=some o)->Vals xs us->aC X.K B H ds xs->g ds= .ok d->
  wpAny (model X.prog X.w) X.A (call f us) (EP X pins σ fun z H'=>aO H H'/\Rep X.K B H' d z) X.xe s
def aP(g:List D->R D)(fs:av->R (List D)):FD:=fun δ=>(fs δ).bind g
theorem cQ.r{f:Value}{g:List D->R D}(h:cQ X f g):m4 X f (fun xs H Q=>∃B ds d,(∀a∈B,∃o,H a=some o)/\aC X.K B H ds xs/\g ds= .ok d/\∀z H',aO H H'->Rep X.K B H' d z->Q z H'):=by
 intro pins s σ H xs us Q I rx ⟨B,ds,d,hb,hr,hg,q⟩;exact eI (h pins s σ H B ds d xs us I hb rx hr hg) fun z s' ⟨zv,H',I',r',s1,r1⟩=>⟨zv,H',I',r',q zv H' s1 r1⟩
theorem Bo{K:W.Frag}{g:List D->R D}{fs:av->R (List D)}{Q:VK}(h:tD K (aP g fs) σ H Q) :
 Qs K fs σ H fun vs H1=>∃B ds d,(∀a∈B,∃o,H1 a=some o)/\aC K B H1 ds vs/\g ds= .ok d/\∀z H',aO H1 H'->Rep K B H' d z->Q z H':=by
 obtain⟨Z,B,δ,d,E,hf,q⟩:=h;obtain⟨ds,h1,h2⟩:=R.ai hf;exact⟨Z,B,δ,ds,E,h1,fun vs H1 s1 r1=>⟨B,ds,d,(E.same s1).bs,r1,h2,fun z H' s2 r2=>q z H' (s1.trans s2) r2⟩⟩
theorem Ep{g:List D->R D}{x:Str}{id:String}{p pos:Pos}{e:Expr}{es:List Expr}{fs:av->R (List D)}(hc:cQ X (.builtin id) g)(hg:Gl X x)(hm:X.mg x=none)(hv:bootBuiltins x=some (.builtin id))(ha:FR X (e ::es) fs)(hn:x≠"__name__":=by decide)(qj:(x==("__debug__":Str))=false:=by decide)
 (he:starEach (e ::es) X.env=(false,eval e X.env) ::starEach es X.env:=by rfl) (mJ:(backTo pos (starEach es X.env)).any (·.1)=false:=by rfl):PD X (.Call (.Name x p) (e ::es) [] pos) (aP g fs):=
 (xW hc.r hg hm hv ha hn qj he mJ).imp fun σ H Q h=>Bo h
theorem CM{g:List D->R D}{x:Str}{T:String}{p pos:Pos}{e:Expr}{es:List Expr}{fs:av->R (List D)}(hc:cQ X (.type T) g)(hg:Gl X x)(hm:X.mg x=none)(hv:bootBuiltins x=some (.type T))(ha:FR X (e ::es) fs)(hn:x≠"__name__":=by decide)(qj:(x==("__debug__":Str))=false:=by decide)
 (he:starEach (e ::es) X.env=(false,eval e X.env) ::starEach es X.env:=by rfl) (mJ:(backTo pos (starEach es X.env)).any (·.1)=false:=by rfl):PD X (.Call (.Name x p) (e ::es) [] pos) (aP g fs):=
 (B7 hc.r hg hm hv ha hn qj he mJ).imp fun σ H Q h=>Bo h
def C2(K:W.Frag)(n:Nat)(g:List D->R D):Sp:=fun vs H Q _=>vs.length=n/\∃B ds d,(∀a∈B,∃o,H a=some o)/\aC K B H ds vs/\g ds= .ok d/\∀z H',aO H H'->Rep K B H' d z->Q z H'
theorem Hh{g:List D->R D}{k n:Nat}{f:Addr}{fd:FuncData}{ps:List Str}{x:Str}{p pos:Pos}{e:Expr}{es:List Expr}{fs:av->R (List D)}
 (F:jg X.prog X.w X.K X.mg X.base uI k f fd ps (C2 X.K n g)) (hr:eV k X.A) (hg:Gl X x) (hm:X.mg x=some (.ref f)) (hk:PySem.W.keepIn X.K (.ref f)=true) (hb:Binds X.K fd ps []) (ha:FR X (e ::es) fs)
 (hn:∀δ ds,fs δ= .ok ds->ds.length=n) (qj:(x==("__debug__":Str))=false:=by decide) (he:starEach (e ::es) X.env=(false,eval e X.env) ::starEach es X.env:=by rfl) (mJ:(backTo pos (starEach es X.env)).any (·.1)=false:=by rfl) :
 PD X (.Call (.Name x p) (e ::es) [] pos) (aP g fs):=
 (vV F hr hg hm hk hb .nil xO ha qj he mJ).imp fun σ H Q ⟨Z,B,δ,d,E,hf,q⟩=>by
   obtain⟨ds,h1,h2⟩:=R.ai hf;refine⟨Z,B,δ,ds,E,h1,fun vs H1 s1 r1=>?_⟩
   show C2 X.K n g (vs++[]) H1 Q E0;rw[List.append_nil];exact⟨by rw[<-r1.length];exact hn δ ds h1,B,ds,d,(E.same s1).bs,r1,h2,fun z H' s2 r2=>q z H' (s1.trans s2) r2⟩
end
end L2
end
section
namespace L2
open PySem PySem.Spec PyProof.Rows
inductive Out where
 | nx (δ:av) | rt (d:D)
abbrev FS:=av->R Out
structure Ev (Z B:List Addr) (H:Hp) (B':List Addr) (H':Hp):Prop where
 bo:dG B H B' H'
 zs:∀b o,H b=some o->b∈Z->H' b=some o/\b∈B'
theorem Ev.refl(Z B:List Addr)(H:Hp)(zb:∀a∈Z,a∈B):Ev Z B H B H:=⟨dG.refl B H,fun b o e z=>⟨e,zb b z⟩⟩
theorem Ev.trans{Z B B' M4:List Addr}(a:Ev Z B H B' H')(b:Ev Z B' H' M4 n5):Ev Z B H M4 n5:=
 ⟨a.bo.trans b.bo,fun c o e z=>let⟨e1,_⟩:=a.zs c o e z;b.zs c o e1 z⟩
theorem Ev.same{Z B:List Addr}(zb:∀a∈Z,a∈B)(s:aO H H'):Ev Z B H B H':=⟨dG.same s,fun b o e z=>⟨s b o e,zb b z⟩⟩
def A5(K:W.Frag)(Z B:List Addr)(H:Hp)(D:Ends):Out->Prop
 | .nx eK=>∀dw B' H',Ev Z B H B' H'->eG K Z B' H' dw eK->D.nx dw H'
 | .rt d=>∀v B' H',Ev Z B H B' H'->(∀a∈Z,a∈B')->Rep K B' H' d v->D.rt v H'
theorem A5.ev{K:W.Frag}{Z B B1:List Addr}{D:Ends}{o:Out}(q:A5 K Z B H D o)(ev:Ev Z B H B1 H1):A5 K Z B1 H1 D o:=by
 cases o with
 | nx eK=>exact fun dw B' H' CU E'=>q dw B' H' (ev.trans CU) E'
 | rt d=>exact fun v B' H' CU z r=>q v B' H' (ev.trans CU) z r
def sD(K:W.Frag)(F:FS):TS:=fun D σ H=>∃Z B δ o,eG K Z B H σ δ/\F δ= .ok o/\A5 K Z B H D o
abbrev Hu(X:Cx)(st:Stmt)(F:FS):Prop:=PS X st (sD X.K F)
abbrev rP(X:Cx)(st:List Stmt)(F:FS):Prop:=xm X st (sD X.K F)
section
variable {X:Cx}
def pZ:FS:=fun δ=> .ok (.nx δ)
def eO(F G:FS):FS:=fun δ=>(F δ).bind fun o=>match o with | .nx eK=>G eK | .rt d=> .ok (.rt d)
theorem GJ:rP X [] pZ:=AN.imp fun D σ H ⟨Z,B,δ,o,E,hf,q⟩=>by
 cases hf;exact q σ B H (Ev.refl Z B H E.zb) E
theorem K5{K:W.Frag}{F G:FS}{D:Ends}(h:sD K (eO F G) D σ H):Mc (sD K F) (sD K G) D σ H:=by
 obtain⟨Z,B,δ,o,E,hf,q⟩:=h;obtain⟨o1,h1,h2⟩:=R.ai hf;refine⟨Z,B,δ,o1,E,h1,?_⟩;cases o1 with
 | nx dj=>
   intro M8 B1 H1 ev E1;refine⟨Z,B1,dj,o,E1,h2,?_⟩;cases o with
   | nx dM=>exact fun dw B' H' CU E'=>q dw B' H' (ev.trans CU) E'
   | rt d=>exact fun v B' H' CU z r=>q v B' H' (ev.trans CU) z r
 | rt d=>
   cases h2;exact q
theorem EV{st:Stmt}{rest:List Stmt}{F G:FS}(h1:Hu X st F)(h2:rP X rest G):rP X (st ::rest) (eO F G):=(yD h1 h2).imp fun D σ H h=>K5 h
theorem G8{st:Stmt}{F:FS}(h1:Hu X st F):rP X [st] F:=Au h1
theorem eG.set{K:W.Frag}{Z B:List Addr}{σ:St}{δ:av}(E:eG K Z B H σ δ){i:Nat}{d:D}{v:V}(hi:i < σ.length)(r:Rep K B H d v):eG K Z B H (σ.set i (some v)) (δ.set i (.val d)) where
 len:=by rw[List.length_set,List.length_set];exact E.len
 bs:=E.bs
 zb:=E.zb
 val:=fun j d' e=>by
  by_cases h:i=j
  .subst h;rw[List.getElem?_set_self (by rw[E.len];exact hi)] at e
   cases e;exact⟨v,List.getElem?_set_self hi,r⟩
  .rw [List.getElem?_set_ne h] at e ⊢;exact E.val j d' e
 bld:=fun j ds e=>by
  by_cases h:i=j
  .subst h;rw[List.getElem?_set_self (by rw[E.len];exact hi)] at e
   cases e
  .rw [List.getElem?_set_ne h] at e ⊢;exact E.bld j ds e
 dis:=fun j k a ds es e1 e2 e3 e4=>by
  by_cases h:i=j
  .subst h;rw[List.getElem?_set_self (by rw[E.len];exact hi)] at e1
   cases e1
  .by_cases h':i=k
   .subst h';rw[List.getElem?_set_self (by rw[E.len];exact hi)] at e2
    cases e2
   .rw [List.getElem?_set_ne h] at e1 e3;rw[List.getElem?_set_ne h'] at e2 e4;exact E.dis j k a ds es e1 e2 e3 e4
theorem eG.setB{K:W.Frag}{Z B:List Addr}{H:Hp}{σ:St}{δ:av}(E:eG K Z B H σ δ){i:Nat}{ds:List D}{a:Addr}{xs:List V}(hi:i < σ.length)(hB:a∈B)(hZ:a ∉ Z)(hH:H a=some (.lst xs))(r:aC K B H ds xs)
 (new:∀j es,j≠i->δ[j]? =some (.bld es)->σ[j]?≠some (some (.ref a))):eG K Z B H (σ.set i (some (.ref a))) (δ.set i (.bld ds)) where
 len:=by rw[List.length_set,List.length_set];exact E.len
 bs:=E.bs
 zb:=E.zb
 val:=fun j d' e=>by
  by_cases h:i=j
  .subst h;rw[List.getElem?_set_self (by rw[E.len];exact hi)] at e
   cases e
  .rw [List.getElem?_set_ne h] at e ⊢;exact E.val j d' e
 bld:=fun j es e=>by
  by_cases h:i=j
  .subst h;rw[List.getElem?_set_self (by rw[E.len];exact hi)] at e
   cases e;exact⟨a,xs,List.getElem?_set_self hi,hB,hZ,hH,r⟩
  .rw [List.getElem?_set_ne h] at e ⊢;exact E.bld j es e
 dis:=fun j k b Ng Nl e1 e2 e3 e4=>by
  by_cases h:i=j
  .subst h;by_cases h':i=k
   .exact h'
   .rw [List.getElem?_set_self hi] at e3;cases e3;rw[List.getElem?_set_ne h'] at e2 e4;exact absurd e4 (new k Nl (Ne.symm h') e2)
  .by_cases h':i=k
   .subst h';rw[List.getElem?_set_self hi] at e4;cases e4;rw[List.getElem?_set_ne h] at e1 e3;exact absurd e3 (new j Ng (Ne.symm h) e1)
   .rw [List.getElem?_set_ne h] at e1 e3;rw[List.getElem?_set_ne h'] at e2 e4;exact E.dis j k b Ng Nl e1 e2 e3 e4
def l_(i:Nat)(f:FD):FS:=fun δ=>(f δ).bind fun d=>R.bH (decide (i < δ.length)) (.ok (.nx (δ.set i (.val d))))
theorem Kw{K:W.Frag}{i:Nat}{D:Ends}(h:sD K (l_ i f) D σ H):CJ (tD K f) (t8 i) D σ H:=by
 obtain⟨Z,B,δ,o,E,hf,q⟩:=h;obtain⟨d,h1,h2⟩:=R.ai hf;obtain⟨hi,h3⟩:=R.bh h2;cases h3;refine⟨Z,B,δ,d,E,h1,fun v H1 s1 r1=>?_⟩
 exact q _ B H1 (Ev.same E.zb s1) ((E.same s1).set (by rw[<-E.len];exact of_decide_eq_true hi) r1)
theorem Ho{i:Nat}{pos pos':Pos}(hN:X.N.Nodup)(hi:X.N[i]? =some x)(hx:Loc X.env.scope x)(he:PD X e f)(hs:swapsWith e (some (.Name x pos')) pos.line X.env=pure false:=by rfl)(hf:X.fn x=true\/X.env.scope.names.lookup x=some .local:=by first | exact .inl rfl | exact .inr rfl | assumption) :
 Hu X (.Assign [.Name x pos'] e pos) (l_ i f):=(Ao hN hi hx he hs hf).imp fun D σ H h=>Kw h
def Ad(i:Nat)(f:av->R (List D)):FS:=fun δ=>(f δ).bind fun ds=>R.bH (decide (i < δ.length)) (.ok (.nx (δ.set i (.bld ds))))
theorem Jl{K:W.Frag}{i:Nat}{f:av->R (List D)}{D:Ends}(h:sD K (Ad i f) D σ H):CJ (tN K f) (t8 i) D σ H:=by
 obtain⟨Z,B,δ,o,E,hf,q⟩:=h;obtain⟨ds,h1,h2⟩:=R.ai hf;obtain⟨hi,h3⟩:=R.bh h2;cases h3;refine⟨Z,B,δ,ds,E,h1,fun a xs H1 s1 n e r=>?_⟩
 have E1:=E.same s1;have aB:a ∉ B:=fun ha=>by obtain⟨o,ho⟩:=E.bs a ha;rw [n] at ho;cases ho
 have nZ:a ∉ Z:=fun ha=>aB (E.zb a ha)
 have p0:dG B H (a ::B) H1:=fun b o e' nb=>⟨s1 b o e',fun hb=>by
  rcases List.mem_cons.mp hb with z | z
  .subst z;rw [n] at e';cases e'
  .exact nb z⟩
 have E2:eG K Z (a ::B) H1 σ δ:={
  len:=E.len
  bs:=fun b hb=>by
   rcases List.mem_cons.mp hb with z | z
   .subst z;exact⟨_,e⟩
   .exact E1.bs b z
  zb:=fun b hb=>List.mem_cons_of_mem _ (E.zb b hb)
  val:=fun j d e=>let⟨v,q1,q2⟩:=E.val j d e;⟨v,q1,q2.bo p0⟩
  bld:=fun j es e=>let⟨b,ys,q1,q2,q3,q4,q5⟩:=E.bld j es e;⟨b,ys,q1,List.mem_cons_of_mem _ q2,q3,s1 b _ q4,q5.bo p0⟩
  dis:=E.dis}
 refine q _ (a ::B) H1 ⟨p0,fun b o e' hb=>⟨s1 b o e',List.mem_cons_of_mem _ (E.zb b hb)⟩⟩ (E2.setB (by rw[<-E.len];exact of_decide_eq_true hi) List.mem_cons_self nZ e r fun j es hj ej HW=>?_)
 obtain⟨b,ys,q1,_,_,q4,_⟩:=E.bld j es ej;rw[HW] at q1;cases q1;rw[n] at q4;cases q4
theorem HG{i:Nat}{f:av->R (List D)}{pos pos':Pos}(hN:X.N.Nodup)(hi:X.N[i]? =some x)(hx:Loc X.env.scope x)(he:PN X e f)(hs:swapsWith e (some (.Name x pos')) pos.line X.env=pure false:=by rfl)(hf:X.fn x=true\/X.env.scope.names.lookup x=some .local:=by first | exact .inl rfl | exact .inr rfl | assumption) :
 Hu X (.Assign [.Name x pos'] e pos) (Ad i f):=(Ao hN hi hx he hs hf).imp fun D σ H h=>Jl h
theorem eG.grow{K:W.Frag}{Z B:List Addr}{H:Hp}{σ:St}{δ:av}(E:eG K Z B H σ δ){i:Nat}{ds es:List D}{a:Addr}{xs ys:List V}(hd:δ[i]? =some (.bld ds))(HW:σ[i]? =some (some (.ref a)))(hB:a∈B)(hH:H a=some (.lst xs))(r:aC K B H es ys) :
 eG K Z B (upd H a (.lst ys)) σ (δ.set i (.bld es))/\dG B H B (upd H a (.lst ys)):=by
 have p:dG B H B (upd H a (.lst ys)):=fun b o e nb=>⟨by rw[aZ (fun(z:b=a)=>nb (by rw[z];exact hB))];exact e,nb⟩
 have hi:i < δ.length:=(List.getElem?_eq_some_iff.mp hd).1;refine⟨{
  len:=by rw[List.length_set];exact E.len
  bs:=fun b hb=>by
   by_cases z:b=a
   .subst z;exact⟨_,bf⟩
   .rw [aZ z];exact E.bs b hb
  zb:=E.zb
  val:=fun j d e=>by
   by_cases h:i=j
   .subst h;rw [List.getElem?_set_self hi] at e;cases e
   .rw [List.getElem?_set_ne h] at e;obtain⟨v,q1,q2⟩:=E.val j d e;exact⟨v,q1,q2.bo p⟩
  bld:=fun j fs e=>by
   by_cases h:i=j
   .subst h;rw [List.getElem?_set_self hi] at e;cases e;obtain⟨b,zs,q1,q2,q3,_,_⟩:=E.bld i ds hd;rw[HW] at q1;cases q1;exact⟨a,ys,HW,hB,q3,bf,r.bo p⟩
   .rw [List.getElem?_set_ne h] at e;obtain⟨b,zs,q1,q2,q3,q4,q5⟩:=E.bld j fs e;have ne:b≠a:=fun z=>by subst z;exact h (E.dis i j b ds fs hd e HW q1)
    exact⟨b,zs,q1,q2,q3,by rw[aZ ne];exact q4,q5.bo p⟩
  dis:=fun j k b Ng Nl e1 e2 e3 e4=>by
   have f1:∃fs,δ[j]? =some (.bld fs):=by
    by_cases h:i=j
    .subst h;exact⟨ds,hd⟩
    .rw [List.getElem?_set_ne h] at e1;exact⟨_,e1⟩
   have f2:∃fs,δ[k]? =some (.bld fs):=by
    by_cases h:i=k
    .subst h;exact⟨ds,hd⟩
    .rw [List.getElem?_set_ne h] at e2;exact⟨_,e2⟩
   obtain⟨_,f1⟩:=f1;obtain⟨_,f2⟩:=f2;exact E.dis j k b _ _ f1 f2 e3 e4},p⟩
theorem Ev.grow{Z B:List Addr}{a:Addr}{o:HO}(zb:∀a∈Z,a∈B)(hZ:a ∉ Z)(p:dG B H B (upd H a o)):Ev Z B H B (upd H a o):=
 ⟨p,fun b u e hb=>⟨by rw[aZ (fun(z:b=a)=>hZ (by rw[<-z];exact hb))];exact e,zb b hb⟩⟩
def vi(δ:av)(i:Nat):R (List D):=match δ[i]? with | some (.bld ds)=> .ok ds | _=> .no
theorem Ek{δ:av}{i:Nat}{ds:List D}(h:vi δ i= .ok ds):δ[i]? =some (.bld ds):=by
 unfold vi at h;split at h
 .rename_i q;cases h;exact q
 .cases h
def zG(i:Nat)(f:FD):FS:=fun δ=>(f δ).bind fun d=>(vi δ i).bind fun ds=>R.bH (decide (ds.length < sizeLine)) (.ok (.nx (δ.set i (.bld (ds++[d])))))
theorem F_{i:Nat}{x:Str}{e:Expr}{f:FD}{ka apos dO pos:Pos}(hN:X.N[i]? =some x)(hv:Gr X.env.scope x)(he:PD X e f)
 (hd:(x==("__debug__":Str))=false:=by decide) (uk:(x==("__classdict__":Str))=false:=by decide)
 (hs:starEach [e] X.env=(false,eval e X.env) ::starEach [] X.env:=by rfl) (qk:(apos.endLine==dO.line)=true:=by rfl)
 (xc:((backTo dO (starEach [e] X.env)).all (fun x=>!x.1) && (backToKw dO (keywordEach [] X.env)).all (fun x=>x.1.isSome)
   && decide (([e]:List Expr).length+([]:List Keyword).length+(if([]:List Keyword).isEmpty then 0 else 1) < 30))=true:=by rfl)
 (HU:swapsWith (.Call (.Attribute (.Name x ka) "append" apos) [e] [] dO) none pos.line X.env=pure false:=by rfl)
 (ql:attributeBase (.Name x ka) "append" X.env (eval (.Name x ka) X.env)=eval (.Name x ka) X.env:=by rfl) :
 Hu X (.Expr (.Call (.Attribute (.Name x ka) "append" apos) [e] [] dO) pos) (zG i f):=by
 refine(Bt (Iw (X:=X) PySem.F.plainAttrs_list PySem.F.slot_list_append PySem.F.type_list_append qA (tR hN hv hd uk) (gd he kM hs) ql xc qk hs) HU).imp fun D σ H ⟨Z,B,δ,o,E,hf,q⟩=>?_
 obtain⟨d,h1,h2⟩:=R.ai hf;obtain⟨ds,h3,h4⟩:=R.ai h2;obtain⟨hl,h5⟩:=R.bh h4;cases h5;have hb:=Ek h3;obtain⟨a,xs,q1,q2,q3,q4,q5⟩:=E.bld i ds hb;refine⟨.ref a,q1, .inl ⟨rfl,xs,pL.of q4⟩,⟨Z,B,δ,d,E,h1,fun v H1 s1 r1=>?_⟩⟩
 have E1:=E.same s1;refine⟨a,xs,v,rfl,rfl,s1 a _ q4,by rw[<-q5.length];exact of_decide_eq_true hl,?_⟩
 obtain⟨E2,p2⟩:=E1.grow (es:=ds++[d]) (ys:=xs++[v]) hb q1 q2 (s1 a _ q4) ((q5.same s1).append (aC.cons r1 aC.nil));exact q σ B _ ((Ev.same E.zb s1).trans (Ev.grow E.zb q3 p2)) E2
def Sf(i:Nat)(f:av->R (List D)):FS:=fun δ=>(f δ).bind fun es=>(vi δ i).bind fun ds=>R.bH (decide (ds.length+es.length<=sizeLine)) (.ok (.nx (δ.set i (.bld (ds++es)))))
def ki(i:Nat)(δ:av):av:=match δ[i]? with | some (.bld ds)=>δ.set i (.val (.lst ds)) | _=>δ
theorem eG.ki{K:W.Frag}{Z B:List Addr}{δ:av}(E:eG K Z B H σ δ)(i:Nat):∃B',Ev Z B H B' H/\eG K Z B' H σ (ki i δ):=by
 unfold L2.ki;cases hd:δ[i]? with
 | none=>exact⟨B,Ev.refl Z B H E.zb,E⟩
 | some x=>
   cases x with
   | un=>exact⟨B,Ev.refl Z B H E.zb,E⟩
   | val d=>exact⟨B,Ev.refl Z B H E.zb,E⟩
   | bld ds=>
     obtain⟨a,xs,q1,q2,q3,q4,q5⟩:=E.bld i ds hd;have hi:i < δ.length:=(List.getElem?_eq_some_iff.mp hd).1;have p:dG B H (B.filter fun b=>decide (b≠a)) H:=fun b o e nb=>⟨e,fun hb=>nb (List.mem_filter.mp hb).1⟩
     have zb:∀b∈Z,b∈B.filter fun b=>decide (b≠a):=fun b hb=>List.mem_filter.mpr ⟨E.zb b hb,decide_eq_true fun z=>q3 (z▸hb)⟩
     refine⟨B.filter fun b=>decide (b≠a),⟨p,fun b o e hb=>⟨e,zb b hb⟩⟩,{
      len:=by rw[List.length_set];exact E.len
      bs:=fun b hb=>E.bs b (List.mem_filter.mp hb).1
      zb:=zb
      val:=fun j d e=>by
       by_cases h:i=j
       .subst h;rw [List.getElem?_set_self hi] at e;cases e;refine⟨.ref a,q1,?_⟩;unfold Rep;exact⟨a,xs,rfl, .inl ⟨fun hb=>by simpa using(List.mem_filter.mp hb).2, .inl q4⟩,q5.bo p⟩
       .rw [List.getElem?_set_ne h] at e;obtain⟨v,z1,z2⟩:=E.val j d e;exact⟨v,z1,z2.bo p⟩
      bld:=fun j fs e=>by
       by_cases h:i=j
       .subst h;rw [List.getElem?_set_self hi] at e;cases e
       .rw [List.getElem?_set_ne h] at e;obtain⟨b,zs,z1,z2,z3,z4,z5⟩:=E.bld j fs e;exact⟨b,zs,z1,List.mem_filter.mpr ⟨z2,decide_eq_true fun z=>by subst z;exact h (E.dis i j b ds fs hd e q1 z1)⟩,z3,z4,z5.bo p⟩
      dis:=fun j k b Ng Nl e1 e2 e3 e4=>by
       by_cases h:i=j
       .subst h;rw [List.getElem?_set_self hi] at e1;cases e1
       .by_cases h':i=k
        .subst h';rw [List.getElem?_set_self hi] at e2;cases e2
        .rw [List.getElem?_set_ne h] at e1;rw[List.getElem?_set_ne h'] at e2;exact E.dis j k b Ng Nl e1 e2 e3 e4}⟩
def Dx(i:Nat)(F:FS):FS:=fun δ=>F (ki i δ)
theorem Jy{K:W.Frag}{i:Nat}{F:FS}{D:Ends}(h:sD K (Dx i F) D σ H):sD K F D σ H:=by
 obtain⟨Z,B,δ,o,E,hf,q⟩:=h;obtain⟨B1,ev,E1⟩:=E.ki i;refine⟨Z,B1,L2.ki i δ,o,E1,hf,?_⟩;cases o with
 | nx eK=>exact fun dw B' H' CU E'=>q dw B' H' (ev.trans CU) E'
 | rt d=>exact fun v B' H' CU z r=>q v B' H' (ev.trans CU) z r
theorem Hm(i:Nat){F:FS}(h:rP X IA F):rP X IA (Dx i F):=h.imp fun D σ H h=>Jy h
def fA(f:FD):FS:=fun δ=>(f δ).bind fun d=> .ok (.rt d)
theorem GH(he:PD X e f):Hu X (.Return (some e) pos) (fA f):=(E_ he).imp fun D σ H ⟨Z,B,δ,o,E,hf,q⟩=>by
 obtain⟨d,h1,h2⟩:=R.ai hf;cases h2;exact⟨Z,B,δ,d,E,h1,fun v H1 s1 r1=>q v B H1 (Ev.same E.zb s1) E.zb r1⟩
def vU(c:av->R Bool)(F G:FS):FS:=fun δ=>(c δ).bind fun b=>if b then F δ else G δ
theorem Kr{fc:av->R Bool}{F G:FS}(hc:PB X c fc)(ha:rP X a F)(hb:rP X b G):Hu X (.If c a b pos) (vU fc F G):=(Ie hc ha hb).imp fun D σ H ⟨Z,B,δ,o,E,hf,q⟩=>by
 obtain⟨k,h1,h2⟩:=R.ai hf;refine⟨Z,B,δ,k,E,h1,fun H1 s1=>?_⟩
 have q':=q.ev (Ev.same E.zb s1);cases k with
 | true=>rw [if_pos rfl] at h2;exact GV ⟨Z,B,δ,o,E.same s1,h2,q'⟩
 | false=>rw [if_neg (by decide)] at h2;exact Hz ⟨Z,B,δ,o,E.same s1,h2,q'⟩
abbrev FT:=D->av->R av
def gD(K:W.Frag)(t:FT):TG:=fun v σ H Q=>∃Z B δ d eK,eG K Z B H σ δ/\Rep K B H d v/\t d δ= .ok eK/\∀dw H',aO H H'->eG K Z B H' dw eK->dw.length=σ.length->Q dw H'
abbrev Lj(X:Cx)(tg:Expr)(t:FT):Prop:=PG X tg (gD X.K t)
def aK(i:Nat):FT:=fun d δ=>R.bH (decide (i < δ.length)) (.ok (δ.set i (.val d)))
theorem Fj{i:Nat}{pos:Pos}(hN:X.N.Nodup)(hi:X.N[i]? =some x)(hx:Loc X.env.scope x)(hf:X.fn x=true\/X.env.scope.names.lookup x=some .local:=by first | exact .inl rfl | exact .inr rfl | assumption):Lj X (.Name x pos) (aK i):=
 (Az hN hi hx hf).imp fun v σ H Q ⟨Z,B,δ,d,eK,E,r,ht,q⟩=>by
   obtain⟨hi,h⟩:=R.bh ht;cases h;exact q _ H (aO.refl H) (E.set (by rw[<-E.len];exact of_decide_eq_true hi) r) (List.length_set ..)
abbrev Ey:=List D->av->R av
def RK(K:W.Frag)(t:Ey):Ex:=fun vs σ H Q=>∃Z B δ ds eK,eG K Z B H σ δ/\aC K B H ds vs/\t ds δ= .ok eK/\∀dw H',aO H H'->eG K Z B H' dw eK->dw.length=σ.length->Q dw H'
abbrev Dl(X:Cx)(ts:List Expr)(t:Ey):Prop:=GS X ts (RK X.K t)
theorem GS.imp{X:Cx}{t t':Ex}(h:GS X e t)(w:∀v σ H Q,t' v σ H Q->t v σ H Q):GS X e t':=fun pins s σ H v u Q I r hq=>h pins s σ H v u Q I r (w v σ H Q hq)
def jZ:Ey:=fun ds δ=>match ds with | []=> .ok δ | _=> .no
def cG(t:FT)(u:Ey):Ey:=fun ds δ=>match ds with | d ::r=>(t d δ).bind fun eK=>u r eK | []=> .no
theorem EE:Dl X [] jZ:=AL.imp fun vs σ H Q ⟨Z,B,δ,ds,eK,E,r,ht,q⟩=>by
 cases ds with
 | nil=>unfold aC at r;cases ht;exact⟨r,q σ H (aO.refl H) E rfl⟩
 | cons=>cases ht
theorem Cc{u:Ey}(h1:Lj X e t)(h2:Dl X es u)(hs:(assignEach (e ::es) X.env).map (·.2)=assign e X.env ::(assignEach es X.env).map (·.2):=by rfl):Dl X (e ::es) (cG t u):=
 (xD h1 h2 hs).imp fun vs σ H Q ⟨Z,B,δ,ds,eK,E,r,ht,q⟩=>by
   cases ds with
   | nil=>cases ht
   | cons d ds=>
     obtain⟨x,xs,rfl,r1,r2⟩:=r.cc;obtain⟨dj,h1,h2⟩:=R.ai ht;exact⟨x,xs,rfl,Z,B,δ,d,dj,E,r1,h1,fun M8 H1 s1 E1 l1=>⟨Z,B,dj,ds,eK,E1,r2.same s1,h2,fun xj H2 s2 E2 l2=>q xj H2 (s1.trans s2) E2 (l2.trans l1)⟩⟩
def jA(n:Nat)(t:Ey):FT:=fun d δ=>match d with | .tup ds=>R.bH (decide (ds.length=n)) (t ds δ) | _=> .no
theorem GA{k:Nat}{t:Ey}{n:Nat}{pos:Pos}(hc:X.calm=true)(h:Dl X es t)(hn:(assignEach es X.env).length=n:=by rfl)(FH:(assignEach es X.env).findIdx? (·.1)=none:=by rfl):Lj X (.Tuple es k pos) (jA n t):=
 (DD hc h hn FH).imp fun v σ H Q ⟨Z,B,δ,d,eK,E,r,ht,q⟩=>by
   cases d with
   | tup ds=>
     unfold Rep at r;obtain⟨a,xs,rfl,l,r⟩:=r;obtain⟨hl,h⟩:=R.bh ht;exact⟨a,xs,rfl,l.sq,by rw[<-r.length];exact of_decide_eq_true hl,Z,B,δ,ds,eK,E,r,h,q⟩
   | _=>cases ht
def Sx(f:FD)(t:FT):FS:=fun δ=>(f δ).bind fun d=>(t d δ).bind fun eK=> .ok (.nx eK)
def DZ(K:W.Frag)(B:List Addr)(H:Hp)(J:It)(ds:List D):Prop:=∀B' H',dG B H B' H'->(∀(i:Nat) (d:D),ds[i]? =some d->J.go i H'/\∀x n5,J.yld i H' x n5->(∀a∈B',∃o,H' a=some o)->aO H' n5/\Rep K B' n5 d x)/\J.stop ds.length H'
def iD(K:W.Frag)(f:av->R (List D)):TI:=fun σ H R=>∃Z B δ ds,eG K Z B H σ δ/\f δ= .ok ds/\∀J H1,aO H H1->DZ K B H1 J ds->R J H1
abbrev Lk(X:Cx)(tg e:Expr)(f:av->R (List D)):Prop:=PI X tg e (iD X.K f)
def d5(f:FD):av->R (List D):=fun δ=>(f δ).bind fun d=>match d with | .lst ds=> .ok ds | .tup ds=> .ok ds | _=> .no
theorem HJ(h:PD X e f):Lk X tg e (d5 f):=by
 intro pins s σ H RR I ⟨Z,B,δ,ds,E,hf,q⟩;obtain⟨d,h1,h2⟩:=R.ai hf;refine eI (h pins s σ H (fun v H1=>aO H H1/\Rep X.K B H1 d v) I ⟨Z,B,δ,d,E,h1,fun v H1 s1 r1=>⟨s1,r1⟩⟩) fun v s1 ⟨x,H1,I1,r1,ss,rr⟩=>?_
 cases d with
 | lst es=>
   cases h2;unfold Rep at rr;obtain⟨a,xs,rfl,l,rr⟩:=rr;cases r1;obtain⟨its,rv,p,hz⟩:=I1.list l.sq;refine wpAny_pyIter_list p.isList ?_;refine⟨s1.heap.objs.size,[s1.heap.objs.size],_,_,H1,rfl,I1.kept (t':=s1.toks) fun b o e=>Heap.get?_push_of_some _ e,vE a _,⟨_,Heap.get?_push_size _ rfl,rfl,rfl⟩,fun b hb=>?_,q _ H1 ss fun B' H' pr=>?_⟩
   .have e:b=s1.heap.objs.size:=by simpa using hb
    subst e;exact I1.tM (Nat.le_refl _) (I1.hok.fresh (Nat.le_refl _))
   .have l':uo X.K B' H' a xs:=l.bo pr;have K6:=rr.bo pr;refine⟨fun i d hd=>?_,⟨xs,l'.sq,by rw[rr.length];exact Nat.le_refl _⟩⟩
    obtain⟨x,hx,rx⟩:=K6.get hd;exact⟨⟨xs,x,l'.sq,hx⟩,fun y n5 ⟨e1,e2⟩ _=>by
     subst e1;have:=e2 xs l'.sq;rw[hx] at this;cases this;exact⟨aO.refl _,rx⟩⟩
 | tup es=>
   cases h2;unfold Rep at rr;obtain⟨a,xs,rfl,l,rr⟩:=rr;cases r1;obtain⟨its,rv,p,hz⟩:=I1.tuple l.sq;refine wpAny_pyIter_tuple (show s1.heap.IsTuple a its.toArray from p) ?_
   refine⟨s1.heap.objs.size,[s1.heap.objs.size],_,_,H1,rfl,I1.kept (t':=s1.toks) fun b o e=>Heap.get?_push_of_some _ e,z0 a _,⟨_,Heap.get?_push_size _ rfl,rfl,rfl⟩,fun b hb=>?_,q _ H1 ss fun B' H' pr=>?_⟩
   .have e:b=s1.heap.objs.size:=by simpa using hb
    subst e;exact I1.tM (Nat.le_refl _) (I1.hok.fresh (Nat.le_refl _))
   .have l':vJ X.K B' H' a xs:=l.elim (fun z=> .inl ⟨(pr.rd z.2 z.1).2,(pr.rd z.2 z.1).1⟩) .inr
    have K6:=rr.bo pr;refine⟨fun i d hd=>?_,⟨xs,l'.sq,by rw[rr.length];exact Nat.le_refl _⟩⟩
    obtain⟨x,hx,rx⟩:=K6.get hd;exact⟨⟨xs,x,l'.sq,hx⟩,fun y n5 ⟨e1,e2⟩ _=>by
     subst e1;have:=e2 xs l'.sq;rw[hx] at this;cases this;exact⟨aO.refl _,rx⟩⟩
 | _=>cases h2
def hX(lo:Int)(n:Nat):List D:=(List.range n).map fun(i:Nat)=>D.int (lo+i)
theorem DI{K:W.Frag}{B:List Addr}(lo:Int)(n:Nat):DZ K B H (L8 lo n) (hX lo n):=fun B' H' _=>by
 refine⟨fun i d hd=>?_,?_⟩
 .unfold hX at hd;rw[List.getElem?_map] at hd;cases e:(List.range n)[i]? with
  | none=>rw [e] at hd;cases hd
  | some j=>
    rw[e] at hd;cases hd;obtain⟨hi,ej⟩:=List.getElem?_eq_some_iff.mp e;rw[List.getElem_range] at ej;subst ej;rw[List.length_range] at hi;exact⟨hi,fun x n5 ⟨e1,e2⟩ _=>by subst e1 e2;exact⟨aO.refl _,by unfold Rep;rfl⟩⟩
 .show n<=(hX lo n).length;unfold hX;rw[List.length_map,List.length_range];exact Nat.le_refl _
def cT(f:FD):av->R (List D):=fun δ=>(f δ).bind fun d=>match d with | .int j=>R.bH (decide (-(2 ^ 62)<=j/\j < 2 ^ 62)) (.ok (hX 0 j.toNat)) | _=> .no
theorem yT{tg a:Expr}{p pos:Pos}(h:PD X a f)(hg:Gl X "range")(hm:X.mg "range"=none)(hs:starEach [a] X.env=[(false,eval a X.env)]:=by rfl):Lk X tg (.Call (.Name "range" p) [a] [] pos) (cT f):=
 (uY hg hm (gd h kM hs) hs).imp fun σ H RR ⟨Z,B,δ,ds,E,hf,q⟩=>by
   obtain⟨d,h1,h2⟩:=R.ai hf;cases d with
   | int j=>
     obtain⟨hb,h3⟩:=R.bh h2;cases h3;have hb:=of_decide_eq_true hb;refine⟨Z,B,δ, .int j,E,h1,fun v H1 s1 r1=>⟨j,?_,hb.1,hb.2,q _ H1 s1 (DI 0 _)⟩⟩
     unfold Rep at r1;rw[r1]
   | _=>cases h2
def OP(f g:FD):av->R (List D):=fun δ=>(f δ).bind fun d=>(g δ).bind fun e=>match d,e with
 | .int i, .int j=>R.bH (decide (-(2 ^ 62)<=i/\i < 2 ^ 62/\ -(2 ^ 62)<=j/\j < 2 ^ 62)) (.ok (hX i (j - i).toNat)) | _,_=> .no
def oh(t:FT)(body:FS):List D->FS
 | [],δ=> .ok (.nx δ)
 | d ::ds,δ=>(t d δ).bind fun dj=>(body dj).bind fun o=>match o with | .nx dM=>oh t body ds dM | .rt r=> .ok (.rt r)
def rM(it:av->R (List D))(t:FT)(body:FS):FS:=fun δ=>(it δ).bind fun ds=>oh t body ds δ
theorem HB{tg iter:Expr}{body:List Stmt}{it:av->R (List D)}{t:FT}{F:FS}{pos:Pos}(hp:PassesOwn (model X.prog X.w) X.A X.env X.xe)(hc:X.calm=true)(hi:Lk X tg iter it)(hg:Lj X tg t)(hb:rP X body F)
 (hs:∀x,foldedSetIterable iter X.env x=pure x:=by intro _;rfl):Hu X (.For tg iter body [] pos) (rM it t F):=(DR hp hc hi hg hb hs).imp fun D σ H ⟨Z,B,δ,o,E,hf,q⟩=>by
 obtain⟨ds,h1,h2⟩:=R.ai hf;refine⟨Z,B,δ,ds,E,h1,fun J H1 s1 ir=>?_⟩
 refine⟨fun i m dw H'=>m=ds.length - i/\i<=ds.length/\∃B' eK,Ev Z B H1 B' H'/\eG X.K Z B' H' dw eK/\oh t F (ds.drop i) eK= .ok o,⟨ds.length,rfl,Nat.zero_le _,B,δ,Ev.refl Z B H1 E.zb,E.same s1,by simpa using h2⟩,?_⟩
 rintro i m dw H' ⟨rfl,hi,B',eK,ev,E',hl⟩;obtain⟨go,stop⟩:=ir B' H' ev.bo;by_cases hlt:i < ds.length
 .have hd:ds[i]? =some ds[i]:=List.getElem?_eq_getElem hlt;have hdrop:ds.drop i=ds[i] ::ds.drop (i+1):=List.drop_eq_getElem_cons hlt;rw[hdrop] at hl;obtain⟨dj,h3,h4⟩:=R.ai hl;obtain⟨o1,h5,h6⟩:=R.ai h4;obtain⟨g1,g2⟩:=go i _ hd;refine .inr ⟨g1,fun xj H2=>∃B2 dM,Ev Z B H1 B2 H2/\eG X.K Z B2 H2 xj dM/\oh t F (ds.drop (i+1)) dM= .ok o,fun xj H2 n=>⟨ds.length - (i+1),by omega,rfl,hlt,n⟩,fun x n5 y=>?_⟩
  obtain⟨ss,rr⟩:=g2 x n5 y E'.bs;refine⟨Z,B',eK,ds[i],dj,E'.same ss,rr,h3,fun xj H2 s2 E2 l2=>⟨Z,B',dj,o1,E2,h5,?_⟩⟩
  have ev2:Ev Z B H1 B' H2:=ev.trans (Ev.same E'.zb (ss.trans s2));cases o1 with
  | nx dM=>exact fun HQ B3 H3 Qa E3=>⟨B3,dM,ev2.trans Qa,E3,h6⟩
  | rt d=>
    cases h6;exact fun v B3 H3 Qa z r=>q v B3 H3 ((Ev.same E.zb s1).trans (ev2.trans Qa)) z r
 .have e:i=ds.length:=by omega
  subst e;rw[List.drop_length] at hl;cases hl;exact .inl ⟨stop,q dw B' H' ((Ev.same E.zb s1).trans ev) E'⟩
def DV(c:av->R Bool)(body:FS):Nat->FS
 | 0,_=> .no
 | n+1,δ=>(c δ).bind fun b=>if b then(body δ).bind fun o=>match o with | .nx dM=>DV c body n dM | .rt r=> .ok (.rt r) else .ok (.nx δ)
def N0(n:Nat)(c:av->R Bool)(body:FS):FS:=fun δ=>DV c body n δ
def tW(δ:av)(i:Nat):Sl:=match δ[i]? with | some (.val d)=> .val d | _=> .un
def sW(own:List Str)(kp:List Nat)(δ:av):av:=List.replicate own.length .un++kp.map (tW δ)
def lC(t:FT)(c:av->R Bool)(f:FD)(δ:av):List D->R (List D)
 | []=> .ok []
 | d ::ds=>(t d δ).bind fun dj=>(c dj).bind fun b=>if b then(f dj).bind fun y=>(lC t c f δ ds).bind fun ys=> .ok (y ::ys) else lC t c f δ ds
def d4(it:av->R (List D))(t:FT)(c:av->R Bool)(f:FD)(own:List Str)(kp:List Nat):av->R (List D):=fun δ=>(it δ).bind fun ds=>R.bH (decide (ds.length<=sizeLine)) (lC t c f (sW own kp δ) ds)
theorem KJ{K:W.Frag}{Z B B':List Addr}{H H':Hp}{δ:av}{own:List Str}{kp:List Nat}(E:eG K Z B H σ δ)(p:dG B H B' H')(hB:∀a∈B',∃o,H' a=some o):eG K [] B' H' (dS own kp σ) (sW own kp δ) where
 len:=by unfold dS sW;simp
 bs:=hB
 zb:=fun a ha=>by cases ha
 val:=fun i d e=>by
  unfold sW at e;unfold dS;by_cases hi:i < own.length
  .rw [List.getElem?_append_left (by simpa using hi),List.getElem?_replicate] at e
   split at e <;> cases e
  .rw [List.getElem?_append_right (by simpa using hi),List.length_replicate,List.getElem?_map] at e ⊢
   cases q:kp[i - own.length]? with
   | none=>rw [q] at e;cases e
   | some j=>
     rw[q] at e;have e:tW δ j= .val d:=Option.some.inj e;unfold tW at e;split at e
     .rename_i d' ed;cases e;obtain⟨v,h1,h2⟩:=E.val j d ed;exact⟨v,by simp [h1],h2.bo p⟩
     .cases e
 bld:=fun i ds e=>by
  unfold sW at e;by_cases hi:i < own.length
  .rw [List.getElem?_append_left (by simpa using hi),List.getElem?_replicate] at e
   split at e <;> cases e
  .rw [List.getElem?_append_right (by simpa using hi),List.length_replicate,List.getElem?_map] at e
   cases q:kp[i - own.length]? with
   | none=>rw [q] at e;cases e
   | some j=>
     rw[q] at e;have e:tW δ j= .bld ds:=Option.some.inj e;unfold tW at e;split at e <;> cases e
 dis:=fun i j a ds es e=>by
  unfold sW at e;by_cases hi:i < own.length
  .rw [List.getElem?_append_left (by simpa using hi),List.getElem?_replicate] at e
   split at e <;> cases e
  .rw [List.getElem?_append_right (by simpa using hi),List.length_replicate,List.getElem?_map] at e
   cases q:kp[i - own.length]? with
   | none=>rw [q] at e;cases e
   | some j=>
     rw[q] at e;have e:tW δ j= .bld ds:=Option.some.inj e;unfold tW at e;split at e <;> cases e
theorem GO{K:W.Frag}{it:av->R (List D)}{c:av->R Bool}{own:List Str}{kp:List Nat}{Q:VK}(h:tN K (d4 it t c f own kp) σ H Q) :
 A7 (iD K it) (gD K t) (KL K c) (tD K f) own kp σ H Q:=by
 obtain⟨Z,B,δ,ds,E,hf,q⟩:=h;obtain⟨es,h1,h2⟩:=R.ai hf;obtain⟨hl,h3⟩:=R.bh h2;have hl:=of_decide_eq_true hl;refine⟨Z,B,δ,es,E,h1,fun J H1 s1 ir Dd hD=>?_⟩
 have E1:=E.same s1;have pD:dG B H1 (Dd ::B) (upd H1 Dd (.lst [])):=yp hD;refine⟨fun i m ys H'=>m=es.length - i/\i<=es.length/\ys.length<=i/\H' Dd=some (.lst ys)/\aO H1 H'/\∃done rest,ds=done++rest/\aC K (Dd ::B) H' done ys/\lC t c f (sW own kp δ) (es.drop i)= .ok rest,
  ⟨es.length,rfl,Nat.zero_le _,Nat.le_refl _,bf,aW hD,[],ds,rfl,aC.nil,by simpa using h3⟩,?_⟩
 rintro i m ys H' ⟨rfl,hi,hy,hDl,ss,done,rest,rfl,rd,hc⟩;have dB:Dd ∉ B:=fun hb=>by obtain⟨o,ho⟩:=E1.bs Dd hb;rw [hD] at ho;cases ho
 have p':dG B H1 (Dd ::B) H':=fun b o e nb=>⟨ss b o e,fun hb=>by
  rcases List.mem_cons.mp hb with z | z
  .exact cu e hD z
  .exact nb z⟩
 have Ft:∀a∈Dd ::B,∃o,H' a=some o:=fun a ha=>by
  rcases List.mem_cons.mp ha with z | z
  .subst z;exact⟨_,hDl⟩
  .obtain⟨o,ho⟩:=E1.bs a z;exact⟨o,ss a o ho⟩
 obtain⟨go,stop⟩:=ir (Dd ::B) H' p';by_cases hlt:i < es.length
 .have hd:es[i]? =some es[i]:=List.getElem?_eq_getElem hlt;have hdrop:es.drop i=es[i] ::es.drop (i+1):=List.drop_eq_getElem_cons hlt;rw[hdrop] at hc;obtain⟨dj,h4,h5⟩:=R.ai hc;obtain⟨b,h6,h7⟩:=R.ai h5;obtain⟨g1,g2⟩:=go i _ hd;refine .inr ⟨g1,fun x H2 y=>?_⟩
  obtain⟨sy,ry⟩:=g2 x H2 y Ft;have Ec:eG K [] (Dd ::B) H2 (dS own kp σ) (sW own kp δ):=KJ E1 (p'.trans (dG.same sy)) fun a ha=>let⟨o,ho⟩:=Ft a ha;⟨o,sy a o ho⟩
  refine⟨[],Dd ::B,sW own kp δ,es[i],dj,Ec,ry,h4,fun HQ H3 s3 E3 _=>⟨[],Dd ::B,dj,b,E3,h6,fun H4 s4=>?_⟩⟩
  have sAll:aO H' H4:=sy.trans (s3.trans s4);cases b with
  | true=>
    rw[if_pos rfl] at h7;refine GV ?_;obtain⟨yv,h8,h9⟩:=R.ai h7;obtain⟨rs,P5,Po⟩:=R.ai h9;cases Po;refine⟨[],Dd ::B,dj,yv,E3.same s4,h8,fun v H5 s5 r5=>?_⟩
    have s':aO H' H5:=sAll.trans s5;have Qd:H5 Dd=some (.lst ys):=s' Dd _ hDl;have pu:dG (Dd ::B) H5 (Dd ::B) (upd H5 Dd (.lst (ys++[v]))):=fun b o e nb=>⟨by rw[aZ (fun(z:b=Dd)=>nb (by rw[z];exact List.mem_cons_self))];exact e,nb⟩
    refine⟨Qd,by omega,es.length - (i+1),by omega,rfl,hlt,by rw[List.length_append,List.length_singleton];omega,bf,fun b o e=>?_,done++[yv],rs,by simp,((rd.same s').append (aC.cons r5 aC.nil)).bo pu,P5⟩
    rw[aZ (cu e hD)];exact s' b o (ss b o e)
  | false=>
    rw[if_neg (by decide)] at h7
    refine Hz ?_;exact⟨es.length - (i+1),by omega,rfl,hlt,by omega,sAll Dd _ hDl,ss.trans sAll,done,rest,rfl,rd.same sAll,h7⟩
 .have e:i=es.length:=by omega
  subst e;rw[List.drop_length] at hc;cases hc;rw[List.append_nil] at q;exact .inl ⟨stop,q Dd ys H' (s1.trans ss) (s1.free hD) hDl rd⟩
theorem Gn{scope:Scope}{own:List Str}{kp:List Nat}{kn:List Str}{tg iter elt:Expr}{ifs:List Expr}{it:av->R (List D)}{t:FT}{c:av->R Bool}{f:FD}{pos:Pos}(hc:X.calm=true)(C:bG X scope own kp kn)(hi:Lk X tg iter it)
 (hg:∀fp s H,Lj (bR X scope (own++kn) fp s H) tg t) (Fw:∀fp s H,qx (bR X scope (own++kn) fp s H) ifs (KL X.K c)) (he:∀fp s H,PD (bR X scope (own++kn) fp s H) elt f)
 (hs:∀x,foldedSetIterable iter X.env x=pure x:=by intro _;rfl):PN X (.ListComp elt [⟨tg,iter,ifs,0⟩] scope pos) (d4 it t c f own kp):=
 (A0 hc C hi hg Fw he hs).imp fun σ H Q h=>GO h
def i_:av->R Bool:=fun _=> .ok true
theorem Ef:qx X [] (KL X.K i_):=fun pins s σ H Q I ⟨Z,B,δ,b,E,hf,q⟩=>yK pins s σ H Q I (by cases hf;exact q H (aO.refl H))
theorem Hc{c:av->R Bool}(h:PB X e c):qx X [e] (KL X.K c):=xv h
end
def dq(N:List Str)(ds:List D):av:=ds.map .val++List.replicate (N.length - ds.length) .un
def rV(N:List Str)(F:FS):List D->R D:=fun ds=>(F (dq N ds)).bind fun o=>match o with | .rt d=> .ok d | .nx _=> .ok .cn
theorem HK{K:W.Frag}{B:List Addr}{H:Hp}{N:List Str}{ds:List D}{vs:List V}(hB:∀a∈B,∃o,H a=some o)(r:aC K B H ds vs):eG K B B H (start N vs) (dq N ds) where
 len:=by unfold start dq;simp [r.length]
 bs:=hB
 zb:=fun a ha=>ha
 val:=fun i d e=>by
  unfold dq at e;unfold start;by_cases hi:i < ds.length
  .rw [List.getElem?_append_left (by simpa using hi),List.getElem?_map] at e
   cases q:ds[i]? with
   | none=>rw [q] at e;cases e
   | some d'=>
     rw[q] at e;cases e;obtain⟨x,h1,h2⟩:=r.get q;exact⟨x,by rw[List.getElem?_append_left (by rw[List.length_map,<-r.length];exact hi),List.getElem?_map,h1];rfl,h2⟩
  .rw [List.getElem?_append_right (by simpa using hi),List.getElem?_replicate] at e
   split at e <;> cases e
 bld:=fun i es e=>by
  unfold dq at e;by_cases hi:i < ds.length
  .rw [List.getElem?_append_left (by simpa using hi),List.getElem?_map] at e
   cases q:ds[i]? with
   | none=>rw [q] at e;cases e
   | some d'=>rw [q] at e;cases e
  .rw [List.getElem?_append_right (by simpa using hi),List.getElem?_replicate] at e
   split at e <;> cases e
 dis:=fun i j a es fs e=>by
  unfold dq at e;by_cases hi:i < ds.length
  .rw [List.getElem?_append_left (by simpa using hi),List.getElem?_map] at e
   cases q:ds[i]? with
   | none=>rw [q] at e;cases e
   | some d'=>rw [q] at e;cases e
  .rw [List.getElem?_append_right (by simpa using hi),List.getElem?_replicate] at e
   split at e <;> cases e
theorem Gh{P:Program}{w:World}{K:W.Frag}{mg:Vw}{base:Heap}{x qual:Str}{st:Stmt}{f:Addr}{fd:FuncData}{N ps:List Str}{k:Nat}{F:FS}(Fn:Bj K x qual st f fd)(S:aR N ps (ax st))
 (lR:∀(dY:Value) (A:Around) (outer:List Env) (s:Shared) (H:Hp) (E:XK),eV k (A.deeper (envOfC qual (ax st) s.heap.objs.size f dY))->
   rP (tH uI P w K mg base N qual (ax st) f dY A outer s H E).HH (aJ st) F):jg P w K mg base uI (k+1) f fd ps (C2 K ps.length (rV N F)):=by
 refine Fn.ok S (fun vs H Q E h=>h.1) (fun dY A outer s H vs Q E hr h=>⟨_,lR dY A outer s H E hr,?_⟩)
 obtain⟨_,B,ds,d,hB,r,hg,q⟩:=h;obtain⟨o,h1,h2⟩:=R.ai hg;refine⟨B,B,dq N ds,o,HK hB r,h1,?_⟩;have sm:∀{B':List Addr} {H':Hp},Ev B B H B' H'->aO H H':=fun {B' H'} ev b u e=>by
  by_cases hb:b∈B
  .exact(ev.zs b u e hb).1
  .exact(ev.bo b u e hb).1
 cases o with
 | nx eK=>
   cases h2;exact fun dw B' H' ev _=>q _ H' (sm ev) (by unfold Rep;rfl)
 | rt d'=>
   cases h2;exact fun v B' H' ev z rr=>q v H' (sm ev) (rr.bo fun b o e nb=>⟨e,fun hb=>nb (z b hb)⟩)
end L2
end
section
namespace L2
open PySem PySem.Spec PyProof.Rows
theorem Rep.int{K:W.Frag}{B:List Addr}{i:Int}{v:V}:Rep K B H (.int i) v↔v= .int i:=by unfold Rep;exact Iff.rfl
theorem Rep.bl{K:W.Frag}{B:List Addr}{i:Bool}{v:V}:Rep K B H (.bl i) v↔v= .bl i:=by unfold Rep;exact Iff.rfl
theorem Rep.str{K:W.Frag}{B:List Addr}{v:V}:Rep K B H (.str i) v↔v= .str i:=by unfold Rep;exact Iff.rfl
theorem Rep.cn{K:W.Frag}{B:List Addr}{v:V}:Rep K B H .cn v↔v= .cn:=by unfold Rep;exact Iff.rfl
theorem Rep.lst{K:W.Frag}{B:List Addr}{ds:List D}{v:V}:Rep K B H (.lst ds) v↔∃a xs,v= .ref a/\uo K B H a xs/\aC K B H ds xs:=by rw[Rep]
theorem Rep.tup{K:W.Frag}{B:List Addr}{ds:List D}{v:V}:Rep K B H (.tup ds) v↔∃a xs,v= .ref a/\vJ K B H a xs/\aC K B H ds xs:=by rw[Rep]
section
variable {X:Cx}
theorem lp.of{f:Value->Value->Sem Value}{r:R2}{g:D->D->R D}(h:mK X f r)
 (w:∀(B:List Addr) (H:Hp) (da db d:D) (x y:V) (Q:VK),(∀a∈B,∃o,H a=some o)->Rep X.K B H da x->Rep X.K B H db y->g da db= .ok d->(∀z H',aO H H'->Rep X.K B H' d z->Q z H')->r x y H Q):lp X f g:=by
 intro pins s σ H B da db d x y v u I hb rx ry ra rb hg;exact h pins s σ H x y v u _ I rx ry (w B H da db d x y _ hb ra rb hg fun z H' s1 r1=>⟨s1,r1⟩)
theorem cQ.of{f:Value}{r:List V->Hp->VK->Prop}{g:List D->R D}(h:m4 X f r)
 (w:∀(B:List Addr) (H:Hp) (ds:List D) (d:D) (xs:List V) (Q:VK),(∀a∈B,∃o,H a=some o)->aC X.K B H ds xs->g ds= .ok d->(∀z H',aO H H'->Rep X.K B H' d z->Q z H')->r xs H Q):cQ X f g:=by
 intro pins s σ H B ds d xs us I hb rx rs hg;exact h pins s σ H xs us _ I rx (w B H ds d xs _ hb rs hg fun z H' s1 r1=>⟨s1,r1⟩)
theorem cQ.or{f:Value}{g g1 g2:List D->R D}(h1:cQ X f g1)(h2:cQ X f g2)(e:∀a d,g a= .ok d->g1 a= .ok d\/g2 a= .ok d):cQ X f g:=by
 intro pins s σ H B ds d xs us I hb rx rs hg;rcases e ds d hg with q | q
 .exact h1 pins s σ H B ds d xs us I hb rx rs q
 .exact h2 pins s σ H B ds d xs us I hb rx rs q
def Ic(C:Int->Int->Bool)(g:Int->Int->Int):D->D->R D
 | .int i, .int j=>R.bH (C i j) (.ok (.int (g i j)))
 | _,_=> .no
theorem xU{f:Value->Value->Sem Value}{C:Int->Int->Bool}{Cp:Int->Int->Prop}{g:Int->Int->Int}(h:mK X f (rI Cp fun i j=> .int (g i j)))(hc:∀i j,C i j=true->Cp i j):lp X f (Ic C g):=
 lp.of h fun B H da db d x y Q _ ra rb hg q=>by
  unfold Ic at hg;split at hg
  .obtain⟨h1,h2⟩:=R.bh hg;cases h2;exact⟨_,_,Rep.int.mp ra,Rep.int.mp rb,hc _ _ h1,q _ H (aO.refl H) (Rep.int.mpr rfl)⟩
  .cases hg
def Cb(g:Int->Int->Int):D->D->R D
 | .int i, .int j=> .ok (.int (g i j))
 | _,_=> .no
theorem vT{f:Value->Value->Sem Value}{g:Int->Int->Int}(h:mK X f (CV fun i j=> .int (g i j))):lp X f (Cb g):=
 lp.of h fun B H da db d x y Q _ ra rb hg q=>by
  unfold Cb at hg;split at hg
  .cases hg;exact⟨_,_,Rep.int.mp ra,Rep.int.mp rb,q _ H (aO.refl H) (Rep.int.mpr rfl)⟩
  .cases hg
def Lu(g:Int->Int->Bool):D->D->R D
 | .int i, .int j=> .ok (.bl (g i j))
 | _,_=> .no
theorem D7{f:Value->Value->Sem Value}{g:Int->Int->Bool}(h:mK X f (CV fun i j=> .bl (g i j))):lp X f (Lu g):=
 lp.of h fun B H da db d x y Q _ ra rb hg q=>by
  unfold Lu at hg;split at hg
  .cases hg;exact⟨_,_,Rep.int.mp ra,Rep.int.mp rb,q _ H (aO.refl H) (Rep.bl.mpr rfl)⟩
  .cases hg
abbrev qH:D->D->R D:=Cb fun i j=>i - j
theorem q_:lp X (binaryOp .Sub) qH:=vT IP
abbrev qc:D->D->R D:=Ic (fun _ j=>decide (0 < j/\j < 1073741824)) fun i j=>i / j
theorem qz:lp X (binaryOp .FloorDiv) qc:=xU Gq fun i j h=>(of_decide_eq_true h:0 < j/\j < 1073741824)
abbrev iO:D->D->R D:=Ic (fun _ j=>decide (0 < j)) fun i j=>i % j
theorem fB:lp X (binaryOp .Mod) iO:=xU KY fun i j h=>of_decide_eq_true h
abbrev Jr:D->D->R D:=Ic (fun i j=>decide (0<=j/\j<=1000000/\i.natAbs < 2 ^ 64)) fun i j=>i ^ j.toNat
theorem MY:lp X (binaryOp .Pow) Jr:=xU KI fun i j h=>(of_decide_eq_true h:0<=j/\j<=1000000/\i.natAbs < 2 ^ 64)
abbrev x_:D->D->R D:=Ic (fun _ j=>decide (0<=j)) fun i j=>i / 2 ^ j.toNat
theorem Ik:lp X (binaryOp .RShift) x_:=xU Ji fun i j h=>of_decide_eq_true h
abbrev z6:D->D->R D:=Cb fun i j=>Builtin.bitAnd i j
theorem wH:lp X (binaryOp .BitAnd) z6:=vT J1
abbrev Fm:D->D->R D:=Cb fun i j=>Builtin.bitOr i j
theorem vX:lp X (binaryOp .BitOr) Fm:=vT LV
abbrev B_:D->D->R D:=Cb fun i j=>Builtin.bitXor i j
theorem wx:lp X (binaryOp .BitXor) B_:=vT Jn
abbrev O4:D->D->R D:=Lu fun i j=>decide (i < j)
theorem NX:lp X (compareOp .Lt) O4:=D7 LY
abbrev U6:D->D->R D:=Lu fun i j=>decide (i<=j)
abbrev Ku:D->D->R D:=Lu fun i j=>decide (j < i)
theorem JT:lp X (compareOp .Gt) Ku:=D7 MA
abbrev OD:D->D->R D:=Lu fun i j=>decide (j<=i)
theorem Oj:lp X (compareOp .GtE) OD:=D7 Mr
theorem uo.DQ{K:W.Frag}{B:List Addr}{H:Hp}{a:Addr}{xs:List V}(h:H a=some (.lst xs))(n:a ∉ B):uo K B H a xs:= .inl ⟨n, .inl h⟩
theorem Inv.Kv{pins:Vr}{s:Shared}{a:Addr}{xs:List V}{B:List Addr}(I:Inv X pins σ H s)(h:uo X.K B H a xs):∃(its:List Value) (n:Nat),Vals xs its/\s.heap.get? a=some {cls:= .type "list",data:= .seq its.toArray n}/\xs.length<=sizeLine:=by
 rcases h with⟨_,h⟩ | ⟨its,n,hk,hz,r⟩
 .obtain⟨z,its,n,r,e⟩:=h.ok I.hok;exact⟨its,n,r,e,z⟩
 .exact⟨its,n,r,I.AR a _ hk,hz⟩
theorem AE:mK X (binaryOp .Add) (fun x y H Q=>∃B l b xs zs,x= .ref l/\y= .ref b/\uo X.K B H l xs/\uo X.K B H b zs/\xs.length+zs.length<=sizeLine/\∀p,H p=none->Q (.ref p) (upd H p (.lst (xs++zs)))):=by
 intro pins s σ H x y v u Q I rx ry h;obtain⟨B,l,b,xs,zs,rfl,rfl,hH,hB,hz,q⟩:=h;cases rx;cases ry;obtain⟨its,n,r,e,_⟩:=I.Kv hH;obtain⟨La,n2,r2,e2,_⟩:=I.Kv hB;have l1:=r.length;have l2:=r2.length;refine PySem.P.add_list e e2 ?_ (by rw[List.size_toArray,List.size_toArray];omega)
 have ea:its.toArray++La.toArray=(its++La).toArray:=by simp
 rw[ea];exact⟨.ref _,_,I.Gy (t':=s.toks) (r.append r2) (by rw[List.length_append];omega),rfl,q _ I.fresh⟩
def eD:D->D->R D
 | .int i, .int j=> .ok (.int (i+j))
 | .str a, .str b=>R.bH (decide (a.length+b.length<=sizeLine)) (.ok (.str (a++b)))
 | .lst a, .lst b=>R.bH (decide (a.length+b.length<=sizeLine)) (.ok (.lst (a++b)))
 | _,_=> .no
theorem el:lp X (binaryOp .Add) eD:=by
 intro pins s σ H B da db d x y v u I hb rx ry ra rb hg;unfold eD at hg;split at hg
 .cases hg;exact Kn pins s σ H x y v u _ I rx ry ⟨_,_,Rep.int.mp ra,Rep.int.mp rb,aO.refl H,Rep.int.mpr rfl⟩
 .obtain⟨h1,h2⟩:=R.bh hg;cases h2;exact z7 pins s σ H x y v u _ I rx ry ⟨_,_,Rep.str.mp ra,Rep.str.mp rb,of_decide_eq_true h1,aO.refl H,Rep.str.mpr rfl⟩
 .obtain⟨h1,h2⟩:=R.bh hg;cases h2;obtain⟨a1,PH,rfl,l1,r1⟩:=Rep.lst.mp ra;obtain⟨a2,Pn,rfl,l2,r2⟩:=Rep.lst.mp rb;refine AE pins s σ H _ _ v u _ I rx ry ⟨B,a1,a2,PH,Pn,rfl,rfl,l1,l2,by rw[<-r1.length,<-r2.length];exact of_decide_eq_true h1,fun p hp=>⟨aW hp,Rep.lst.mpr ⟨p,_,rfl, .DQ bf fun ha=>?_,(r1.append r2).same (aW hp)⟩⟩⟩
  obtain⟨o,ho⟩:=hb p ha;rw[hp] at ho;cases ho
 .cases hg
theorem GI:mK X (binaryOp .Mult) (fun x y H Q=>∃z n,x= .str z/\y= .int n/\MulOk z n/\Q (.str (Txt.mul z n)) H):=by
 intro pins s σ H x y v u Q I rx ry h;obtain⟨z,n,rfl,rfl,hm,q⟩:=h;obtain⟨t,rfl⟩:=rx;obtain⟨t',rfl⟩:=ry;exact SB.mul hm fun t2 k=>⟨.str _,H,I.tok _,⟨_,rfl⟩,q⟩
end
end L2
end
section
namespace L2
open PySem PySem.Spec PyProof.Rows
section
variable {X:Cx}
theorem mulOk_of{x:Str}{n:Int}(h1: -(2 ^ 63)<=n)(h2:n < 2 ^ 63)(h3:x.length*n.toNat<=sizeLine):MulOk x n:=by
 refine⟨by simp only[Bool.or_eq_false_iff,decide_eq_false_iff_not];omega,fun hn _=>?_,fun hn _=>?_⟩
 .have hz:sizeLine=16777216:=sizeLine_eq;have e:(n.toNat:Int)=n:=by omega
  have h4:(x.length:Int)*n<=16777216:=by
   have:((x.length*n.toNat:Nat):Int)<=((16777216:Nat):Int):=Int.ofNat_le.mpr (by omega)
   rw[Int.natCast_mul,e] at this;exact this
  have:(x.length:Int)<=(2 ^ 63 - 1) / n:=(Int.le_ediv_iff_mul_le (by omega)).mpr (by omega)
  omega
 .unfold Builtin.Str.tooLong;exact decide_eq_false (by omega)
def wq:D->D->R D
 | .int i, .int j=>R.bH (decide ((-(2 ^ 64) < i/\i < 2 ^ 64)\/(-(2 ^ 64) < j/\j < 2 ^ 64))) (.ok (.int (i*j)))
 | .str x, .int n=>R.bH (decide (-(2 ^ 63)<=n/\n < 2 ^ 63/\x.length*n.toNat<=sizeLine)) (.ok (.str (Txt.mul x n)))
 | _,_=> .no
theorem uW:lp X (binaryOp .Mult) wq:=by
 intro pins s σ H B da db d x y v u I hb rx ry ra rb hg;unfold wq at hg;split at hg
 .obtain⟨h1,h2⟩:=R.bh hg;cases h2;have h1:=of_decide_eq_true h1;exact K4 pins s σ H x y v u _ I rx ry ⟨_,_,Rep.int.mp ra,Rep.int.mp rb,h1,aO.refl H,Rep.int.mpr rfl⟩
 .obtain⟨h1,h2⟩:=R.bh hg;cases h2;have h1:=of_decide_eq_true h1;exact GI pins s σ H x y v u _ I rx ry ⟨_,_,Rep.str.mp ra,Rep.int.mp rb,mulOk_of h1.1 h1.2.1 h1.2.2,aO.refl H,Rep.str.mpr rfl⟩
 .cases hg
mutual
def toPy:D->PyData
 | .cn=> .none
 | .bl b=> .bool b
 | .int i=> .int i
 | .str x=> .str x
 | .lst ds=> .list (mC ds)
 | .tup ds=> .tuple (mC ds)
 | .dct _ _=> .dict []
def mC:List D->List PyData
 | []=>[]
 | d ::ds=>toPy d ::mC ds
end
mutual
def eL:D->Bool
 | .dct _ _=>false
 | .lst ds=>kA ds
 | .tup ds=>kA ds
 | _=>true
def kA:List D->Bool
 | []=>true
 | d ::ds=>eL d && kA ds
end
mutual
theorem Rep.reads{pins:Vr}{s:Shared}{B:List Addr}(I:Inv X pins σ H s):∀{d:D} {v:V} {u:Value},eL d=true->Rep X.K B H d v->RelV v u->∃as,Reads s.heap u (toPy d) as
 | .cn,v,u,_,r,q=>by rw[Rep.cn.mp r] at q;cases q;unfold toPy;exact⟨_, .none⟩
 | .bl b,v,u,_,r,q=>by rw[Rep.bl.mp r] at q;cases q;unfold toPy;exact⟨_, .bool b⟩
 | .int i,v,u,_,r,q=>by rw[Rep.int.mp r] at q;obtain⟨t,rfl⟩:=q;unfold toPy;exact⟨_, .int i t⟩
 | .str x,v,u,_,r,q=>by rw[Rep.str.mp r] at q;obtain⟨t,rfl⟩:=q;unfold toPy;exact⟨_, .str x t⟩
 | .lst ds,v,u,hp,r,q=>by
   obtain⟨a,xs,rfl,l,rs⟩:=Rep.lst.mp r;cases q;obtain⟨its,rv,⟨o,n,e,hc,hd,he⟩,_⟩:=I.list l.sq;obtain⟨as,ra⟩:=aC.reads I (by unfold eL at hp;exact hp) rs rv
   unfold toPy;exact⟨_, .list e hc he (by simpa using ra)⟩
 | .tup ds,v,u,hp,r,q=>by
   obtain⟨a,xs,rfl,l,rs⟩:=Rep.tup.mp r;cases q;obtain⟨its,rv,⟨o,e,hc,n,hd⟩,_⟩:=I.tuple l.sq;obtain⟨as,ra⟩:=aC.reads I (by unfold eL at hp;exact hp) rs rv
   unfold toPy;exact⟨_, .tuple e hc hd (by simpa using ra)⟩
 | .dct _ _,v,u,hp,r,q=>by unfold eL at hp;cases hp
theorem aC.reads{pins:Vr}{s:Shared}{B:List Addr}(I:Inv X pins σ H s):∀{ds:List D} {vs:List V} {us:List Value},kA ds=true->aC X.K B H ds vs->Vals vs us->∃as,ReadsAll s.heap us (mC ds) as
 | [],vs,us,_,r,q=>by unfold aC at r;subst r;cases q;unfold mC;exact⟨_, .nil⟩
 | d ::ds,vs,us,hp,r,q=>by
   obtain⟨x,xs,rfl,r1,r2⟩:=r.cc;cases q with
   | cons q1 q2=>
     unfold kA at hp;obtain⟨h1,h2⟩:=Bool.and_eq_true_iff.mp hp;obtain⟨as,a1⟩:=Rep.reads I h1 r1 q1;obtain⟨bs,a2⟩:=aC.reads I h2 r2 q2;unfold mC;exact⟨_, .cons a1 a2⟩
end
def AG:D->D->R Bool
 | .int i, .int j=> .ok (decide (i=j))
 | .str x, .str y=> .ok (decide (x=y))
 | .bl a, .bl b=> .ok (decide (a=b))
 | d,e=>R.bH (eL d && eL e && SeqAt.shaped (toPy d) && SeqAt.shaped (toPy e)) (.ok (PyData.eqv (toPy d) (toPy e)))
def kG(d e:D):R D:=(AG d e).bind fun b=> .ok (.bl b)
def yR(d e:D):R D:=(AG d e).bind fun b=> .ok (.bl (!b))
theorem kQ(hu:X.A.units+64 < cLine):lp X (compareOp .Eq) kG:=by
 intro pins s σ H B da db d x y v u I hb rx ry ra rb hg;obtain⟨b,h1,h2⟩:=R.ai hg;cases h2;unfold AG at h1;split at h1
 .cases h1;rename_i i j;have:=Dv pins s σ H x y v u (fun z H'=>aO H H'/\Rep X.K B H' (.bl (decide (i=j))) z) I rx ry
  rw[Rep.int.mp ra,Rep.int.mp rb] at this;refine this ⟨rfl,aO.refl H,Rep.bl.mpr ?_⟩;simp [V.int.injEq]
 .cases h1;rename_i i j;have:=Dv pins s σ H x y v u (fun z H'=>aO H H'/\Rep X.K B H' (.bl (decide (i=j))) z) I rx ry
  rw[Rep.str.mp ra,Rep.str.mp rb] at this;refine this ⟨rfl,aO.refl H,Rep.bl.mpr ?_⟩;simp [V.str.injEq]
 .cases h1;rename_i i j;have:=Dv pins s σ H x y v u (fun z H'=>aO H H'/\Rep X.K B H' (.bl (decide (i=j))) z) I rx ry
  rw[Rep.bl.mp ra,Rep.bl.mp rb] at this;refine this ⟨rfl,aO.refl H,Rep.bl.mpr ?_⟩;simp [V.bl.injEq]
 .obtain⟨h3,h4⟩:=R.bh h1;cases h4;simp only[Bool.and_eq_true] at h3;obtain⟨⟨⟨p1,p2⟩,s1⟩,s2⟩:=h3;obtain⟨as,r1⟩:=ra.reads I p1 rx;obtain⟨bs,r2⟩:=rb.reads I p2 ry;exact eq_dataH r1 r2 s1 s2 hu ⟨.bl _,H,I,rfl,aO.refl H,Rep.bl.mpr rfl⟩
theorem v7(hu:X.A.units+64 < cLine):lp X (compareOp .NotEq) yR:=by
 intro pins s σ H B da db d x y v u I hb rx ry ra rb hg;obtain⟨b,h1,h2⟩:=R.ai hg;cases h2;unfold AG at h1;split at h1
 .cases h1;rename_i i j;have:=C4 pins s σ H x y v u (fun z H'=>aO H H'/\Rep X.K B H' (.bl (!decide (i=j))) z) I rx ry
  rw[Rep.int.mp ra,Rep.int.mp rb] at this;refine this ⟨rfl,aO.refl H,Rep.bl.mpr ?_⟩;simp [V.int.injEq]
 .cases h1;rename_i i j;have:=C4 pins s σ H x y v u (fun z H'=>aO H H'/\Rep X.K B H' (.bl (!decide (i=j))) z) I rx ry
  rw[Rep.str.mp ra,Rep.str.mp rb] at this;refine this ⟨rfl,aO.refl H,Rep.bl.mpr ?_⟩;simp [V.str.injEq]
 .cases h1;rename_i i j;have:=C4 pins s σ H x y v u (fun z H'=>aO H H'/\Rep X.K B H' (.bl (!decide (i=j))) z) I rx ry
  rw[Rep.bl.mp ra,Rep.bl.mp rb] at this;refine this ⟨rfl,aO.refl H,Rep.bl.mpr ?_⟩;simp [V.bl.injEq]
 .obtain⟨h3,h4⟩:=R.bh h1;cases h4;simp only[Bool.and_eq_true] at h3;obtain⟨⟨⟨p1,p2⟩,s1⟩,s2⟩:=h3;obtain⟨as,r1⟩:=ra.reads I p1 rx;obtain⟨bs,r2⟩:=rb.reads I p2 ry;exact ne_dataH r1 r2 s1 s2 hu ⟨.bl _,H,I,rfl,aO.refl H,Rep.bl.mpr rfl⟩
def strs?:List D->Option (List Str)
 | []=>some []
 | .str x ::ds=>(strs? ds).map (x ::·)
 | _ ::_=>none
theorem k9{K:W.Frag}{B:List Addr}:∀{ds:List D} {xs:List V} {ss:List Str},aC K B H ds xs->strs? ds=some ss->xs=ss.map V.str
 | [],xs,ss,r,h=>by unfold aC at r;subst r;cases h;rfl
 | d ::ds,xs,ss,r,h=>by
   obtain⟨x,r',rfl,r1,r2⟩:=r.cc;cases d with
   | str z=>
     unfold strs? at h;cases e:strs? ds with
     | none=>rw [e] at h;cases h
     | some tt=>
       rw[e] at h;cases h;rw[Rep.str.mp r1,k9 r2 e];rfl
   | _=>cases h
def ints?:List D->Option (List Int)
 | []=>some []
 | .int x ::ds=>(ints? ds).map (x ::·)
 | _ ::_=>none
theorem dy{K:W.Frag}{B:List Addr}:∀{ds:List D} {xs:List V} {ss:List Int},aC K B H ds xs->ints? ds=some ss->xs=ss.map V.int
 | [],xs,ss,r,h=>by unfold aC at r;subst r;cases h;rfl
 | d ::ds,xs,ss,r,h=>by
   obtain⟨x,r',rfl,r1,r2⟩:=r.cc;cases d with
   | int z=>
     unfold ints? at h;cases e:ints? ds with
     | none=>rw [e] at h;cases h
     | some tt=>
       rw[e] at h;cases h;rw[Rep.int.mp r1,dy r2 e];rfl
   | _=>cases h
def inD(d e:D):R Bool:=match d,e with
 | .str x, .lst ds=>(match strs? ds with | some ss=> .ok (ss.contains x) | none=> .no)
 | .str x, .tup ds=>(match strs? ds with | some ss=> .ok (ss.contains x) | none=> .no)
 | .str x, .str y=> .ok (!(Builtin.Str.occurrences y x 0 y.length 1).isEmpty)
 | .int x, .lst ds=>(match ints? ds with | some ss=> .ok (ss.contains x) | none=> .no)
 | .int x, .tup ds=>(match ints? ds with | some ss=> .ok (ss.contains x) | none=> .no)
 | _,_=> .no
def Iq(d e:D):R D:=(inD d e).bind fun b=> .ok (.bl b)
def O_(d e:D):R D:=(inD d e).bind fun b=> .ok (.bl (!b))
theorem sM(x:Str):∀ss:List Str,D_ (.str x) (ss.map V.str)=ss.contains x
 | []=>rfl
 | y ::ss=>by
   unfold D_;rw[List.map_cons,List.any_cons];have ih:=sM x ss;unfold D_ at ih;rw[ih];show(y==x || ss.contains x)=_
   rw[List.contains_cons];congr 1;exact Bool.eq_iff_iff.mpr ⟨fun h=>by simpa using(beq_iff_eq.mp h).symm,fun h=>by simpa using(beq_iff_eq.mp h).symm⟩
theorem sr(x:Int):∀ss:List Int,D_ (.int x) (ss.map V.int)=ss.contains x
 | []=>rfl
 | y ::ss=>by
   unfold D_;rw[List.map_cons,List.any_cons];have ih:=sr x ss;unfold D_ at ih;rw[ih];show(y==x || ss.contains x)=_
   rw[List.contains_cons];congr 1;exact Bool.eq_iff_iff.mpr ⟨fun h=>by simpa using(beq_iff_eq.mp h).symm,fun h=>by simpa using(beq_iff_eq.mp h).symm⟩
theorem vn(ss:List Int):(ss.map V.int).all lu=true:=by
 rw[List.all_map];simp [List.all_eq_true,lu]
theorem vI(ss:List Str):(ss.map V.str).all lu=true:=by
 rw[List.all_map];simp [List.all_eq_true,lu]
theorem Jv{neg:Bool}{op:CmpOp}{g:D->D->R D}(h1:mK X (compareOp op) (Qv X.K neg))(h2:mK X (compareOp op) (fun x y H Q=>∃i j,x= .str i/\y= .str j/\Q (.bl (if neg then !(!(Builtin.Str.occurrences j i 0 j.length 1).isEmpty) else(!(Builtin.Str.occurrences j i 0 j.length 1).isEmpty))) H))
 (hg:∀d e r,g d e= .ok r->∃b,inD d e= .ok b/\r= .bl (if neg then !b else b)):lp X (compareOp op) g:=by
 intro pins s σ H B da db d x y v u I hb rx ry ra rb hg';obtain⟨b,hi,rfl⟩:=hg da db d hg';unfold inD at hi;split at hi
 .rename_i z ds;split at hi
  .rename_i ss e;cases hi;obtain⟨a,xs,rfl,l,rs⟩:=Rep.lst.mp rb;refine h1 pins s σ H x _ v u _ I rx ry ⟨a,xs,rfl, .inl l.sq,by rw[Rep.str.mp ra];rfl,by rw[k9 rs e];exact vI _,aO.refl H,Rep.bl.mpr ?_⟩
   rw[k9 rs e,Rep.str.mp ra,sM]
  .cases hi
 .rename_i z ds;split at hi
  .rename_i ss e;cases hi;obtain⟨a,xs,rfl,l,rs⟩:=Rep.tup.mp rb;refine h1 pins s σ H x _ v u _ I rx ry ⟨a,xs,rfl, .inr l.sq,by rw[Rep.str.mp ra];rfl,by rw[k9 rs e];exact vI _,aO.refl H,Rep.bl.mpr ?_⟩
   rw[k9 rs e,Rep.str.mp ra,sM]
  .cases hi
 .cases hi;exact h2 pins s σ H x y v u _ I rx ry ⟨_,_,Rep.str.mp ra,Rep.str.mp rb,aO.refl H,Rep.bl.mpr rfl⟩
 .rename_i z ds;split at hi
  .rename_i ss e;cases hi;obtain⟨a,xs,rfl,l,rs⟩:=Rep.lst.mp rb;refine h1 pins s σ H x _ v u _ I rx ry ⟨a,xs,rfl, .inl l.sq,by rw[Rep.int.mp ra];rfl,by rw[dy rs e];exact vn _,aO.refl H,Rep.bl.mpr ?_⟩
   rw[dy rs e,Rep.int.mp ra,sr]
  .cases hi
 .rename_i z ds;split at hi
  .rename_i ss e;cases hi;obtain⟨a,xs,rfl,l,rs⟩:=Rep.tup.mp rb;refine h1 pins s σ H x _ v u _ I rx ry ⟨a,xs,rfl, .inr l.sq,by rw[Rep.int.mp ra];rfl,by rw[dy rs e];exact vn _,aO.refl H,Rep.bl.mpr ?_⟩
   rw[dy rs e,Rep.int.mp ra,sr]
  .cases hi
 .cases hi
theorem Gu:lp X (compareOp .In) Iq:=Jv (neg:=false) vH Ck fun d e r h=>by
 obtain⟨b,h1,h2⟩:=R.ai h;cases h2;exact⟨b,h1,rfl⟩
def bW(d e:D):R D:=match d,e with
 | .lst ds, .int i=>(match rS ds i with | some x=> .ok x | none=> .no)
 | .tup ds, .int i=>(match rS ds i with | some x=> .ok x | none=> .no)
 | .str x, .int i=>R.bH (decide (x.length<=sizeLine)) (match rS x.cps.toList i with | some c=> .ok (.str ⟨#[c]⟩) | none=> .no)
 | _,_=> .no
theorem qg{K:W.Frag}{B:List Addr}{ds:List D}{xs:List V}{i:Int}{d:D}(r:aC K B H ds xs)(h:rS ds i=some d):∃x,rS xs i=some x/\Rep K B H d x:=by
 unfold rS at h ⊢;rw[<-r.length];cases e:Cg ds.length i with
 | none=>rw [e] at h;cases h
 | some j=>
   rw[e] at h;exact r.get h
theorem Mp(ha:PD X a fa)(hb:PD X b fb)(hs:r_ b):PD X (.Subscript a b pos) (e2 bW fa fb):=by
 refine(Ih (r:=OY X.K) Fe ha hb hs).imp fun σ H Q ⟨Z,B,δ,d,E,hf,q⟩=>?_
 obtain⟨d1,h1,h2⟩:=R.ai hf;obtain⟨d2,h3,h4⟩:=R.ai h2;refine⟨Z,B,δ,d1,E,h1,fun v1 H1 s1 r1=>⟨Z,B,δ,d2,E.same s1,h3,fun v2 H2 s2 r2=>?_⟩⟩
 have vM:=r1.same s2;unfold bW at h4;split at h4
 .split at h4
  .rename_i e;cases h4;obtain⟨p,xs,rfl,l,rs⟩:=Rep.lst.mp vM;obtain⟨y,e1,e2⟩:=qg rs e;exact .inl ⟨p,xs,_,y,rfl,Rep.int.mp r2,l.sq,e1,q y H2 (s1.trans s2) e2⟩
  .cases h4
 .split at h4
  .rename_i e;cases h4;obtain⟨p,xs,rfl,l,rs⟩:=Rep.tup.mp vM;obtain⟨y,e1,e2⟩:=qg rs e;exact .inr (.inl ⟨p,xs,_,y,rfl,Rep.int.mp r2,l.sq,e1,q y H2 (s1.trans s2) e2⟩)
  .cases h4
 .obtain⟨hl,h5⟩:=R.bh h4;split at h5
  .rename_i e;cases h5;exact .inr (.inr ⟨_,_,_,Rep.str.mp vM,Rep.int.mp r2,of_decide_eq_true hl,e,q _ H2 (s1.trans s2) (Rep.str.mpr rfl)⟩)
  .cases h5
 .cases h4
abbrev FO:=av->R (Option Int)
def SD(K:W.Frag)(f:FO):TO:=fun σ H Q=>∃Z B δ o,eG K Z B H σ δ/\f δ= .ok o/\∀H',aO H H'->Q o H'
theorem PO.imp{X:Cx}{e:Option Expr}{t t':TO}(h:PO X e t)(w:∀σ H Q,t' σ H Q->t σ H Q):PO X e t':=fun pins s σ H Q I hq=>h pins s σ H Q I (w σ H Q hq)
abbrev PP(X:Cx)(e:Option Expr)(f:FO):Prop:=PO X e (SD X.K f)
def El:FO:=fun _=> .ok none
def xA(f:FD):FO:=fun δ=>(f δ).bind fun d=>match d with | .int i=> .ok (some i) | _=> .no
theorem Hv:PP X none El:=Gs.imp fun σ H Q ⟨Z,B,δ,o,E,hf,q⟩=>by cases hf;exact q H (aO.refl H)
theorem G6(h:PD X e f):PP X (some e) (xA f):=(HF h).imp fun σ H Q ⟨Z,B,δ,o,E,hf,q⟩=>by
 obtain⟨d,h1,h2⟩:=R.ai hf;cases d with
 | int i=>cases h2;exact⟨Z,B,δ, .int i,E,h1,fun v H1 s1 r1=>⟨i,Rep.int.mp r1,q H1 s1⟩⟩
 | _=>cases h2
theorem JF:KD X (fun x lo hi H Q=>∃z,x= .str z/\z.length<=sizeLine/\Q (.str (Txt.slice z lo hi)) H):=by
 intro pins s σ H x v vl vu lo hi sl Q I rx hs pl pu h;obtain⟨z,rfl,hz,q⟩:=h;obtain⟨t,rfl⟩:=rx;refine⟨"str",_,F.slot_str_getitem.lookup,typeIs_str _ _ _,?_⟩;have fin:∀t' k,EP X pins σ Q (.str (Txt.slice z lo hi) t') {s with toks:=k}:=fun t' k=>⟨.str _,H,I.tok _,⟨_,rfl⟩,q⟩
 obtain⟨o,ho,hc,hd⟩:=hs;cases pl with
 | none=>
   cases pu with
   | none=>exact wpAny_getItem_str_slice (l:=none) (u:=none) (st:=none) ⟨o,ho,hc,hd⟩ rfl (post_val_or_str ⟨Nat.le_trans (Txt.slice_le z _ _) hz,fin⟩)
   | int j u=>exact wpAny_getItem_str_slice (l:=none) (u:=some (j,u)) (st:=none) ⟨o,ho,hc,hd⟩ rfl (post_val_or_str ⟨Nat.le_trans (Txt.slice_le z _ _) hz,fin⟩)
 | int i t1=>
   cases pu with
   | none=>exact wpAny_getItem_str_slice (l:=some (i,t1)) (u:=none) (st:=none) ⟨o,ho,hc,hd⟩ rfl (post_val_or_str ⟨Nat.le_trans (Txt.slice_le z _ _) hz,fin⟩)
   | int j u=>exact wpAny_getItem_str_slice (l:=some (i,t1)) (u:=some (j,u)) (st:=none) ⟨o,ho,hc,hd⟩ rfl (post_val_or_str ⟨Nat.le_trans (Txt.slice_le z _ _) hz,fin⟩)
def cutD{α:Type}(xs:List α)(lo hi:Option Int):List α:=(xs.drop (HT.rY xs.length 0 lo)).take (HT.rY xs.length xs.length hi - HT.rY xs.length 0 lo)
def Mm(d:D)(lo hi:Option Int):R D:=match d with
 | .str x=>R.bH (decide (x.length<=sizeLine)) (.ok (.str (Txt.slice x lo hi)))
 | .lst ds=> .ok (.lst (cutD ds lo hi))
 | _=> .no
theorem DK{K:W.Frag}{B:List Addr}{ds:List D}{xs:List V}(r:aC K B H ds xs)(lo hi:Option Int):aC K B H (cutD ds lo hi) (yX xs lo hi):=by
 unfold cutD yX;rw[<-r.length];exact(r.drop _).take _
def LX(f:FD)(fl fh:FO):FD:=fun δ=>(f δ).bind fun d=>(fl δ).bind fun lo=>(fh δ).bind fun hi=>Mm d lo hi
theorem LD{lo hi:Option Expr}{fl fh:FO}(he:PD X e f)(hl:PP X lo fl)(hh:PP X hi fh):PD X (.Subscript e (.Slice lo hi none p2) pos) (LX f fl fh):=by
 refine(D6 (JF.or Gf) he hl hh).imp fun σ H Q ⟨Z,B,δ,d,E,hf,q⟩=>?_
 obtain⟨d1,h1,h2⟩:=R.ai hf;obtain⟨l,h3,h4⟩:=R.ai h2;obtain⟨h,h5,h6⟩:=R.ai h4;refine⟨Z,B,δ,d1,E,h1,fun v1 H1 s1 r1=>⟨Z,B,δ,l,E.same s1,h3,fun H2 s2=>⟨Z,B,δ,h,(E.same s1).same s2,h5,fun H3 s3=>?_⟩⟩⟩
 have sA:aO H H3:=s1.trans (s2.trans s3);have vM:=r1.same (s2.trans s3);unfold Mm at h6;split at h6
 .obtain⟨hz,h7⟩:=R.bh h6;cases h7;exact .inl ⟨_,Rep.str.mp vM,of_decide_eq_true hz,q _ H3 sA (Rep.str.mpr rfl)⟩
 .cases h6;obtain⟨a,xs,rfl,ls,rs⟩:=Rep.lst.mp vM;refine .inr ⟨a,xs,rfl,ls.sq,fun p hp=>q _ _ (sA.trans (aW hp)) (Rep.lst.mpr ⟨p,_,rfl, .DQ bf fun ha=>?_,(DK rs l h).same (aW hp)⟩)⟩
  obtain⟨o,ho⟩:=(E.same sA).bs p ha;rw[hp] at ho;cases ho
 .cases h6
end
end L2
end
section
namespace L2
open PySem PySem.Spec PyProof.Rows
section
variable {X:Cx}
theorem aC.one{K:W.Frag}{B:List Addr}{d:D}{xs:List V}(h:aC K B H [d] xs):∃x,xs=[x]/\Rep K B H d x:=by
 obtain⟨x,r,rfl,h1,h2⟩:=h.cc;unfold aC at h2;subst h2;exact⟨x,rfl,h1⟩
theorem aC.two{K:W.Frag}{B:List Addr}{d e:D}{xs:List V}(h:aC K B H [d,e] xs):∃x y,xs=[x,y]/\Rep K B H d x/\Rep K B H e y:=by
 obtain⟨x,r,rfl,h1,h2⟩:=h.cc;obtain⟨y,rfl,h3⟩:=h2.one;exact⟨x,y,rfl,h1,h3⟩
def gU:List D->R D
 | [.str x]=>R.bH (decide (x.length<=sizeLine)) (.ok (.int x.length))
 | [.lst ds]=> .ok (.int ds.length)
 | [.tup ds]=> .ok (.int ds.length)
 | _=> .no
theorem gJ:cQ X (.builtin "len") gU:=cQ.of C5 fun B H ds d xs Q _ rs hg q=>by
 unfold gU at hg;split at hg
 .obtain⟨h1,h2⟩:=R.bh hg;cases h2;obtain⟨x,rfl,r⟩:=rs.one;exact⟨x,_,rfl,by rw[Rep.str.mp r];exact⟨of_decide_eq_true h1,rfl⟩,q _ H (aO.refl H) (Rep.int.mpr rfl)⟩
 .cases hg;obtain⟨x,rfl,r⟩:=rs.one;obtain⟨a,ys,rfl,l,r⟩:=Rep.lst.mp r;exact⟨_,_,rfl, .inl ⟨ys,l.sq,rfl⟩,q _ H (aO.refl H) (Rep.int.mpr (by rw[r.length]))⟩
 .cases hg;obtain⟨x,rfl,r⟩:=rs.one;obtain⟨a,ys,rfl,l,r⟩:=Rep.tup.mp r;exact⟨_,_,rfl, .inr ⟨ys,l.sq,rfl⟩,q _ H (aO.refl H) (Rep.int.mpr (by rw[r.length]))⟩
 .cases hg
def cInt:List D->R D
 | [.int i]=> .ok (.int i)
 | [.bl b]=> .ok (.int (if b then 1 else 0))
 | _=> .no
theorem LK:cQ X (.type "int") cInt:=cQ.of BH fun B H ds d xs Q _ rs hg q=>by
 unfold cInt at hg;split at hg
 .cases hg;obtain⟨x,rfl,r⟩:=rs.one;exact .inl ⟨_,by rw[Rep.int.mp r],q _ H (aO.refl H) (Rep.int.mpr rfl)⟩
 .cases hg;obtain⟨x,rfl,r⟩:=rs.one;exact .inr ⟨_,by rw[Rep.bl.mp r],q _ H (aO.refl H) (Rep.int.mpr rfl)⟩
 .cases hg
def cStr:List D->R D
 | [.int i]=>R.bH (decide (i.natAbs.log2 < 1920)) (.ok (.str (toString i)))
 | _=> .no
def Kg:List D->R D
 | [.int i, .int j]=> .ok (.int (if j < i then j else i))
 | _=> .no
theorem Mq(hc:X.calm=true):cQ X (.builtin "min") Kg:=cQ.of (Cy hc) fun B H ds d xs Q _ rs hg q=>by
 unfold Kg at hg;split at hg
 .cases hg;obtain⟨x,y,rfl,r1,r2⟩:=rs.two;exact⟨_,_,by rw[Rep.int.mp r1,Rep.int.mp r2],q _ H (aO.refl H) (Rep.int.mpr rfl)⟩
 .cases hg
def Jp:List D->R D
 | [.int i, .int j]=> .ok (.int (if j > i then j else i))
 | _=> .no
theorem MC(hc:X.calm=true):cQ X (.builtin "max") Jp:=cQ.of (CD hc) fun B H ds d xs Q _ rs hg q=>by
 unfold Jp at hg;split at hg
 .cases hg;obtain⟨x,y,rfl,r1,r2⟩:=rs.two;exact⟨_,_,by rw[Rep.int.mp r1,Rep.int.mp r2],q _ H (aO.refl H) (Rep.int.mpr rfl)⟩
 .cases hg
def mM:List D->R D
 | [.lst ds]=> .ok (.tup ds)
 | [.tup ds]=> .ok (.tup ds)
 | _=> .no
theorem pK:cQ X (.type "tuple") mM:=cQ.of uN fun B H ds d xs Q hb rs hg q=>by
 unfold mM at hg;split at hg
 .cases hg;obtain⟨x,rfl,r⟩:=rs.one;obtain⟨a,ys,rfl,l,r⟩:=Rep.lst.mp r;refine⟨a,ys,rfl, .inl ⟨l.sq,fun p hp=>q _ _ (aW hp) (Rep.tup.mpr ⟨p,ys,rfl, .inl ⟨fun ha=>?_, .inl bf⟩,r.same (aW hp)⟩)⟩⟩
  obtain⟨o,ho⟩:=hb p ha;rw[hp] at ho;cases ho
 .cases hg;obtain⟨x,rfl,r⟩:=rs.one;have r0:=r;obtain⟨a,ys,rfl,l,r⟩:=Rep.tup.mp r;exact⟨a,ys,rfl, .inr ⟨l.sq,q _ H (aO.refl H) r0⟩⟩
 .cases hg
def Qw:List D->R D
 | [.lst ds]=> .ok (.lst ds)
 | [.tup ds]=> .ok (.lst ds)
 | _=> .no
def cAbs:List D->R D
 | [.int i]=> .ok (.int (if i < 0 then -i else i))
 | _=> .no
theorem Io:cQ X (.builtin "abs") cAbs:=cQ.of C6 fun B H ds d xs Q _ rs hg q=>by
 unfold cAbs at hg;split at hg
 .cases hg;obtain⟨x,rfl,r⟩:=rs.one;exact⟨_,by rw[Rep.int.mp r],q _ H (aO.refl H) (Rep.int.mpr rfl)⟩
 .cases hg
def JI:List D->R D
 | [.lst ds]=>(match ints? ds with | some ns=> .ok (.int ns.sum) | none=> .no)
 | _=> .no
theorem fO:∀{ns:List Int} {us:List Value},Vals (ns.map V.int) us->∃l:List (Int × Tok),us=l.map (fun p=>Value.int p.1 p.2)/\l.map (·.1)=ns
 | [],_, .nil=>⟨[],rfl,rfl⟩
 | n ::ns,_, .cons r t=>by
   obtain⟨l,rfl,e⟩:=fO t;obtain⟨tk,rfl⟩:=r;exact⟨(n,tk) ::l,rfl,by rw[List.map_cons,e]⟩
theorem L_(hc:X.calm=true):cQ X (.builtin "sum") JI:=by
 intro pins s σ H B ds d xs us I hb rx rs hg;unfold JI at hg;split at hg
 .split at hg
  .rename_i es ns e;cases hg;obtain⟨x,rfl,r⟩:=rs.one;obtain⟨a,ys,rfl,l,r⟩:=Rep.lst.mp r;obtain⟨u,rfl,ru⟩:=vals1 rx;cases ru;obtain⟨its,n,rv,e1,hz⟩:=I.Kv l;rw[dy r e] at rv;obtain⟨ps,rfl,rfl⟩:=fO rv;have hl:s.heap.IsList a (intItems ps.toArray):=⟨_,e1,rfl,n,by simp [intItems]⟩
   refine sum_intListG (I.ok.hd hc) hl fun h' tk t' k=>⟨.int _,H,I.kept k,⟨t',rfl⟩,aO.refl H,Rep.int.mpr ?_⟩
   rw[preSum_eq,List.take_of_length_le (by simp)]
  .cases hg
 .cases hg
def tyName:D->String
 | .cn=>"NoneType" | .bl _=>"bool" | .int _=>"int" | .str _=>"str" | .lst _=>"list" | .tup _=>"tuple" | .dct _ _=>"dict"
def RM(T:String)(f:FD):FD:=fun δ=>(f δ).bind fun d=>R.bH (tyName d==T && d.atom) (.ok (.bl true))
def UT(X:Cx)(id:String)(g:D->List D->R D):Prop:=
 ∀(pins:Vr) (s:Shared) (σ:St) (H:Hp) (B:List Addr) (da d:D) (ds:List D) (x:V) (xs:List V) (v:Value) (us:List Value),Inv X pins σ H s->(∀a∈B,∃o,H a=some o)->RelV x v->Vals xs us->Rep X.K B H da x->aC X.K B H ds xs->g da ds= .ok d->
  wpAny (model X.prog X.w) X.A (call (.builtin id) (v ::us)) (EP X pins σ fun z H'=>aO H H'/\Rep X.K B H' d z) X.xe s
def U4(T:String)(g:D->List D->R D)(f:FD)(fs:av->R (List D)):FD:=fun δ=>(f δ).bind fun d=>R.bH (tyName d==T && (d.atom || T=="list")) ((fs δ).bind fun ds=>g d ds)
def Qi(d:D)(ds:List D):R D:=match d,ds with
 | .str sep,[.lst es]=>(match strs? es with | some ss=>R.bH (JoinOk sep ss) (.ok (.str (Str.join sep ss))) | none=> .no)
 | _,_=> .no
abbrev PJ(X:Cx)(es:List Expr)(f:av->R (List Str)):Prop:=
 ∀(pins:Vr) (s:Shared) (σ:St) (H:Hp) (Z B:List Addr) (δ:av) (acc:Str) (ss:List Str) (Q:VK),Inv X pins σ H s->eG X.K Z B H σ δ->f δ= .ok ss->(ss.foldl (·++·) acc).length<=sizeLine->(∀H',aO H H'->Q (.str (ss.foldl (·++·) acc)) H')->
  wpAny (model X.prog X.w) X.A (joinParts acc (evalEach es X.env)) (EP X pins σ Q) X.xe s
def So:av->R (List Str):=fun _=> .ok []
def QH(f:FD)(g:av->R (List Str)):av->R (List Str):=fun δ=>(f δ).bind fun d=>match d with | .str x=>(g δ).bind fun ss=> .ok (x ::ss) | _=> .no
def Nq(g:av->R (List Str)):FD:=fun δ=>(g δ).bind fun ss=>R.bH (decide ((ss.foldl (·++·) Str.empty).length<=sizeLine)) (.ok (.str (ss.foldl (·++·) Str.empty)))
def NY:D->R D
 | .str x=>R.bH (decide (x.length<=sizeLine)) (.ok (.str x))
 | .int i=>R.bH (decide (i.natAbs.log2 < 1920)) (.ok (.str (toString i)))
 | _=> .no
def RA(f:FD):FD:=fun δ=>(f δ).bind NY
def LQ:List (D × D)->Str->R (Option D)
 | [],_=> .ok none
 | (.str y,d) ::r,x=>(LQ r x).bind fun o=> .ok (match o with | some e=>some e | none=>if y=x then some d else none)
 | _ ::_,_=> .no
def MZ(x:Str):List D:=x.cps.toList.map fun c=> .str ⟨#[c]⟩
def U1(x:Str):It:=⟨fun i _=>i < x.cps.size,fun i H v H'=>H'=H/\∃c,x.cps[i]? =some c/\v= .str ⟨#[c]⟩,fun i _=>x.cps.size<=i⟩
def QG(f:FD):av->R (List D):=fun δ=>(f δ).bind fun d=>match d with | .str x=> .ok (MZ x) | _=> .no
def Rx(K:W.Frag)(a:Addr):It:=
 ⟨fun i H=>∃xs x,pL K H a xs/\xs[i]? =some x,fun i H v H'=>∃p x,H p=none/\v= .ref p/\(∀xs,pL K H a xs->xs[i]? =some x)/\H'=upd H p (.tup [.int i,x]),fun i H=>∃xs,pL K H a xs/\xs.length<=i⟩
theorem Ct{K:W.Frag}{k:Nat}(a e it:Addr)(Lx:e≠it):Turn P w K (.Tuple elts k pos) (Rx K a) [e,it] e (fun i h=>(∃old,IsEnum h e it ((i:Nat):Int) old)/\h.IsListIter it a i) where
 mem:=by simp
 obj:=fun i h st b hb=>by
  obtain⟨⟨old,he⟩,o,ho,c,d⟩:=st;rcases List.mem_cons.mp hb with rfl | hb
  .exact⟨_,he,fun v z=>by cases z⟩
  .have e:b=it:=by simpa using hb
   subst e;exact⟨o,ho,fun v z=>by rw[d] at z;cases z⟩
 keep:=fun i h h' st k=>by
  obtain⟨⟨old,he⟩,hi⟩:=st;exact⟨⟨old,k e (by simp) _ he⟩,hi.at fun o x=>k it (by simp) o x⟩
 item:=by
  intro X hP hw hK hc i pins s σ H E I hf st hg;subst hP hw hK;obtain⟨xs,x,hq,hx⟩:=hg;obtain⟨its,rv,p,hz⟩:=I.list hq;obtain⟨u,hu,ru⟩:=rv.get hx;obtain⟨⟨old,he⟩,hit⟩:=st;obtain⟨f0,f1,f2,f3,f4,f5⟩:=hf e (by simp)
  obtain⟨g0,g1,g2,g3,g4,g5⟩:=hf it (by simp)
  refine wpAny_pyNext_enum_item he hit p.isList (x:=u) (by simpa using hu) Lx fun i4 F5 Aq Fx oz vL=>⟨_,rfl,?_⟩
  refine wpAny_letOwnedTupleGo_enum F5 fun gc Fy cY=>?_
  replace cY:Heap.SameBut e i4 gc:=cY
  have hel:e < s.heap.objs.size:=Heap.lt_size he;have yQ:gc.get? s.heap.objs.size=some {cls:= .type "tuple",data:= .seq #[.int i s.toks,u]}:=(cY.2 _ (Nat.ne_of_gt hel)).trans Fx;have kk:∀b o,b≠e->b≠it->s.heap.get? b=some o->gc.get? b=some o:=fun b o h1 h2 q=>(cY.2 b h1).trans (vL b o h1 h2 q)
  have hn:H s.heap.objs.size=none:=I.fresh;have sm:aO H (upd H s.heap.objs.size (.tup [.int i,x])):=aW hn;have nit:∀b o,H b=some o->b≠e/\b≠it:=fun b o q=>⟨fun z=>(by rw[z,f0] at q;cases q),fun z=>(by rw[z,g0] at q;cases q)⟩
  have hok:oj X.prog X.w (upd H s.heap.objs.size (.tup [.int i,x])) gc:=fun b ob q=>by
   by_cases hb:b=s.heap.objs.size
   .subst hb;rw[bf] at q;cases q;exact⟨by show 2<=sizeLine;decide,[.int i s.toks,u], .cons ⟨_,rfl⟩ (.cons ru .nil),⟨_,yQ,rfl,_,rfl⟩⟩
   .rw [aZ hb] at q;refine(I.hok b ob q).wo (fun c v hc z=>?_) (fun c z=>sm c _ z) fun c ys z=>sm c _ z
    rcases hc with rfl | hc
    .exact kk c v (nit c _ q).1 (nit c _ q).2 z
    .exact kk c v (nit c _ hc).1 (nit c _ hc).2 z
  have nch:∀b,b ∉ [e,it]->b≠e/\b≠it:=fun b hb=>⟨fun z=>hb (by simp [z]),fun z=>hb (by simp [z])⟩
  have I2:Inv X pins σ (upd H s.heap.objs.size (.tup [.int i,x])) {s with heap:=gc,toks:=s.toks+1}:=by
   refine I.step (g':=s.gens) (d':=s.drawn) (ch:=[e,it]) (fun b hb=>?_) (fun b o _ _ hb q _=>kk b o (nch b hb).1 (nch b hb).2 q) (fun b o _ _ hb q _=>⟨o.slots,kk b o (nch b hb).1 (nch b hb).2 q⟩)
    (fun b o hb q n=>by rw[aZ (Nat.ne_of_lt (Heap.lt_size q))];exact n) (fun b o hb q=>⟨o,kk b o (nch b hb).1 (nch b hb).2 q⟩) (fun b ys z=>sm b _ z) (fun b o u z=>sm b _ z) (fun b ps z=>⟨#[],by rw[sm b _ z];simp⟩) (fun m hm=>?_) hok I.bare
   .rcases List.mem_cons.mp hb with rfl | hb
    .exact⟨f3,f1,f4,f5⟩
    .have z:b=it:=by simpa using hb
     subst z;exact⟨g3,g1,g4,g5⟩
   .obtain⟨o,es,ep,ho,r⟩:=hm;exact⟨o,es,ep,kk _ o (Ne.symm f1) (Ne.symm g1) ho,r⟩
  refine⟨.ref s.heap.objs.size,_,I2,rfl,⟨s.heap.objs.size,x,hn,rfl,fun ys hy=>(by rw[I.qe hy hq];exact hx),rfl⟩,⟨⟨_,by simpa using Fy⟩,Aq.at fun o q=>(cY.2 it (Ne.symm Lx)).trans q⟩,fun b hb=>?_⟩
  rcases List.mem_cons.mp hb with rfl | hb
  .rw [aZ (Nat.ne_of_lt hel)];exact f0
  .have z:b=it:=by simpa using hb
   subst z;obtain⟨o,ho,_⟩:=hit;rw[aZ (Nat.ne_of_lt (Heap.lt_size ho))];exact g0
 done:=by
  intro X hP hw hK hc i pins s σ H E I hf st hg;subst hP hw hK;obtain⟨xs,hq,hx⟩:=hg;obtain⟨its,rv,p,hz⟩:=I.list hq;obtain⟨⟨old,he⟩,hit⟩:=st;obtain⟨g0,g1,g2,g3,g4,g5⟩:=hf it (by simp)
  have hl:=rv.length;exact wpAny_pyNext_enum_end (I.ok.hd hc) he hit p.isList (by simp;omega) fun h' eb=>⟨rfl,I.turned (t':=s.toks) (fun b o hb q=>eb b o hb q) g0 g1 g3 g4 g5⟩
 self:=fun A i s Q E st h=>let⟨⟨_,he⟩,_⟩:=st;wpAny_pyIter_enum he h
def cK(ds:List D):List D:=ds.zipIdx.map fun p=> .tup [.int p.2,p.1]
def gr(f:FD):av->R (List D):=fun δ=>(f δ).bind fun d=>match d with | .lst ds=> .ok (cK ds) | _=> .no
theorem xx{elts:List Expr}{k:Nat}{qK:Pos}{p pos:Pos}(h:PD X a f)(hg:Gl X "enumerate")(hm:X.mg "enumerate"=none)(hs:starEach [a] X.env=[(false,eval a X.env)]:=by rfl):Lk X (.Tuple elts k qK) (.Call (.Name "enumerate" p) [a] [] pos) (gr f):=by
 intro pins s σ H RR I ⟨Z,B,δ,ds,E,hf,q⟩;obtain⟨d,h1,h2⟩:=R.ai hf;have hA:=gd h kM hs pos pins s σ H (fun vs H1=>aO H H1/\∃v,vs=[v]/\Rep X.K B H1 d v) I ⟨Z,B,δ,d,E,h1,fun v H1 s1 r1=>⟨s1,v,rfl,r1⟩⟩
 refine Call_ (mQ I hg hm boot_enumerate (PyProof.Rows.callWith_type1 (eI hA fun us s1 ⟨vs,H1,I1,r1,ss,v,ev,rr⟩=>?_) hs rfl))
 subst ev;obtain⟨u,rfl,ru⟩:=vals1 r1;cases d with
 | lst es=>
   cases h2;obtain⟨b,xs,rfl,l,rs⟩:=Rep.lst.mp rr;cases ru;obtain⟨its,n,rv,e1,hz⟩:=I1.Kv l;refine call_enumerate_list (items:=its.toArray) ⟨_,e1,rfl,n,rfl⟩ fun h' he hit IC kk=>wpAny_pyIter_enum he ?_
   have I2:Inv X pins σ H1 {s1 with heap:=h'}:=I1.kept (t':=s1.toks) kk
   refine⟨s1.heap.objs.size+1,[s1.heap.objs.size+1,s1.heap.objs.size],_,_,H1,rfl,I2,Ct b (s1.heap.objs.size+1) s1.heap.objs.size (Nat.succ_ne_self _),⟨⟨_,he⟩,hit⟩,fun c hc=>?_,q _ H1 ss fun B' H' pr=>?_⟩
   .have hle:s1.heap.objs.size<=c:=by
     rcases List.mem_cons.mp hc with z | hc
     .rw [z];exact Nat.le_succ _
     .have z:c=s1.heap.objs.size:=by simpa using hc
      rw[z];exact Nat.le_refl _
    exact I1.tM hle (I1.hok.fresh hle)
   .have l':uo X.K B' H' b xs:=l.bo pr;have rs':=rs.bo pr;refine⟨fun i d hd=>?_,⟨xs,l'.sq,by rw[<-rs.length];unfold cK;simp⟩⟩
    unfold cK at hd;rw[List.getElem?_map,List.getElem?_zipIdx] at hd;cases e:es[i]? with
    | none=>rw [e] at hd;cases hd
    | some d0=>
      rw[e] at hd;have hd:D.tup [.int ((0+i:Nat):Int),d0]=d:=Option.some.inj hd;rw[Nat.zero_add] at hd;obtain⟨x,hx,rx⟩:=rs'.get e;refine⟨⟨xs,x,l'.sq,hx⟩,fun v n5 y Ft=>?_⟩
      obtain⟨p,y,hp,rfl,hy,rfl⟩:=y;refine⟨aW hp,?_⟩;subst hd;have xo:=hy xs l'.sq;rw[hx] at xo;cases xo;refine Rep.tup.mpr ⟨p,_,rfl, .inl ⟨fun ha=>?_, .inl bf⟩,aC.cons (Rep.int.mpr rfl) (aC.cons (rx.same (aW hp)) aC.nil)⟩
      obtain⟨o,ho⟩:=Ft p ha;rw[hp] at ho;cases ho
 | _=>cases h2
end
end L2
end
section
namespace L2
open PySem PySem.Spec PyProof.Rows
def Def(K:W.Frag)(mg:Vw)(x:Str)(st:Stmt):Prop:=∃f fd,Bj K x x st f fd/\mg x=some (.ref f)
def Callee(P:Program)(w:World)(K:W.Frag)(mg:Vw)(base:Heap)(k:Nat)(x:Str)(n:Nat)(g:List D->R D):Prop:=
 ∃f fd ps,jg P w K mg base uI k f fd ps (C2 K n g)/\mg x=some (.ref f)/\PySem.W.keepIn K (.ref f)=true/\Binds K fd ps []
theorem bU:∀(δ:av) (ds:List D),aI δ= .ok ds->ds.length=0:=fun δ ds h=>by cases h;rfl
theorem aH{g:av->R (List D)}{n:Nat}(h:∀(δ:av) (ds:List D),g δ= .ok ds->ds.length=n):∀(δ:av) (ds:List D),ak f g δ= .ok ds->ds.length=n+1:=fun δ ds e=>by
 obtain⟨d,h1,h2⟩:=R.ai e;obtain⟨es,h3,h4⟩:=R.ai h2;cases h4;rw[List.length_cons,h δ es h3]
theorem Eh{P:Program}{w:World}{K:W.Frag}{mg:Vw}{base:Heap}{x qual:Str}{st:Stmt}{f:Addr}{fd:FuncData}{N ps:List Str}{k:Nat}{F:FS}{b:List Stmt}{sc:Scope}(hb:aJ st=b)(hs:ax st=sc)(Fn:Bj K x qual st f fd)(S:aR N ps sc)
 (lR:∀(dY:Value) (A:Around) (outer:List Env) (s:Shared) (H:Hp) (E:XK),eV k (A.deeper (envOfC qual sc s.heap.objs.size f dY))->
   rP (tH uI P w K mg base N qual sc f dY A outer s H E).HH b F):jg P w K mg base uI (k+1) f fd ps (C2 K ps.length (rV N F)):=by
 subst hb hs;exact Gh Fn S lR
section
variable {X:Cx}
theorem Er{g:List D->R D}{k j n:Nat}{x:Str}{p pos:Pos}{e:Expr}{es:List Expr}{fs:av->R (List D)}(C:Callee X.prog X.w X.K X.mg X.base k x n g)(hr:eV j X.A)(CT:k<=j)(hg:Gl X x)(ha:FR X (e ::es) fs)
 (hn:∀δ ds,fs δ= .ok ds->ds.length=n) (qj:(x==("__debug__":Str))=false:=by decide) (he:starEach (e ::es) X.env=(false,eval e X.env) ::starEach es X.env:=by rfl) (mJ:(backTo pos (starEach es X.env)).any (·.1)=false:=by rfl) :
 PD X (.Call (.Name x p) (e ::es) [] pos) (aP g fs):=by
 obtain⟨f,fd,ps,F,hm,hk,hb⟩:=C;exact Hh F (hr.mono CT) hg hm hk hb ha hn qj he mJ
def L6(sc:Scope)(N:List Str)(scope:Scope)(kp:List Nat)(kn:List Str):Bool:=
 decide (scope.kind= .function) && scope.names.all (fun y=>decide (y.2= .cell->scope.names.lookup y.1=some .cell)) && scope.names.all (fun y=>decide (y.2= .local->scope.names.lookup y.1=some .local))
  && scope.names.all (fun y=>decide (y.2= .free->(sc.names.lookup y.1=some .cell\/sc.names.lookup y.1=some .free))) && scope.names.all (fun y=>decide (y.2= .free->scope.names.lookup y.1=some .free)) && decide (kn.length=kp.length)
  && (List.range kp.length).all (fun j=>decide ((kp[j]?).bind (N[·]?)=kn[j]?)) && kn.all (fun x=>decide (scope.names.lookup x=some .free))
theorem bG.of{own:List Str}{kp:List Nat}{kn:List Str}{N:List Str}(h1:X.env.scope=sc)(h2:X.N=N)(h:L6 sc N scope kp kn=true):bG X scope own kp kn:=by
 unfold L6 at h;simp only[Bool.and_eq_true,decide_eq_true_eq,List.all_eq_true] at h;obtain⟨⟨⟨⟨⟨⟨⟨a1,a2⟩,a3⟩,a4⟩,a8⟩,a5⟩,a6⟩,a7⟩:=h;refine⟨a1,a2,a3,fun y hy hf=>?_,a8,a5,fun j i x hj hx=>?_,a7⟩
 .have:=a4 y hy hf;unfold Env.kindOf;rw[h1];exact this
 .have hlt:j < kp.length:=(List.getElem?_eq_some_iff.mp hj).1;have:=a6 j (List.mem_range.mpr hlt);rw[hj] at this;rw[h2];exact this.trans hx
def Rv(kvs:List (Key × V))(f g:FD):FD:=fun δ=>(f δ).bind fun k=>(g δ).bind fun d=>match k with
 | .str x=>(match j8 (kL [] kvs) (Sum.inr x) with | some (.int i)=> .ok (.int i) | none=> .ok d | _=> .no)
 | _=> .no
def Qp(i:Nat)(f:FD):FS:=fun δ=>(f δ).bind fun d=>match d with
 | .lst es=>(vi δ i).bind fun ds=>R.bH (decide (ds.length+es.length<=sizeLine)) (.ok (.nx (δ.set i (.bld (ds++es)))))
 | _=> .no
end
end L2
end
section
namespace L2
open PySem PySem.Spec PyProof.Rows
structure QD (X:Cx) (e:Expr) (f:FD):Prop where
 h:PD X e f
structure QN (X:Cx) (e:Expr) (f:av->R (List D)):Prop where
 h:PN X e f
structure QB (X:Cx) (e:Expr) (f:av->R Bool):Prop where
 h:PB X e f
structure KC (X:Cx) (e:Expr) (f:av->R Bool):Prop where
 h:FV X e f
structure Iv (X:Cx) (e:List Expr) (f:av->R (List D)):Prop where
 h:FR X e f
structure HZ (X:Cx) (e:Stmt) (f:FS):Prop where
 h:Hu X e f
structure uB (X:Cx) (e:List Stmt) (f:FS):Prop where
 h:rP X e f
structure LI (X:Cx) (e:Expr) (f:FT):Prop where
 h:Lj X e f
structure Gp (X:Cx) (e:List Expr) (f:Ey):Prop where
 h:Dl X e f
structure zV (X:Cx) (tg e:Expr) (f:av->R (List D)):Prop where
 h:Lk X tg e f
structure QP (X:Cx) (e:Option Expr) (f:FO):Prop where
 h:PP X e f
structure QJ (X:Cx) (e:List Expr) (f:av->R (List Str)):Prop where
 h:PJ X e f
structure JK (X:Cx) (e:List Expr) (c:av->R Bool):Prop where
 h:qx X e (KL X.K c)
section
variable {X:Cx}
theorem bE{f:av->R (List D)}(h:QN X e f):QD X e (eNew f):=⟨JO h.1⟩
theorem aa(i:Nat){pos:Pos}(hN:X.N[i]? =some x:=by rfl)(hv:Gr X.env.scope x:=by first | exact Or.inl rfl | exact Or.inr (Or.inl rfl) | exact Or.inr (Or.inr rfl))(hd:(x==("__debug__":Str))=false:=by decide)(uk:(x==("__classdict__":Str))=false:=by decide):QD X (.Name x pos) (ae i):=⟨KZ i hN hv hd uk⟩
theorem af{i j pos}:QD X (.Constant (.int i) j pos) (eC (.int i)):=⟨IU⟩
theorem v8{b j pos}:QD X (.Constant (.bool b) j pos) (eC (.bl b)):=⟨Ms⟩
theorem kB{j pos}:QD X (.Constant .none j pos) (eC .cn):=⟨Je⟩
theorem bz{x j pos}:QD X (.Constant (.str x) j pos) (eC (.str x)):=⟨KQ⟩
theorem ag:Iv X [] aI:=⟨Hl⟩
theorem ab{g:av->R (List D)}(h:QD X e f)(t:Iv X es g)(hs:starEach (e ::es) X.env=(false,eval e X.env) ::starEach es X.env:=by rfl):Iv X (e ::es) (ak f g):=⟨DL h.1 t.1 hs⟩
theorem bq{g:av->R (List D)}{x1 pos}(h:Iv X es g):QD X (.Tuple es x1 pos) (dX g):=⟨Jj h.1⟩
theorem bK{g:av->R (List D)}{pos}(h:Iv X es g):QN X (.List es pos) (eW g):=⟨IL h.1⟩
theorem aw{op:Operator}{g:D->D->R D}(ho:lp X (binaryOp op) g)(ha:QD X a fa)(hb:QD X b fb):QD X (.BinOp a op b pos) (e2 g fa fb):=⟨Mw ho ha.1 hb.1⟩
theorem je{op:CmpOp}{g:D->D->R D}(ho:lp X (compareOp op) g)(ha:QD X a fa)(hb:QD X b fb)(hm:behindInMarks op b=false):QD X (.Compare a [op] [b] pos) (e2 g fa fb):=⟨JZ ho ha.1 hb.1 hm⟩
theorem bO{op:CmpOp}{g:D->D->R D}(ho:lp X (compareOp op) g)(ha:QD X a fa)(hb:QD X b fb)(hm:behindInMarks op b=false):QB X (.Compare a [op] [b] pos) (b2 g fa fb):=⟨KA ho ha.1 hb.1 hm⟩
theorem sd{a:Expr}(ha:QD X a f)(he:∀whole,isTrue a X.env whole=(do let v <-whole;standAt a.pos;holding [v] (truthy v)):=by intro _;rfl):QB X a (v_ f):=⟨J7 ha.1 he⟩
theorem rW{f:av->R Bool}(h:KC X e f):QB X e f:=⟨FV.pb h.1⟩
theorem vf{f:av->R Bool}(h:QB X a f):KC X (.BoolOp .And [a] pos) f:=⟨Dz h.1⟩
theorem xF{f:av->R Bool}(h:QB X a f):KC X (.BoolOp .Or [a] pos) f:=⟨Gv h.1⟩
theorem xJ{rest:List Expr}{f g:av->R Bool}(ha:QB X a f)(hb:KC X (.BoolOp .And (b ::rest) pos) g):KC X (.BoolOp .And (a ::b ::rest) pos) (CO f g):=⟨Gw ha.1 hb.1⟩
theorem AS{rest:List Expr}{f g:av->R Bool}(ha:QB X a f)(hb:KC X (.BoolOp .Or (b ::rest) pos) g):KC X (.BoolOp .Or (a ::b ::rest) pos) (Il f g):=⟨Ju ha.1 hb.1⟩
theorem rX{f:av->R Bool}(ha:QB X a f):QB X (.UnaryOp .Not a pos) (wg f):=⟨Ko ha.1⟩
theorem HM{op}(h:QD X a f):QD X (.BoolOp op [a] pos) f:=⟨Ky h.1⟩
theorem Hj{rest:List Expr}(ha:QD X a f)(hb:QD X (.BoolOp .And (b ::rest) pos) g):QD X (.BoolOp .And (a ::b ::rest) pos) (Df f g):=⟨IT ha.1 hb.1⟩
theorem An{fc:av->R Bool}(hc:QB X c fc)(ha:QD X a f)(hb:QD X b g):QD X (.IfExp c a b pos) (Kq fc f g):=⟨LW hc.1 ha.1 hb.1⟩
theorem bg{g:List D->R D}{id:String}{p pos:Pos}{fs:av->R (List D)}(hc:cQ X (.builtin id) g)(hg:Gl X x)(hm:X.mg x=none)(hv:bootBuiltins x=some (.builtin id))(ha:Iv X (e ::es) fs)(hn:x≠"__name__":=by decide)(qj:(x==("__debug__":Str))=false:=by decide)(he:starEach (e ::es) X.env=(false,eval e X.env) ::starEach es X.env:=by rfl)(mJ:(backTo pos (starEach es X.env)).any (·.1)=false:=by rfl):QD X (.Call (.Name x p) (e ::es) [] pos) (aP g fs):=⟨Ep hc hg hm hv ha.1 hn qj he mJ⟩
theorem dk{g:List D->R D}{T:String}{p pos:Pos}{fs:av->R (List D)}(hc:cQ X (.type T) g)(hg:Gl X x)(hm:X.mg x=none)(hv:bootBuiltins x=some (.type T))(ha:Iv X (e ::es) fs)(hn:x≠"__name__":=by decide)(qj:(x==("__debug__":Str))=false:=by decide)(he:starEach (e ::es) X.env=(false,eval e X.env) ::starEach es X.env:=by rfl)(mJ:(backTo pos (starEach es X.env)).any (·.1)=false:=by rfl):QD X (.Call (.Name x p) (e ::es) [] pos) (aP g fs):=⟨CM hc hg hm hv ha.1 hn qj he mJ⟩
theorem eX:uB X [] pZ:=⟨GJ⟩
theorem a_{st:Stmt}{rest:List Stmt}{F G:FS}(h1:HZ X st F)(h2:uB X rest G):uB X (st ::rest) (eO F G):=⟨EV h1.1 h2.1⟩
theorem aT{st:Stmt}{F:FS}(h1:HZ X st F):uB X [st] F:=⟨G8 h1.1⟩
theorem dF{i:Nat}{pos pos':Pos}(hN:X.N.Nodup)(hi:X.N[i]? =some x)(hx:Loc X.env.scope x)(he:QD X e f)(hs:swapsWith e (some (.Name x pos')) pos.line X.env=pure false:=by rfl)(hf:X.fn x=true\/X.env.scope.names.lookup x=some .local:=by first | exact .inl rfl | exact .inr rfl | assumption):HZ X (.Assign [.Name x pos'] e pos) (l_ i f):=⟨Ho hN hi hx he.1 hs hf⟩
theorem ye{i:Nat}{f:av->R (List D)}{pos pos':Pos}(hN:X.N.Nodup)(hi:X.N[i]? =some x)(hx:Loc X.env.scope x)(he:QN X e f)(hs:swapsWith e (some (.Name x pos')) pos.line X.env=pure false:=by rfl)(hf:X.fn x=true\/X.env.scope.names.lookup x=some .local:=by first | exact .inl rfl | exact .inr rfl | assumption):HZ X (.Assign [.Name x pos'] e pos) (Ad i f):=⟨HG hN hi hx he.1 hs hf⟩
theorem se{i:Nat}{x:Str}{e:Expr}{f:FD}{ka apos dO pos:Pos}(hN:X.N[i]? =some x)(hv:Gr X.env.scope x)(he:QD X e f)(hd:(x==("__debug__":Str))=false:=by decide)(uk:(x==("__classdict__":Str))=false:=by decide)(hs:starEach [e] X.env=(false,eval e X.env) ::starEach [] X.env:=by rfl)(qk:(apos.endLine==dO.line)=true:=by rfl)(xc:((backTo dO (starEach [e] X.env)).all (fun x=>!x.1) && (backToKw dO (keywordEach [] X.env)).all (fun x=>x.1.isSome)
 && decide (([e]:List Expr).length+([]:List Keyword).length+(if([]:List Keyword).isEmpty then 0 else 1) < 30))=true:=by rfl) (HU:swapsWith (.Call (.Attribute (.Name x ka) "append" apos) [e] [] dO) none pos.line X.env=pure false:=by rfl) (ql:attributeBase (.Name x ka) "append" X.env (eval (.Name x ka) X.env)=eval (.Name x ka) X.env:=by rfl):HZ X (.Expr (.Call (.Attribute (.Name x ka) "append" apos) [e] [] dO) pos) (zG i f):=⟨F_ hN hv he.1 hd uk hs qk xc HU ql⟩
theorem yI(i:Nat){F:FS}(h:uB X IA F):uB X IA (Dx i F):=⟨Hm i h.1⟩
theorem bu(he:QD X e f):HZ X (.Return (some e) pos) (fA f):=⟨GH he.1⟩
theorem fW{fc:av->R Bool}{F G:FS}(hc:QB X c fc)(ha:uB X a F)(hb:uB X b G):HZ X (.If c a b pos) (vU fc F G):=⟨Kr hc.1 ha.1 hb.1⟩
theorem aV{i:Nat}{pos:Pos}(hN:X.N.Nodup)(hi:X.N[i]? =some x)(hx:Loc X.env.scope x)(hf:X.fn x=true\/X.env.scope.names.lookup x=some .local:=by first | exact .inl rfl | exact .inr rfl | assumption):LI X (.Name x pos) (aK i):=⟨Fj hN hi hx hf⟩
theorem jl:Gp X [] jZ:=⟨EE⟩
theorem cU{u:Ey}(h1:LI X e t)(h2:Gp X es u)(hs:(assignEach (e ::es) X.env).map (·.2)=assign e X.env ::(assignEach es X.env).map (·.2):=by rfl):Gp X (e ::es) (cG t u):=⟨Cc h1.1 h2.1 hs⟩
theorem lD{k:Nat}{t:Ey}{n:Nat}{pos:Pos}(hc:X.calm=true)(h:Gp X es t)(hn:(assignEach es X.env).length=n:=by rfl)(FH:(assignEach es X.env).findIdx? (·.1)=none:=by rfl):LI X (.Tuple es k pos) (jA n t):=⟨GA hc h.1 hn FH⟩
theorem cI(h:QD X e f):zV X tg e (d5 f):=⟨HJ h.1⟩
theorem br{tg a:Expr}{p pos:Pos}(h:QD X a f)(hg:Gl X "range")(hm:X.mg "range"=none)(hs:starEach [a] X.env=[(false,eval a X.env)]:=by rfl):zV X tg (.Call (.Name "range" p) [a] [] pos) (cT f):=⟨yT h.1 hg hm hs⟩
theorem iK{it:av->R (List D)}{F:FS}{pos:Pos}(hp:PassesOwn (model X.prog X.w) X.A X.env X.xe)(hc:X.calm=true)(hi:zV X tg iter it)(hg:LI X tg t)(hb:uB X body F)(hs:∀x,foldedSetIterable iter X.env x=pure x:=by intro _;rfl):HZ X (.For tg iter body [] pos) (rM it t F):=⟨HB hp hc hi.1 hg.1 hb.1 hs⟩
theorem cO{own:List Str}{kp:List Nat}{kn:List Str}{it:av->R (List D)}{c:av->R Bool}{pos:Pos}(hc:X.calm=true)(C:bG X scope own kp kn)(hi:zV X tg iter it)(hg:∀fp s H,LI (bR X scope (own++kn) fp s H) tg t)(Fw:∀fp s H,JK (bR X scope (own++kn) fp s H) ifs c)(he:∀fp s H,QD (bR X scope (own++kn) fp s H) elt f)(hs:∀x,foldedSetIterable iter X.env x=pure x:=by intro _;rfl):QN X (.ListComp elt [⟨tg,iter,ifs,0⟩] scope pos) (d4 it t c f own kp):=⟨Gn hc C hi.1 (fun fp s H=>(hg fp s H).1) (fun fp s H=>(Fw fp s H).1) (fun fp s H=>(he fp s H).1) hs⟩
theorem dz:JK X [] i_:=⟨Ef⟩
theorem nk{c:av->R Bool}(h:QB X e c):JK X [e] c:=⟨Hc h.1⟩
theorem ay(ha:QD X a fa)(hb:QD X b fb)(hs:r_ b):QD X (.Subscript a b pos) (e2 bW fa fb):=⟨Mp ha.1 hb.1 hs⟩
theorem EW:QP X none El:=⟨Hv⟩
theorem C9(h:QD X e f):QP X (some e) (xA f):=⟨G6 h.1⟩
theorem JD{lo hi:Option Expr}{fl fh:FO}(he:QD X e f)(hl:QP X lo fl)(hh:QP X hi fh):QD X (.Subscript e (.Slice lo hi none p2) pos) (LX f fl fh):=⟨LD he.1 hl.1 hh.1⟩
theorem k7{elts:List Expr}{k:Nat}{qK:Pos}{p pos:Pos}(h:QD X a f)(hg:Gl X "enumerate")(hm:X.mg "enumerate"=none)(hs:starEach [a] X.env=[(false,eval a X.env)]:=by rfl):zV X (.Tuple elts k qK) (.Call (.Name "enumerate" p) [a] [] pos) (gr f):=⟨xx h.1 hg hm hs⟩
theorem cE{P:Program}{w:World}{K:W.Frag}{mg:Vw}{base:Heap}{x qual:Str}{st:Stmt}{f:Addr}{fd:FuncData}{N ps:List Str}{k:Nat}{F:FS}{b:List Stmt}{sc:Scope}(hb:aJ st=b)(hs:ax st=sc)(Fn:Bj K x qual st f fd)(S:aR N ps sc)(lR:∀(dY:Value) (A:Around) (outer:List Env) (s:Shared) (H:Hp) (E:XK),eV k (A.deeper (envOfC qual sc s.heap.objs.size f dY))->
 uB (tH uI P w K mg base N qual sc f dY A outer s H E).HH b F):jg P w K mg base uI (k+1) f fd ps (C2 K ps.length (rV N F)):=Eh hb hs Fn S (fun dY A outer s H E hr=>(lR dY A outer s H E hr).1)
theorem bw{g:List D->R D}{k j n:Nat}{p pos:Pos}{fs:av->R (List D)}(C:Callee X.prog X.w X.K X.mg X.base k x n g)(hr:eV j X.A)(CT:k<=j)(hg:Gl X x)(ha:Iv X (e ::es) fs)(hn:∀δ ds,fs δ= .ok ds->ds.length=n)(qj:(x==("__debug__":Str))=false:=by decide)(he:starEach (e ::es) X.env=(false,eval e X.env) ::starEach es X.env:=by rfl)(mJ:(backTo pos (starEach es X.env)).any (·.1)=false:=by rfl):QD X (.Call (.Name x p) (e ::es) [] pos) (aP g fs):=⟨Er C hr CT hg ha.1 hn qj he mJ⟩
end
end L2
end
section
namespace L2
open PySem PySem.Spec PyProof.Rows
theorem CN{P:Program}{w:World}{K:W.Frag}{mg mb:Vw}{CX:DG}{k:Nat}{fa a:Addr}{fd:FuncData}{x:Str}{sp:Sp}{s₁:Shared}{vs:List Value}{ns:List Int}
 (KX:K.In s₁.heap) (NJ:s₁.heap.Ns mainGlobals mg) (hb:s₁.heap.Ns builtinsNs mb) (Tc:∀x:Str,x≠"__name__"->mb x=bootBuiltins x) (PU:s₁.heap.NoLimit) (hg:s₁.gens=#[])
 (ha:s₁.heap.get? a=some {cls:= .type "list",data:= .seq vs.toArray}) (hi:IntsAre vs ns) (hl:ns.length<=sizeLine) (hr:eV k callerA)
 (F:∀base:Heap,K.In base->base.Ns mainGlobals mg->jg P w K mg base CX k fa fd [x] sp) (M6:∀(s:Shared) (u:Value),BindsTo s fd ⟨[u],[]⟩ [(x,u)])
 (Lv:∀H:Hp,Mh H->uo K [] H a (ns.map V.int)->sp [.ref a] H (fun v _=>v= .bl true) fun _ _ _=>False)
 (UJ:∀H e s',CX [] H s₁ (fun _ _ _=>False) e s'->False) :
 codeAny (model P w) callerA (.call (.ref fa) ⟨[.ref a],[]⟩) (fun r s'=>r= .ok (.ret (.bool true))/\OldK s₁.heap s'.heap/\s'.os=s₁.os/\AllBare s'.gens) s₁:=by
 have rv:=vw hi;have lenV:=hi.length;have core:∀H:Hp,Mh H->uo K [] H a (ns.map V.int)->oj P w H s₁.heap->(∀b,H b≠none->b=a)->(H a≠none->K.lookup a=none)->
  codeAny (model P w) callerA (.call (.ref fa) ⟨[.ref a],[]⟩) (fun r s'=>r= .ok (.ret (.bool true))/\OldK s₁.heap s'.heap/\s'.os=s₁.os/\AllBare s'.gens) s₁:=by
  intro H hO hS hok hA hK;have Bx:∀{b:Addr} {o:Obj},s₁.heap.get? b=some o->H b=none->(wJ s₁.heap H).get? b=some o:=fun e n=>EX e n
  have noA:∀{b:Addr} {o:Obj} {es:Array DictEntry} {ep:Nat},s₁.heap.get? b=some o->o.data= .dict es ep->H b=none:=fun {b o es ep} e d=>by
   cases q:H b with
   | none=>rfl
   | some u=>
     have e':b=a:=hA b (by rw[q];simp)
     subst e';rw[ha] at e;cases e;have d':Data.seq vs.toArray _=Data.dict es ep:=d;cases d'
  have nsK:∀{b:Addr} {m:Vw},s₁.heap.Ns b m->(wJ s₁.heap H).Ns b m:=fun {b m} ⟨o,es,ep,e,d,r⟩=>⟨o,es,ep,Bx e (noA e d),d,r⟩
  have hKb:K.In (wJ s₁.heap H):=fun b o e=>Bx (KX b o e) (by
   cases q:H b with
   | none=>rfl
   | some u=>
     have e':b=a:=hA b (by rw[q];simp)
     subst e';rw[hK (by rw[q];simp)] at e;cases e)
  have hM:Mod K mg (wJ s₁.heap H):=⟨hKb,nsK NJ,⟨mb,nsK hb,Tc⟩,let⟨mc,h1,h2⟩:=PU;⟨mc,nsK h1,h2⟩⟩
  have e0:zr P w K mg (wJ s₁.heap H) callerA [] s₁ H:=⟨rfl,hM,fun b o e=>Gb e,Nat.le_of_eq (BY _ _),trivial,fun b hb=>absurd (show b∈([]:List Addr) from hb) (by simp),hok, .of_eq hg⟩
  refine codeAny_mono ((F _ hKb (nsK NJ)).run callerA [] s₁ H ⟨[.ref a],[]⟩ [.ref a] [.ref a] _ _ hr e0 (M6 s₁ (.ref a)) (.cons rfl .nil) (Lv H hO hS)) fun r s' h=>?_
  cases r with
  | error e=>exact(UJ H e s' h).elim
  | ok fl=>
    cases fl with
    | next=>exact False.elim h
    | brk=>exact False.elim h
    | cont=>exact False.elim h
    | ret u=>
      obtain⟨v,H',os,bare,un,Pp,r',q⟩:=h;have q':v= .bl true:=q;subst q';obtain rfl:u=Value.bool true:=r';refine⟨rfl,OldK.of_keep fun b o e=>?_,os,bare⟩
      cases q:H b with
      | none=>exact un.keep b o e q (by intro z;exact absurd (show b∈([]:List Addr) from z) (by simp)) (by simp)
      | some u=>
        rcases hO b with z | ⟨ob,xs,z⟩
        .rw [q] at z;cases z
        .have z2:=un.frzs b ob _ z;obtain⟨e1,_⟩:=hok b _ z;obtain⟨e2,_⟩:=Pp b _ z2;rw[e] at e1;cases e1;exact e2
 cases hk:K.lookup a with
 | some o=>
   have e:=KX a o hk;rw[ha] at e;cases e;refine core (fun _=>none) (fun _=> .inl rfl) (.inr ⟨vs,_,hk,by rw[List.length_map];exact hl,rv⟩) (fun b u z=>by have z':(none:Option HO)=some u:=z;cases z') (fun b z=>absurd rfl z) fun z=>absurd rfl z
 | none=>
   refine core (fun b=>if b=a then some (.ki {cls:= .type "list",data:= .seq vs.toArray} (.lst (ns.map V.int))) else none) (fun b=>?_) (.inl ⟨by simp, .inr ⟨{cls:= .type "list",data:= .seq vs.toArray},if_pos rfl⟩⟩) (fun b u z=>?_) (fun b z=>?_) fun _=>hk
   .by_cases hb:b=a
    .exact .inr ⟨_,_,if_pos hb⟩
    .exact .inl (if_neg hb)
   .by_cases hb:b=a
    .have z':=(if_pos hb).symm.trans z;cases z';subst hb;exact⟨ha,by rw[List.length_map];exact hl,vs,_,rv,ha⟩
    .have z':=(if_neg hb).symm.trans z;cases z'
   .by_cases hb:b=a
    .exact hb
    .exact absurd (if_neg hb) z
theorem ints_rep{K:W.Frag}{B:List Addr}:∀ns:List Int,aC K B H (ns.map D.int) (ns.map V.int)
 | []=>aC.nil
 | n ::ns=>aC.cons (Rep.int.mpr rfl) (ints_rep ns)
theorem L7{l:PySem.W.OpenLaw}{n k:Nat}{q:Program}{loose:List Str}{XP:(Str->Option Value)->Heap->Prop}{YP:World->Heap->Prop}{d:DefRec}{K:Params->W.Frag}{x:Str}{g:List D->R D}
 (hn:l.most=some n) (NK:n<=sizeLine) (PR:d.params.defaults=[]) (hr:eV k callerA) (hY:∀(w:World) (h:Heap),YP w h->(K w.params).In h)
 (F:∀(w:World) (mg:Vw) (fa:Addr) (h:Heap),(K w.params).In h->h.Ns mainGlobals mg->mg d.name=some (.ref fa)->
   ∃fd:FuncData,(∀(s:Shared) (u:Value),BindsTo s fd ⟨[u],[]⟩ [(x,u)])/\∀base:Heap,(K w.params).In base->base.Ns mainGlobals mg->jg l.prog w (K w.params) mg base uI k fa fd [x] (C2 (K w.params) 1 g))
 (hg:∀ns:List Int,ns.length<=n->g [.lst (ns.map D.int)]= .ok (.bl true)):PySem.W.WalkO q loose XP YP l.row.toRowW d [] (fun f vs=>PySem.call f vs):=by
 refine Att.x5 hn PR fun w s₀ s₁ mg mb fa o pm cd doc a vs ns G Y ho hd uk Nk K7 hints hlen Pd=>?_
 have KX:=hY w _ Y;obtain⟨fd,hb,hF⟩:=F w mg fa _ KX G.T.g Nk;refine CN KX G.T.g G.T.b G.T.builtins G.T.nolimit Pd K7 hints (Nat.le_trans hlen NK) hr hF hb (fun H hO hS=>?_) fun H e s' h=>h
 refine⟨rfl,[],[.lst (ns.map D.int)], .bl true,fun b hb=>(by cases hb),aC.cons (Rep.lst.mpr ⟨_,_,rfl,hS,ints_rep ns⟩) aC.nil,hg ns hlen,fun z H' _ r=>Rep.bl.mp r⟩
theorem ck{K:W.Frag}{h:Heap}{mg:Vw}{x:Str}{st:Stmt}{f:Addr}{oc:Value}{od an:Option Addr}{FY:Array (Option Value)}{kV doc pm dY ct:Value}(X:K.In h)(G:h.Ns mainGlobals mg)(a:PySem.W.nsIn K mainGlobals x=some (some (.ref f)))
 (l:K.lookup f=some ⟨oc,od, .func (PySem.W.fnOf x x (fV st) (aJ st) (ax st) .none kV doc pm an dY ct),FY⟩) (c:PySem.W.codeIn K dY x=true) (k:PySem.W.keepIn K (.ref f)=true):Def K mg x st:=
 ⟨f,_,mW l c k,PySem.W.mg_of X G a⟩
end L2
end
section
namespace L2
open PySem PySem.Spec PyProof.Rows
theorem sH{t:FT}{body:FS}:∀(ds:List D) (n:Nat) (P:Nat->av->Prop) {δ:av},P n δ->
 (∀i d δ,ds[i]? =some d->P (n+i) δ->∃eK,((t d δ).bind body)= .ok (.nx eK)/\P (n+i+1) eK)->∃eK,oh t body ds δ= .ok (.nx eK)/\P (n+ds.length) eK
 | [],n,P,δ,h0,_=>⟨δ,rfl,h0⟩
 | d ::ds,n,P,δ,h0,hs=>by
   obtain⟨dj,e1,p1⟩:=hs 0 d δ rfl h0;obtain⟨dM,e2,p2⟩:=sH ds (n+1) P p1 (fun i d' eK hi hp=>by
    have:=hs (i+1) d' eK (by simpa using hi) (by rw[show n+(i+1)=n+1+i by omega];exact hp)
    rw[show n+(i+1)+1=n+1+i+1 by omega] at this
    exact this)
   refine⟨dM,?_,by rw[List.length_cons,show n+(ds.length+1)=n+1+ds.length by omega];exact p2⟩
   obtain⟨Vh,h1,h2⟩:=R.ai e1;show(t d δ).bind (fun dj=>(body dj).bind fun o=>match o with | .nx dM=>oh t body ds dM | .rt r=> .ok (.rt r))=_
   rw[h1,R.aG,h2,R.aG];exact e2
theorem jn{t:FT}{body:FS}{ds:List D}(P:Nat->av->Prop){δ:av}(h0:P 0 δ)
 (hs:∀i d δ,ds[i]? =some d->P i δ->∃eK,((t d δ).bind body)= .ok (.nx eK)/\P (i+1) eK):∃eK,oh t body ds δ= .ok (.nx eK)/\P ds.length eK:=by
 have:=sH (t:=t) (body:=body) ds 0 P h0 (fun i d δ hi hp=>by simpa using hs i d δ hi (by simpa using hp))
 simpa using this
theorem u3{t:FT}{c:av->R Bool}{f:FD}{δ:av}(g:D->D):∀{ds:List D},(∀d∈ds,∃dj,t d δ= .ok dj/\c dj= .ok true/\f dj= .ok (g d))->lC t c f δ ds= .ok (ds.map g)
 | [],_=>rfl
 | d ::ds,h=>by
   obtain⟨dj,h1,h2,h3⟩:=h d List.mem_cons_self;have ih:=u3 (t:=t) (c:=c) (f:=f) (δ:=δ) g (fun d' hd=>h d' (List.mem_cons_of_mem _ hd))
   unfold lC;rw[h1,R.aG,h2,R.aG,if_pos rfl,h3,R.aG,ih];rfl
theorem o4{α:Type}{xs:List α}{i:Int}(h0:0<=i)(h:i.toNat < xs.length):rS xs i=some xs[i.toNat]:=by
 unfold rS Cg;rw[if_pos h0,if_pos (by omega)]
 simp [h]
theorem ints_map:∀ss:List Int,ints? (ss.map D.int)=some ss
 | []=>rfl
 | s ::ss=>by show(ints? (ss.map D.int)).map (s ::·)=_;rw [ints_map ss];rfl
theorem bp{F G:FS}{δ dj:av}{r:R Out}(h:F δ= .ok (.nx dj))(h2:G dj=r):eO F G δ=r:=by unfold eO;rw [h,R.aG];exact h2
theorem dA{f:av->R (List D)}{δ:av}{ds:List D}(h:f δ= .ok ds):eNew f δ= .ok (.lst ds):=by unfold eNew;rw [h];rfl
theorem mP{c:av->R Bool}{F G:FS}{δ:av}{r:R Out}(h:c δ= .ok true)(h2:F δ=r):vU c F G δ=r:=by unfold vU;rw [h,R.aG,if_pos rfl];exact h2
theorem gg{c:av->R Bool}{F G:FS}{δ:av}{r:R Out}(h:c δ= .ok false)(h2:G δ=r):vU c F G δ=r:=by unfold vU;rw [h,R.aG,if_neg (by decide)];exact h2
theorem jc{it:av->R (List D)}{F:FS}{δ:av}{ds:List D}{r:R Out}(h:it δ= .ok ds)(h2:oh t F ds δ=r):rM it t F δ=r:=by unfold rM;rw [h,R.aG];exact h2
theorem cm{f:FD}{δ:av}{d:D}(h:f δ= .ok d):fA f δ= .ok (.rt d):=by unfold fA;rw [h];rfl
theorem cN{N:List Str}{F:FS}{ds:List D}{d:D}(h:F (dq N ds)= .ok (.rt d)):rV N F ds= .ok d:=by unfold rV;rw [h];rfl
theorem cy{α:Type}{p:Prop} [Decidable p](r:R α)(h:p):R.bH (decide p) r=r:=by rw[decide_eq_true h];rfl
theorem eu{i:Nat}{f:FD}{δ:av}{d:D}(h:f δ= .ok d)(hi:i < δ.length):l_ i f δ= .ok (.nx (δ.set i (.val d))):=by unfold l_;rw [h,R.aG,cy _ hi]
theorem AJ{i:Nat}{f:av->R (List D)}{δ:av}{ds:List D}(h:f δ= .ok ds)(hi:i < δ.length):Ad i f δ= .ok (.nx (δ.set i (.bld ds))):=by unfold Ad;rw [h,R.aG,cy _ hi]
theorem wZ{i:Nat}{f:FD}{δ:av}{d:D}{ds:List D}(h:f δ= .ok d)(hb:δ[i]? =some (.bld ds))(hl:ds.length < sizeLine):zG i f δ= .ok (.nx (δ.set i (.bld (ds++[d])))):=by unfold zG vi;rw [h,R.aG,hb];show R.bH _ _=_;rw [cy _ hl]
theorem cX{it:av->R (List D)}{c:av->R Bool}{own:List Str}{kp:List Nat}{δ:av}{ds ys:List D}(h1:it δ= .ok ds)(h2:ds.length<=sizeLine)(h3:lC t c f (sW own kp δ) ds= .ok ys):d4 it t c f own kp δ= .ok ys:=by unfold d4;rw [h1,R.aG,cy _ h2,h3]
theorem wI{ds:List D}{i:Int}{d:D}(h:rS ds i=some d):bW (.lst ds) (.int i)= .ok d:=by unfold bW;simp only[h]
theorem tL{ds:List D}{i:Int}{d:D}(h:rS ds i=some d):bW (.tup ds) (.int i)= .ok d:=by unfold bW;simp only[h]
end L2
end
section
namespace L2
open PySem PySem.Spec PyProof.Rows
theorem aj{g:D->D->R D}{fa fb:FD}{δ:av}{a b:D}{r:R D}(ha:fa δ= .ok a)(hb:fb δ= .ok b)(h:g a b=r):e2 g fa fb δ=r:=by unfold e2;rw [ha,R.aG,hb,R.aG];exact h
theorem eE{g:D->D->R D}{fa fb:FD}{δ:av}{a b:D}{k:Bool}(ha:fa δ= .ok a)(hb:fb δ= .ok b)(h:g a b= .ok (.bl k)):b2 g fa fb δ= .ok k:=by unfold b2;rw [aj ha hb h];rfl
theorem az{f:FD}{g:av->R (List D)}{δ:av}{d:D}{ds:List D}(h:f δ= .ok d)(h2:g δ= .ok ds):ak f g δ= .ok (d ::ds):=by unfold ak;rw [h,R.aG,h2];rfl
theorem aA{g:List D->R D}{fs:av->R (List D)}{δ:av}{ds:List D}{r:R D}(h:fs δ= .ok ds)(h2:g ds=r):aP g fs δ=r:=by unfold aP;rw [h,R.aG];exact h2
theorem cZ{g:av->R (List D)}{δ:av}{ds:List D}(h:g δ= .ok ds)(hl:ds.length<=sizeLine):dX g δ= .ok (.tup ds):=by unfold dX;rw [h,R.aG,cy _ hl]
theorem wt{g:av->R (List D)}{δ:av}{ds:List D}(h:g δ= .ok ds)(hl:ds.length<=sizeLine):eW g δ= .ok ds:=by unfold eW;rw [h,R.aG,cy _ hl]
theorem I0{f:FD}{fl fh:FO}{δ:av}{d:D}{lo hi:Option Int}{r:R D}(h:f δ= .ok d)(h1:fl δ= .ok lo)(h2:fh δ= .ok hi)(h3:Mm d lo hi=r):LX f fl fh δ=r:=by unfold LX;rw [h,R.aG,h1,R.aG,h2,R.aG];exact h3
theorem E8{f:FD}{δ:av}{i:Int}(h:f δ= .ok (.int i)):xA f δ= .ok (some i):=by unfold xA;rw [h];rfl
theorem c0{f:FD}{δ:av}{n:Nat}(h:f δ= .ok (.int n))(hn:n < 1000000):cT f δ= .ok (hX 0 n):=by
 unfold cT;rw [h,R.aG];show R.bH (decide (-(2 ^ 62)<=(n:Int)/\(n:Int) < 2 ^ 62)) _=_;rw[cy _ ⟨by omega,by omega⟩,Int.toNat_natCast]
theorem jI{f:FD}{δ:av}{ds:List D}(h:f δ= .ok (.lst ds)):d5 f δ= .ok ds:=by unfold d5;rw [h];rfl
theorem zX{f:FD}{δ:av}{ds:List D}(h:f δ= .ok (.tup ds)):d5 f δ= .ok ds:=by unfold d5;rw [h];rfl
theorem J0{f:FD}{δ:av}{ds:List D}(h:f δ= .ok (.lst ds)):gr f δ= .ok (cK ds):=by unfold gr;rw [h];rfl
theorem Kz{f:FD}{δ:av}{b:Bool}(h:f δ= .ok (.bl b)):Ll f δ= .ok b:=by unfold Ll;rw [h];rfl
theorem o7(ds:List D):gU [.lst ds]= .ok (.int ds.length):=rfl
end L2
end
section
namespace L3
open PySem PySem.Spec PyProof.Rows L2
inductive V3 where
 | d (x:D) | loc (k:Nat) | lst (vs:List V3) | tup (vs:List V3)
inductive SO where
 | lst (ds:List D) | dct (kvs:List (Key × D)) | ins (c:Nat) (fs:List (Str × V3)) | ki
abbrev aN:=List SO
inductive R3 (α:Type) where
 | ok (a:α) (S:aN) | ex (c:Nat) (S:aN) | no
def R3.bind{α β:Type}:R3 α->(α->aN->R3 β)->R3 β
 | .ok a S,f=>f a S
 | .ex c S,_=> .ex c S
 | .no,_=> .no
theorem R3.ai{α β:Type}{r:R3 α}{f:α->aN->R3 β}{b:β}{S':aN}(h:r.bind f= .ok b S'):∃a S,r= .ok a S/\f a S= .ok b S':=by
 cases r with
 | ok a S=>exact⟨a,S,rfl,h⟩
 | ex c S=>cases h
 | no=>cases h
@[simp] theorem R3.aG{α β:Type}(a:α)(S:aN)(f:α->aN->R3 β):(R3.ok a S).bind f=f a S:=rfl
def R3.bH{α:Type}(c:Bool)(r:R3 α):R3 α:=if c then r else .no
theorem R3.bh{α:Type}{c:Bool}{r:R3 α}{a:α}{S:aN}(h:R3.bH c r= .ok a S):c=true/\r= .ok a S:=by
 cases c with
 | true=>exact⟨rfl,h⟩
 | false=>cases h
def R3.of{α:Type}(r:R α)(S:aN):R3 α:=match r with | .ok a=> .ok a S | _=> .no
theorem R3.of_ok{α:Type}{r:R α}{S S':aN}{a:α}(h:R3.of r S= .ok a S'):r= .ok a/\S'=S:=by
 cases r with
 | ok b=>cases h;exact⟨rfl,rfl⟩
 | ex c=>cases h
 | no=>cases h
structure P3 where
 r:List Addr
 z:List Addr
 f:List Addr
def P3.b(ρ:P3):List Addr:=ρ.r.filter (fun a=>!ρ.f.contains a)++ρ.z
theorem P3.et{ρ:P3}{a:Addr}:a∈ρ.b↔(a∈ρ.r/\a ∉ ρ.f)\/a∈ρ.z:=by
 unfold P3.b;rw[List.mem_append,List.mem_filter];simp
def P3.push(ρ:P3)(a:Addr):P3:=⟨ρ.r++[a],ρ.z,ρ.f⟩
def P3.cut(ρ:P3)(n:Nat):P3:=⟨ρ.r.take n,ρ.z,ρ.f⟩
mutual
def bb(K:W.Frag)(ρ:P3)(H:Hp):V3->V->Prop
 | .d x,v=>Rep K ρ.b H x v
 | .loc k,v=>∃a,ρ.r[k]? =some a/\v= .ref a
 | .lst vs,v=>∃a xs,v= .ref a/\uo K ρ.b H a xs/\aF K ρ H vs xs
 | .tup vs,v=>∃a xs,v= .ref a/\vJ K ρ.b H a xs/\aF K ρ H vs xs
def aF(K:W.Frag)(ρ:P3)(H:Hp):List V3->List V->Prop
 | [],xs=>xs=[]
 | d ::ds,xs=>∃x r,xs=x ::r/\bb K ρ H d x/\aF K ρ H ds r
end
structure Pre (ρ:P3) (H:Hp) (de:P3) (H':Hp):Prop where
 bo:dG ρ.b H de.b H'
 zz:de.z=ρ.z
 zs:∀(b:Addr) (o:HO),b∈ρ.z->H b=some o->H' b=some o
 ext:∀(k:Nat) (a:Addr),ρ.r[k]? =some a->de.r[k]? =some a
theorem Pre.refl(ρ:P3)(H:Hp):Pre ρ H ρ H:=⟨dG.refl ρ.b H,rfl,fun _ _ _ h=>h,fun _ _ h=>h⟩
theorem Pre.trans(a:Pre ρ H de H')(b:Pre de H' FE n5):Pre ρ H FE n5:=⟨a.bo.trans b.bo,b.zz.trans a.zz,fun c o hc h=>b.zs c o (by rw[a.zz];exact hc) (a.zs c o hc h),fun k x h=>b.ext k x (a.ext k x h)⟩
theorem Pre.same(s:aO H H'):Pre ρ H ρ H':=⟨dG.same s,rfl,fun b o _ h=>s b o h,fun _ _ h=>h⟩
theorem vJ.bo{K:W.Frag}{B B':List Addr}(p:dG B H B' H'){a:Addr}{xs:List V}(l:vJ K B H a xs):vJ K B' H' a xs:=
 l.elim (fun z=> .inl ⟨(p.rd z.2 z.1).2,(p.rd z.2 z.1).1⟩) .inr
mutual
theorem bb.pre{K:W.Frag}(p:Pre ρ H de H'):∀{d:V3} {v:V},bb K ρ H d v->bb K de H' d v
 | .d x,v,h=>by unfold bb at h ⊢;exact h.bo p.bo
 | .loc k,v,h=>by unfold bb at h ⊢;obtain⟨a,h1,h2⟩:=h;exact⟨a,p.ext k a h1,h2⟩
 | .lst vs,v,h=>by unfold bb at h ⊢;obtain⟨a,xs,e,l,r⟩:=h;exact⟨a,xs,e,l.bo p.bo,aF.pre p r⟩
 | .tup vs,v,h=>by unfold bb at h ⊢;obtain⟨a,xs,e,l,r⟩:=h;exact⟨a,xs,e,vJ.bo p.bo l,aF.pre p r⟩
theorem aF.pre{K:W.Frag}(p:Pre ρ H de H'):∀{ds:List V3} {xs:List V},aF K ρ H ds xs->aF K de H' ds xs
 | [],_,h=>by unfold aF at h ⊢;exact h
 | d ::ds,xs,h=>by
   unfold aF at h ⊢;obtain⟨x,r,e,h1,h2⟩:=h;exact⟨x,r,e,bb.pre p h1,aF.pre p h2⟩
end
structure PW (ρ:P3) (H:Hp) (de:P3) (H':Hp):Prop where
 bo:dG ρ.b H de.b H'
 ext:∀(k:Nat) (a:Addr),ρ.r[k]? =some a->de.r[k]? =some a
theorem Pre.pw(p:Pre ρ H de H'):PW ρ H de H':=⟨p.bo,p.ext⟩
theorem PW.trans(a:PW ρ H de H')(b:PW de H' FE n5):PW ρ H FE n5:=⟨a.bo.trans b.bo,fun k x h=>b.ext k x (a.ext k x h)⟩
mutual
theorem bb.pw{K:W.Frag}(p:PW ρ H de H'):∀{d:V3} {v:V},bb K ρ H d v->bb K de H' d v
 | .d x,v,h=>by unfold bb at h ⊢;exact h.bo p.bo
 | .loc k,v,h=>by unfold bb at h ⊢;obtain⟨a,h1,h2⟩:=h;exact⟨a,p.ext k a h1,h2⟩
 | .lst vs,v,h=>by unfold bb at h ⊢;obtain⟨a,xs,e,l,r⟩:=h;exact⟨a,xs,e,l.bo p.bo,aF.pw p r⟩
 | .tup vs,v,h=>by unfold bb at h ⊢;obtain⟨a,xs,e,l,r⟩:=h;exact⟨a,xs,e,vJ.bo p.bo l,aF.pw p r⟩
theorem aF.pw{K:W.Frag}(p:PW ρ H de H'):∀{ds:List V3} {xs:List V},aF K ρ H ds xs->aF K de H' ds xs
 | [],_,h=>by unfold aF at h ⊢;exact h
 | d ::ds,xs,h=>by
   unfold aF at h ⊢;obtain⟨x,r,e,h1,h2⟩:=h;exact⟨x,r,e,bb.pw p h1,aF.pw p h2⟩
end
theorem aF.nil{K:W.Frag}:aF K ρ H [] []:=by unfold aF;rfl
theorem aF.cons{K:W.Frag}{d:V3}{ds:List V3}{x:V}{xs:List V}(h:bb K ρ H d x)(t:aF K ρ H ds xs):aF K ρ H (d ::ds) (x ::xs):=by
 unfold aF;exact⟨x,xs,rfl,h,t⟩
theorem aF.cc{K:W.Frag}{d:V3}{ds:List V3}{xs:List V}(h:aF K ρ H (d ::ds) xs):∃x r,xs=x ::r/\bb K ρ H d x/\aF K ρ H ds r:=by
 unfold aF at h;exact h
theorem aF.length{K:W.Frag}:∀{ds:List V3} {xs:List V},aF K ρ H ds xs->ds.length=xs.length
 | [],_,h=>by unfold aF at h;rw [h];rfl
 | d ::ds,xs,h=>by
   obtain⟨x,r,rfl,_,h2⟩:=h.cc;simp [h2.length]
theorem aF.of{K:W.Frag}{ρ:P3}:∀{ds:List D} {xs:List V},aC K ρ.b H ds xs->aF K ρ H (ds.map .d) xs
 | [],_,h=>by unfold aC at h;subst h;exact aF.nil
 | d ::ds,xs,h=>by
   obtain⟨x,r,rfl,h1,h2⟩:=h.cc;exact aF.cons (by unfold bb;exact h1) (aF.of h2)
theorem aF.to{K:W.Frag}{ρ:P3}:∀{ds:List D} {xs:List V},aF K ρ H (ds.map .d) xs->aC K ρ.b H ds xs
 | [],_,h=>by unfold aF at h;subst h;exact aC.nil
 | d ::ds,xs,h=>by
   obtain⟨x,r,rfl,h1,h2⟩:=aF.cc h;unfold bb at h1;exact aC.cons h1 (aF.to h2)
def DF(K:W.Frag)(cl:Vx)(ρ:P3)(H:Hp):SO->Option HO->Prop
 | .lst ds,h=>∃xs,h=some (.lst xs)/\aC K ρ.b H ds xs
 | .dct kvs,h=>∃ys,h=some (.dK ys)/\ys.map (·.1)=kvs.map (·.1)/\aC K ρ.b H (kvs.map (·.2)) (ys.map (·.2))
 | .ins c fs,h=>∃dx ys,h=some (.ins (cl c) dx ys)/\ys.map (·.1)=fs.map (·.1)/\aF K ρ H (fs.map (·.2)) (ys.map (·.2))
 | .ki,h=>∃u,h=some u
theorem DF.pre{K:W.Frag}{cl:Vx}(p:Pre ρ H de H'){o:SO}{h:Option HO}(r:DF K cl ρ H o h):DF K cl de H' o h:=by
 cases o with
 | lst ds=>obtain⟨xs,e,q⟩:=r;exact⟨xs,e,q.bo p.bo⟩
 | dct kvs=>obtain⟨ys,e,e2,q⟩:=r;exact⟨ys,e,e2,q.bo p.bo⟩
 | ins c fs=>obtain⟨dx,ys,e,e2,q⟩:=r;exact⟨dx,ys,e,e2,q.pre p⟩
 | ki=>exact r
theorem DF.pw{K:W.Frag}{cl:Vx}(p:PW ρ H de H'){o:SO}{h:Option HO}(r:DF K cl ρ H o h):DF K cl de H' o h:=by
 cases o with
 | lst ds=>obtain⟨xs,e,q⟩:=r;exact⟨xs,e,q.bo p.bo⟩
 | dct kvs=>obtain⟨ys,e,e2,q⟩:=r;exact⟨ys,e,e2,q.bo p.bo⟩
 | ins c fs=>obtain⟨dx,ys,e,e2,q⟩:=r;exact⟨dx,ys,e,e2,q.pw p⟩
 | ki=>exact r
theorem DF.some{K:W.Frag}{cl:Vx}{o:SO}{h:Option HO}(r:DF K cl ρ H o h):∃u,h=some u:=by
 cases o with
 | lst ds=>obtain⟨xs,e,q⟩:=r;exact⟨_,e⟩
 | dct kvs=>obtain⟨ys,e,e2,q⟩:=r;exact⟨_,e⟩
 | ins c fs=>obtain⟨dx,ys,e,e2,q⟩:=r;exact⟨_,e⟩
 | ki=>exact r
structure SW (K:W.Frag) (cl:Vx) (ρ:P3) (H:Hp) (S:aN):Prop where
 len:ρ.r.length=S.length
 nd:∀(i j:Nat) (a:Addr),ρ.r[i]? =some a->ρ.r[j]? =some a->i=j
 ob:∀(k:Nat) (a:Addr) (o:SO),ρ.r[k]? =some a->S[k]? =some o->DF K cl ρ H o (H a)
 zb:∀b∈ρ.z,(∃xs,H b=some (.lst xs))/\b ∉ ρ.r
 fz:∀(k:Nat) (a:Addr),ρ.r[k]? =some a->S[k]?≠some .ki->a ∉ ρ.f
 ff:∀a∈ρ.f,∃o,H a=some o
 fi:∀(k:Nat) (a:Addr),ρ.r[k]? =some a->S[k]? =some .ki->a∈ρ.f
theorem SW.rs{K:W.Frag}{cl:Vx}{ρ:P3}{H:Hp}{S:aN}(w:SW K cl ρ H S):∀a∈ρ.r,∃o,H a=some o:=fun a z=>by
 obtain⟨k,hk⟩:=List.getElem?_of_mem z;have hl:=(List.getElem?_eq_some_iff.mp hk).1;exact(w.ob k a _ hk (List.getElem?_eq_getElem (by rw[<-w.len];exact hl))).some
theorem SW.bs{K:W.Frag}{cl:Vx}{ρ:P3}{H:Hp}{S:aN}(w:SW K cl ρ H S):∀a∈ρ.b,∃o,H a=some o:=fun a ha=>by
 rcases P3.et.mp ha with z | z
 .exact w.rs a z.1
 .obtain⟨xs,h⟩:=(w.zb a z).1;exact⟨_,h⟩
theorem SW.same{K:W.Frag}{cl:Vx}{S:aN}(w:SW K cl ρ H S)(s:aO H H'):SW K cl ρ H' S:=
 ⟨w.len,w.nd,fun k a o h1 h2=>by
   have r:=w.ob k a o h1 h2;obtain⟨u,hu⟩:=r.some;rw[s a u hu,<-hu];exact r.pre (Pre.same s),fun b hb=>let⟨⟨o,ho⟩,n⟩:=w.zb b hb;⟨⟨o,s b _ ho⟩,n⟩,w.fz,fun a ha=>let⟨o,ho⟩:=w.ff a ha;⟨o,s a o ho⟩,w.fi⟩
theorem P3.mem_push{ρ:P3}{a b:Addr}(h:b∈(ρ.push a).b):b∈ρ.b\/b=a:=by
 rcases P3.et.mp h with⟨z,n⟩ | z
 .rcases List.mem_append.mp z with y | y
  .exact .inl (P3.et.mpr (.inl ⟨y,n⟩))
  .exact .inr (List.mem_singleton.mp y)
 .exact .inl (P3.et.mpr (.inr z))
theorem SW.new{K:W.Frag}{cl:Vx}{ρ:P3}{H H':Hp}{S:aN}(w:SW K cl ρ H S){a:Addr}{o:SO}(s:aO H H')(n:H a=none)(r:DF K cl (ρ.push a) H' o (H' a))(FP:o≠SO.ki:=by intro h;cases h) :
 SW K cl (ρ.push a) H' (S++[o])/\Pre ρ H (ρ.push a) H':=by
 have na:a ∉ ρ.b:=fun ha=>by obtain⟨o,ho⟩:=w.bs a ha;rw [n] at ho;cases ho
 have nr:a ∉ ρ.r:=fun ha=>by obtain⟨o,ho⟩:=w.rs a ha;rw [n] at ho;cases ho
 have nf:a ∉ ρ.f:=fun ha=>by obtain⟨o,ho⟩:=w.ff a ha;rw [n] at ho;cases ho
 have p:Pre ρ H (ρ.push a) H':=⟨fun b u e nb=>⟨s b u e,fun hb=>by
  rcases P3.mem_push hb with z | z
  .exact nb z
  .subst z;rw [n] at e;cases e⟩,rfl,fun b o _ h=>s b o h,fun k x hx=>by
   show(ρ.r++[a])[k]? =_;rw[List.getElem?_append_left (List.getElem?_eq_some_iff.mp hx).1];exact hx⟩
 have last:∀(i:Nat) (b:Addr),(ρ.push a).r[i]? =some b->(i < ρ.r.length/\ρ.r[i]? =some b)\/(i=ρ.r.length/\b=a):=fun i b h=>by
  have h:(ρ.r++[a])[i]? =some b:=h;by_cases q:i < ρ.r.length
  .rw [List.getElem?_append_left q] at h;exact .inl ⟨q,h⟩
  .rw [List.getElem?_append_right (by omega)] at h
   have h0:i - ρ.r.length=0:=by
    have:=(List.getElem?_eq_some_iff.mp h).1;simp at this;omega
   rw[h0] at h;cases h;exact .inr ⟨by omega,rfl⟩
 refine⟨⟨by show(ρ.r++[a]).length=_;rw [List.length_append,List.length_append,w.len];rfl,fun i j b hi hj=>?_,fun k b u hk hu=>?_,fun b hb=>?_,fun k b hk hu=>?_,fun b hb=>?_,fun k b hk hu=>?_⟩,p⟩
 .rcases last i b hi with⟨q1,q2⟩ | ⟨q1,rfl⟩
  .rcases last j b hj with⟨z1,z2⟩ | ⟨z1,rfl⟩
   .exact w.nd i j b q2 z2
   .exact absurd (List.mem_of_getElem? q2) nr
  .rcases last j b hj with⟨z1,z2⟩ | ⟨z1,z3⟩
   .exact absurd (List.mem_of_getElem? z2) nr
   .omega
 .rcases last k b hk with⟨q1,q2⟩ | ⟨q1,rfl⟩
  .rw [List.getElem?_append_left (by rw[<-w.len];exact q1)] at hu
   have r0:=w.ob k b u q2 hu;obtain⟨x,hx⟩:=r0.some;rw[s b x hx,<-hx];exact r0.pre p
  .rw [List.getElem?_append_right (by rw[<-w.len];omega),q1,w.len,Nat.sub_self] at hu
   cases hu;exact r
 .obtain⟨⟨o,ho⟩,nb⟩:=w.zb b hb;refine⟨⟨o,s b _ ho⟩,fun h=>?_⟩
  rcases List.mem_append.mp h with y | y
  .exact nb y
  .rw [List.mem_singleton] at y;subst y;rw [n] at ho;cases ho
 .rcases last k b hk with⟨q1,q2⟩ | ⟨q1,rfl⟩
  .rw [List.getElem?_append_left (by rw[<-w.len];exact q1)] at hu
   exact w.fz k b q2 hu
  .exact nf
 .obtain⟨o,ho⟩:=w.ff b hb;exact⟨o,s b o ho⟩
 .rcases last k b hk with⟨q1,q2⟩ | ⟨q1,rfl⟩
  .rw [List.getElem?_append_left (by rw[<-w.len];exact q1)] at hu
   exact w.fi k b q2 hu
  .rw [List.getElem?_append_right (by rw[<-w.len];omega),q1,w.len,Nat.sub_self] at hu
   cases hu;exact absurd rfl FP
theorem SW.put{K:W.Frag}{cl:Vx}{ρ:P3}{S:aN}(w:SW K cl ρ H S){k:Nat}{a:Addr}{o:SO}{u:HO}(hk:ρ.r[k]? =some a)(hf:a ∉ ρ.f)(r:DF K cl ρ H o (some u))(FP:o≠SO.ki:=by intro h;cases h) :
 SW K cl ρ (upd H a u) (S.set k o)/\Pre ρ H ρ (upd H a u):=by
 have ha:a∈ρ.r:=List.mem_of_getElem? hk;have hb:a∈ρ.b:=P3.et.mpr (.inl ⟨ha,hf⟩);have nz:∀b∈ρ.z,b≠a:=fun b hb z=>(w.zb b hb).2 (by rw[z];exact ha)
 have p:Pre ρ H ρ (upd H a u):=⟨fun b x e nb=>⟨by rw[aZ (fun(z:b=a)=>nb (by rw[z];exact hb))];exact e,nb⟩,rfl,fun b o hb h=>by rw[aZ (nz b hb)];exact h,fun _ _ h=>h⟩
 have hl:k < S.length:=by rw[<-w.len];exact(List.getElem?_eq_some_iff.mp hk).1
 refine⟨⟨by rw[List.length_set];exact w.len,w.nd,fun j b x hj hx=>?_,fun b hb=>?_,fun j b hj hx=>?_,fun b hb=>?_,fun j b hj hx=>?_⟩,p⟩
 .by_cases q:k=j
  .subst q;rw[hk] at hj;cases hj;rw[List.getElem?_set_self hl] at hx;cases hx;rw[bf];exact r.pre p
  .rw [List.getElem?_set_ne q] at hx;have ne:b≠a:=fun z=>by subst z;exact q (w.nd k j b hk hj)
   rw[aZ ne];exact(w.ob j b x hj hx).pre p
 .obtain⟨⟨o,ho⟩,nb⟩:=w.zb b hb;exact⟨⟨o,by rw[aZ (nz b hb)];exact ho⟩,nb⟩
 .by_cases q:k=j
  .subst q;rw[hk] at hj;cases hj;exact hf
  .rw [List.getElem?_set_ne q] at hx;exact w.fz j b hj hx
 .obtain⟨o,ho⟩:=w.ff b hb;exact⟨o,by rw[aZ (fun z=>hf (by rw[<-z];exact hb))];exact ho⟩
 .by_cases q:k=j
  .subst q;rw[List.getElem?_set_self hl] at hx;cases hx;exact absurd rfl FP
  .rw [List.getElem?_set_ne q] at hx;exact w.fi j b hj hx
theorem SW.ki{K:W.Frag}{cl:Vx}{ρ:P3}{S:aN}(w:SW K cl ρ H S){k:Nat}{a:Addr}{ds:List D}(hk:ρ.r[k]? =some a)(hS:S[k]? =some (.lst ds)) :
 SW K cl ⟨ρ.r,ρ.z,a ::ρ.f⟩ H (S.set k .ki)/\Pre ρ H ⟨ρ.r,ρ.z,a ::ρ.f⟩ H/\Rep K (⟨ρ.r,ρ.z,a ::ρ.f⟩:P3).b H (.lst ds) (.ref a):=by
 have hl:k < S.length:=by rw[<-w.len];exact(List.getElem?_eq_some_iff.mp hk).1
 have sub:∀b,b∈(⟨ρ.r,ρ.z,a ::ρ.f⟩:P3).b->b∈ρ.b:=fun b hb=>by
  rcases P3.et.mp hb with⟨z,n⟩ | z
  .exact P3.et.mpr (.inl ⟨z,fun h=>n (List.mem_cons_of_mem _ h)⟩)
  .exact P3.et.mpr (.inr z)
 have p:Pre ρ H ⟨ρ.r,ρ.z,a ::ρ.f⟩ H:=⟨fun b o e nb=>⟨e,fun hb=>nb (sub b hb)⟩,rfl,fun _ _ _ h=>h,fun _ _ h=>h⟩
 obtain⟨xs,e1,r1⟩:=w.ob k a _ hk hS;refine⟨⟨by rw[List.length_set];exact w.len,w.nd,fun j b x hj hx=>?_,w.zb,fun j b hj hx=>?_,fun b hb=>?_,fun j b hj hx=>?_⟩,p,?_⟩
 .by_cases q:k=j
  .subst q;rw[List.getElem?_set_self hl] at hx;cases hx;rw[hk] at hj;cases hj;exact⟨_,e1⟩
  .rw [List.getElem?_set_ne q] at hx;exact(w.ob j b x hj hx).pre p
 .by_cases q:k=j
  .subst q;rw[List.getElem?_set_self hl] at hx;exact absurd rfl hx
  .rw [List.getElem?_set_ne q] at hx;intro h;rcases List.mem_cons.mp h with z | z
   .subst z;exact q (w.nd k j b hk hj)
   .exact w.fz j b hj hx z
 .rcases List.mem_cons.mp hb with z | z
  .subst z;exact⟨_,e1⟩
  .exact w.ff b z
 .by_cases q:k=j
  .subst q;rw[hk] at hj;cases hj;exact List.mem_cons_self
  .rw [List.getElem?_set_ne q] at hx;exact List.mem_cons_of_mem _ (w.fi j b hj hx)
 .refine Rep.lst.mpr ⟨a,xs,rfl, .inl ⟨fun hb=>?_, .inl e1⟩,r1.bo p.bo⟩
  rcases P3.et.mp hb with⟨_,n⟩ | z
  .exact n List.mem_cons_self
  .exact(w.zb a z).2 (List.mem_of_getElem? hk)
mutual
def mU:D->Bool
 | .lst _=>false
 | .dct _ _=>false
 | .tup ds=>jR ds
 | _=>true
def jR:List D->Bool
 | []=>true
 | d ::ds=>mU d && jR ds
end
mutual
theorem Rep.vc{K:W.Frag}{B:List Addr}(hB:∀b∈B,∀xs,¬Rd H b (.tup xs)):∀{d:D} {v:V},mU d=true->Rep K [] H d v->Rep K B H d v
 | .cn,v,_,r=>Rep.cn.mpr (Rep.cn.mp r)
 | .bl _,v,_,r=>Rep.bl.mpr (Rep.bl.mp r)
 | .int _,v,_,r=>Rep.int.mpr (Rep.int.mp r)
 | .str _,v,_,r=>Rep.str.mpr (Rep.str.mp r)
 | .lst _,v,h,_=>by unfold mU at h;cases h
 | .dct _ _,v,h,_=>by unfold mU at h;cases h
 | .tup ds,v,h,r=>by
   unfold mU at h;obtain⟨a,xs,rfl,l,rs⟩:=Rep.tup.mp r;exact Rep.tup.mpr ⟨a,xs,rfl,l.elim (fun z=> .inl ⟨fun hb=>hB a hb xs z.2,z.2⟩) .inr,aC.vc hB h rs⟩
theorem aC.vc{K:W.Frag}{B:List Addr}(hB:∀b∈B,∀xs,¬Rd H b (.tup xs)):∀{ds:List D} {vs:List V},jR ds=true->aC K [] H ds vs->aC K B H ds vs
 | [],_,_,r=>by unfold aC at r;subst r;exact aC.nil
 | d ::ds,vs,h,r=>by
   unfold jR at h;obtain⟨h1,h2⟩:=Bool.and_eq_true_iff.mp h;obtain⟨x,xs,rfl,r1,r2⟩:=r.cc;exact aC.cons (Rep.vc hB h1 r1) (aC.vc hB h2 r2)
end
theorem SW.nt{K:W.Frag}{cl:Vx}{ρ:P3}{S:aN}(w:SW K cl ρ H S):∀b∈ρ.b,∀xs,¬Rd H b (.tup xs):=fun b hb xs h=>by
 have key:∀o,H b=some o->(∀xs,o≠ .tup xs)->(∀ob xs,o≠ .ki ob (.tup xs))->False:=fun o e h1 h2=>by
  rcases h with z | ⟨ob,z⟩
  .rw [e] at z;cases z;exact h1 _ rfl
  .rw [e] at z;cases z;exact h2 _ _ rfl
 rcases P3.et.mp hb with⟨z,n⟩ | z
 .obtain⟨k,hk⟩:=List.getElem?_of_mem z;have hl:=(List.getElem?_eq_some_iff.mp hk).1;have hS:S[k]? =some (S[k]'(by rw[<-w.len];exact hl)):=List.getElem?_eq_getElem (by rw[<-w.len];exact hl)
  have r:=w.ob k b _ hk hS;generalize S[k]'(by rw[<-w.len];exact hl)=o at r hS
  cases o with
  | lst ds=>obtain⟨ys,e,_⟩:=r;exact key _ e (fun _ q=>by cases q) (fun _ _ q=>by cases q)
  | dct kvs=>obtain⟨ys,e,_⟩:=r;exact key _ e (fun _ q=>by cases q) (fun _ _ q=>by cases q)
  | ins c fs=>obtain⟨dx,ys,e,_⟩:=r;exact key _ e (fun _ q=>by cases q) (fun _ _ q=>by cases q)
  | ki=>exact n (w.fi k b hk hS)
 .obtain⟨⟨ys,e⟩,_⟩:=w.zb b z;exact key _ e (fun _ q=>by cases q) (fun _ _ q=>by cases q)
abbrev DE:=List (Option V3)
structure fZ (K:W.Frag) (cl:Vx) (ρ:P3) (H:Hp) (S:aN) (σ:L2.St) (δ:DE):Prop where
 len:δ.length=σ.length
 sw:SW K cl ρ H S
 val:∀(i:Nat) (d:V3),δ[i]? =some (some d)->∃v,σ[i]? =some (some v)/\bb K ρ H d v
theorem fZ.to{K:W.Frag}{cl:Vx}{S S':aN}{σ:L2.St}{δ:DE}(E:fZ K cl ρ H S σ δ)(p:Pre ρ H de H')(w:SW K cl de H' S'):fZ K cl de H' S' σ δ:=
 ⟨E.len,w,fun i d e=>let⟨v,h1,h2⟩:=E.val i d e;⟨v,h1,h2.pre p⟩⟩
theorem fZ.set{K:W.Frag}{cl:Vx}{S:aN}{σ:L2.St}{δ:DE}(E:fZ K cl ρ H S σ δ){i:Nat}{d:V3}{v:V}(hi:i < σ.length)(r:bb K ρ H d v):fZ K cl ρ H S (σ.set i (some v)) (δ.set i (some d)):=
 ⟨by rw[List.length_set,List.length_set];exact E.len,E.sw,fun j d' e=>by
   by_cases h:i=j
   .subst h;rw[List.getElem?_set_self (by rw[E.len];exact hi)] at e
    cases e;exact⟨v,List.getElem?_set_self hi,r⟩
   .rw [List.getElem?_set_ne h] at e ⊢;exact E.val j d' e⟩
def down(δ:DE):av:=δ.map fun x=>match x with | some (.d d)=> .val d | _=> .un
theorem fZ.down{K:W.Frag}{cl:Vx}{ρ:P3}{S:aN}{σ:L2.St}{δ:DE}(E:fZ K cl ρ H S σ δ):eG K [] ρ.b H σ (down δ) where
 len:=by unfold L3.down;rw [List.length_map];exact E.len
 bs:=E.sw.bs
 zb:=fun a ha=>by cases ha
 val:=fun i d e=>by
  unfold L3.down at e;rw[List.getElem?_map] at e;cases q:δ[i]? with
  | none=>rw [q] at e;cases e
  | some x=>
    rw[q] at e
    match x,e,q with
    | some (.d y),e,q=>
      cases e;obtain⟨v,h1,h2⟩:=E.val i _ q;unfold bb at h2;exact⟨v,h1,h2⟩
    | some (.loc k),e,q=>cases e
    | some (.lst k),e,q=>cases e
    | some (.tup k),e,q=>cases e
    | none,e,q=>cases e
 bld:=fun i ds e=>by
  unfold L3.down at e;rw[List.getElem?_map] at e;cases q:δ[i]? with
  | none=>rw [q] at e;cases e
  | some x=>
    rw[q] at e
    match x,e with
    | some (.d y),e=>cases e
    | some (.loc k),e=>cases e
    | some (.lst k),e=>cases e
    | some (.tup k),e=>cases e
    | none,e=>cases e
 dis:=fun i j a ds es e=>by
  unfold L3.down at e;rw[List.getElem?_map] at e;cases q:δ[i]? with
  | none=>rw [q] at e;cases e
  | some x=>
    rw[q] at e
    match x,e with
    | some (.d y),e=>cases e
    | some (.loc k),e=>cases e
    | some (.lst k),e=>cases e
    | some (.tup k),e=>cases e
    | none,e=>cases e
mutual
def res(S:aN):V3->Option D
 | .d x=>some x
 | .loc k=>(match S[k]? with | some (.lst ds)=>some (.lst ds) | _=>none)
 | .lst vs=>(zN S vs).map D.lst
 | .tup vs=>(zN S vs).map D.tup
def zN(S:aN):List V3->Option (List D)
 | []=>some []
 | v ::vs=>(res S v).bind fun d=>(zN S vs).map (d ::·)
end
def f9(S:aN)(δ:DE):av:=δ.map fun x=>match x with | some v=>(match res S v with | some d=> .val d | none=> .un) | none=> .un
theorem n4{α β:Type}{o:Option α}{f:α->β}{b:β}(h:o.map f=some b):∃a,o=some a/\f a=b:=by
 cases o with
 | none=>cases h
 | some a=>cases h;exact⟨a,rfl,rfl⟩
theorem zE{α β:Type}{o:Option α}{f:α->Option β}{b:β}(h:o.bind f=some b):∃a,o=some a/\f a=some b:=by
 cases o with
 | none=>cases h
 | some a=>exact⟨a,rfl,h⟩
mutual
def fH(n:Nat):V3->Bool
 | .d _=>true
 | .loc k=>decide (n<=k)
 | .lst vs=>rg n vs
 | .tup vs=>rg n vs
def rg(n:Nat):List V3->Bool
 | []=>true
 | v ::vs=>fH n v && rg n vs
end
mutual
theorem bb.resB{K:W.Frag}{cl:Vx}{ρ:P3}{S:aN}{B':List Addr}{n:Nat}(w:SW K cl ρ H S)(p:dG ρ.b H B' H)(hn:∀(k:Nat) (a:Addr),n<=k->ρ.r[k]? =some a->a ∉ B'):∀{v:V3} {d:D} {x:V},fH n v=true->res S v=some d->bb K ρ H v x->Rep K B' H d x
 | .d y,d,x,_,h,r=>by unfold L3.res at h;cases h;unfold bb at r;exact r.bo p
 | .loc k,d,x,g,h,r=>by
   unfold L3.res at h;unfold bb at r;unfold fH at g;obtain⟨a,h1,rfl⟩:=r;split at h
   .rename_i ds e;cases h;obtain⟨xs,e2,q⟩:=w.ob k a _ h1 e;unfold Rep;exact⟨a,xs,rfl, .inl ⟨hn k a (of_decide_eq_true g) h1, .inl e2⟩,q.bo p⟩
   .cases h
 | .lst vs,d,x,g,h,r=>by
   unfold L3.res at h;unfold fH at g;obtain⟨ds,e,rfl⟩:=n4 h;unfold bb at r;obtain⟨a,xs,rfl,l,r⟩:=r;unfold Rep;exact⟨a,xs,rfl,l.bo p,aF.resB w p hn g e r⟩
 | .tup vs,d,x,g,h,r=>by
   unfold L3.res at h;unfold fH at g;obtain⟨ds,e,rfl⟩:=n4 h;unfold bb at r;obtain⟨a,xs,rfl,l,r⟩:=r;unfold Rep;exact⟨a,xs,rfl,vJ.bo p l,aF.resB w p hn g e r⟩
theorem aF.resB{K:W.Frag}{cl:Vx}{ρ:P3}{S:aN}{B':List Addr}{n:Nat}(w:SW K cl ρ H S)(p:dG ρ.b H B' H)(hn:∀(k:Nat) (a:Addr),n<=k->ρ.r[k]? =some a->a ∉ B'):∀{vs:List V3} {ds:List D} {xs:List V},rg n vs=true->zN S vs=some ds->aF K ρ H vs xs->aC K B' H ds xs
 | [],ds,xs,_,h,r=>by unfold zN at h;cases h;unfold aF at r;subst r;exact aC.nil
 | v ::vs,ds,xs,g,h,r=>by
   unfold zN at h;unfold rg at g;obtain⟨g1,g2⟩:=Bool.and_eq_true_iff.mp g;obtain⟨d,e1,h2⟩:=zE h;obtain⟨es,e2,rfl⟩:=n4 h2;obtain⟨y,ys,rfl,r1,r2⟩:=r.cc;exact aC.cons (bb.resB w p hn g1 e1 r1) (aF.resB w p hn g2 e2 r2)
end
mutual
theorem uT:∀v:V3,fH 0 v=true
 | .d _=>by unfold fH;rfl
 | .loc k=>by unfold fH;exact decide_eq_true (Nat.zero_le _)
 | .lst vs=>by unfold fH;exact oT vs
 | .tup vs=>by unfold fH;exact oT vs
theorem oT:∀vs:List V3,rg 0 vs=true
 | []=>by unfold rg;rfl
 | v ::vs=>by unfold rg;rw [uT v,oT vs];rfl
end
theorem bb.res{K:W.Frag}{cl:Vx}{S:aN}(w:SW K cl ρ H S){v:V3}{d:D}{x:V}(h:res S v=some d)(r:bb K ρ H v x):Rep K [] H d x:=
 r.resB w (fun b o e _=>⟨e,by simp⟩) (n:=0) (fun _ _ _ _=>by simp) (uT v) h
theorem qF{S:aN}{δ:DE}{i:Nat}{y:Sl}(e:(f9 S δ)[i]? =some y):(∃v d,δ[i]? =some (some v)/\res S v=some d/\y= .val d)\/y= .un:=by
 unfold f9 at e;rw[List.getElem?_map] at e;cases q:δ[i]? with
 | none=>rw [q] at e;cases e
 | some x=>
   rw[q] at e;cases x with
   | none=>cases e;exact .inr rfl
   | some v=>
     cases z:res S v with
     | none=>
       have e:some (match res S v with | some d=>Sl.val d | none=> .un)=some y:=e
       rw[z] at e;cases e;exact .inr rfl
     | some d=>
       have e:some (match res S v with | some d=>Sl.val d | none=> .un)=some y:=e
       rw[z] at e;cases e;exact .inl ⟨v,d,rfl,z,rfl⟩
theorem fZ.f9{K:W.Frag}{cl:Vx}{S:aN}{σ:L2.St}{δ:DE}(E:fZ K cl ρ H S σ δ):eG K [] [] H σ (f9 S δ) where
 len:=by unfold L3.f9;rw [List.length_map];exact E.len
 bs:=fun a ha=>by cases ha
 zb:=fun a ha=>by cases ha
 val:=fun i d e=>by
  rcases qF e with⟨v,d',h1,h2,h3⟩ | h
  .cases h3;obtain⟨x,q1,q2⟩:=E.val i v h1;exact⟨x,q1,q2.res E.sw h2⟩
  .cases h
 bld:=fun i ds e=>by
  rcases qF e with⟨v,d',h1,h2,h3⟩ | h
  .cases h3
  .cases h
 dis:=fun i j a ds es e=>by
  rcases qF e with⟨v,d',h1,h2,h3⟩ | h
  .cases h3
  .cases h
abbrev FX:=DE->aN->R3 V3
abbrev FB:=DE->aN->R3 Bool
abbrev FA:=DE->aN->R3 (List V3)
def tX(K:W.Frag)(cl:Vx)(f:FX):TE:=fun σ H Q=>∃ρ S δ v S',fZ K cl ρ H S σ δ/\f δ S= .ok v S'/\∀u de H',Pre ρ H de H'->SW K cl de H' S'->bb K de H' v u->Q u H'
def Kf(K:W.Frag)(cl:Vx)(f:FB):TT:=fun σ H Q=>∃ρ S δ b S',fZ K cl ρ H S σ δ/\f δ S= .ok b S'/\∀de H',Pre ρ H de H'->SW K cl de H' S'->Q b H'
def QS(K:W.Frag)(cl:Vx)(f:FA):TA:=fun σ H Q=>∃ρ S δ vs S',fZ K cl ρ H S σ δ/\f δ S= .ok vs S'/\∀us de H',Pre ρ H de H'->SW K cl de H' S'->aF K de H' vs us->Q us H'
structure PX (X:Cx) (cl:Vx) (e:Expr) (f:FX):Prop where
 go:PE X e (tX X.K cl f)
structure ND (X:Cx) (cl:Vx) (e:Expr) (f:FB):Prop where
 go:PT X e (Kf X.K cl f)
structure GU (X:Cx) (cl:Vx) (es:List Expr) (f:FA):Prop where
 go:PA X es (QS X.K cl f)
section
variable {X:Cx} {cl:Vx}
def xP(f:FD):FX:=fun δ S=>(R3.of (f (down δ)) S).bind fun d S=> .ok (.d d) S
theorem ah(h:QD X e f):PX X cl e (xP f):=⟨h.1.imp fun σ H Q ⟨ρ,S,δ,v,S',E,hf,q⟩=>by
 obtain⟨d,S1,h1,h2⟩:=R3.ai hf;obtain⟨h3,e3⟩:=R3.of_ok h1;cases h2;subst e3;exact⟨[],ρ.b,down δ,d,E.down,h3,fun v H' s r=>q v ρ H' (Pre.same s) (E.sw.same s) (by unfold bb;exact r)⟩⟩
def xT(f:FD):FX:=fun δ S=>(R3.of (f (f9 S δ)) S).bind fun d S=>R3.bH (mU d) (.ok (.d d) S)
theorem r6(h:QD X e f):PX X cl e (xT f):=⟨h.1.imp fun σ H Q ⟨ρ,S,δ,v,S',E,hf,q⟩=>by
 obtain⟨d,S1,h1,h2⟩:=R3.ai hf;obtain⟨h4,e3⟩:=R3.of_ok h1;obtain⟨ha,h3⟩:=R3.bh h2;cases h3;subst e3;exact⟨[],[],f9 _ δ,d,E.f9,h4,fun v H' s r=>q v ρ H' (Pre.same s) (E.sw.same s) (by unfold bb;exact Rep.vc (E.sw.same s).nt ha r)⟩⟩
def bP(f:av->R Bool):FB:=fun δ S=>R3.of (f (down δ)) S
theorem gq{f:av->R Bool}(h:QB X e f):ND X cl e (bP f):=⟨h.1.imp fun σ H Q ⟨ρ,S,δ,v,S',E,hf,q⟩=>by
 obtain⟨h1,e3⟩:=R3.of_ok hf;subst e3;exact⟨[],ρ.b,down δ,v,E.down,h1,fun H' s=>q ρ H' (Pre.same s) (E.sw.same s)⟩⟩
def bT(f:av->R Bool):FB:=fun δ S=>R3.of (f (f9 S δ)) S
def dU(i:Nat):FX:=fun δ S=>match δ[i]? with | some (some v)=> .ok v S | _=> .no
theorem bF(i:Nat){x:Str}{pos:Pos}(hN:X.N[i]? =some x:=by rfl)(hv:Gr X.env.scope x:=by first | exact Or.inl rfl | exact Or.inr (Or.inl rfl) | exact Or.inr (Or.inr rfl))(hd:(x==("__debug__":Str))=false:=by decide)
 (uk:(x==("__classdict__":Str))=false:=by decide):PX X cl (.Name x pos) (dU i):=⟨(tR hN hv hd uk).imp fun σ H Q ⟨ρ,S,δ,v,S',E,hf,q⟩=>by
 unfold dU at hf;split at hf
 .rename_i d' e;cases hf;obtain⟨u,h1,h2⟩:=E.val i _ e;exact⟨u,h1,q u ρ H (Pre.refl ρ H) E.sw h2⟩
 .cases hf⟩
def p7(f:av->R (List D)):FX:=fun δ S=>(R3.of (f (down δ)) S).bind fun ds S=> .ok (.loc S.length) (S++[.lst ds])
theorem iS{f:av->R (List D)}(h:QN X e f):PX X cl e (p7 f):=⟨h.1.imp fun σ H Q ⟨ρ,S,δ,v,S',E,hf,q⟩=>by
 obtain⟨ds,S1,h1,h2⟩:=R3.ai hf;obtain⟨h3,e3⟩:=R3.of_ok h1;cases h2;subst e3;refine⟨[],ρ.b,down δ,ds,E.down,h3,fun a xs H' s n e r=>?_⟩
 have r':aC X.K (ρ.push a).b H' ds xs:=r.bo fun b o e nb=>⟨e,fun hb=>nb (by
  rcases P3.mem_push hb with z | z
  .exact List.mem_cons_of_mem _ z
  .subst z;exact List.mem_cons_self)⟩
 obtain⟨w,p⟩:=E.sw.new (o:= .lst ds) s n ⟨xs,e,r'⟩;exact q _ _ H' p w (by unfold bb;exact⟨a,by show(ρ.r++[a])[_]? =_;rw [<-E.sw.len,List.getElem?_append_right (by omega),Nat.sub_self];rfl,rfl⟩)⟩
end
end L3
end
section
namespace L3
open PySem PySem.Spec PyProof.Rows L2
section
variable {X:Cx} {cl:Vx}
def di:FA:=fun _ S=> .ok [] S
def aM(f:FX)(g:FA):FA:=fun δ S=>(f δ S).bind fun v S1=>(g δ S1).bind fun vs S2=> .ok (v ::vs) S2
theorem aU:GU X cl [] di:=⟨kM.imp fun σ H Q ⟨ρ,S,δ,v,S',E,hf,q⟩=>by
 cases hf;exact q [] ρ H (Pre.refl ρ H) E.sw aF.nil⟩
theorem aq(h:PX X cl e f)(t:GU X cl es g)(hs:starEach (e ::es) X.env=(false,eval e X.env) ::starEach es X.env:=by rfl):GU X cl (e ::es) (aM f g):=
 ⟨(gd h.1 t.1 hs).imp fun σ H Q ⟨ρ,S,δ,v,S',E,hf,q⟩=>by
   obtain⟨v1,S1,h1,h2⟩:=R3.ai hf;obtain⟨vs,S2,h3,h4⟩:=R3.ai h2;cases h4;exact⟨ρ,S,δ,v1,S1,E,h1,fun u cF H1 p1 w1 r1=>⟨cF,S1,δ,vs,_,E.to p1 w1,h3,fun us ui H2 p2 w2 r2=>q _ ui H2 (p1.trans p2) w2 (aF.cons (r1.pre p2) r2)⟩⟩⟩
def rQ:List V3->Option (List D)
 | []=>some []
 | .d x ::r=>(rQ r).map (x ::·)
 | _ ::_=>none
theorem jo:∀{vs:List V3} {ds:List D},rQ vs=some ds->vs=ds.map .d
 | [],ds,h=>by cases h;rfl
 | .d x ::r,ds,h=>by
   cases e:rQ r with
   | none=>have h:(rQ r).map (x ::·)=some ds:=h;rw [e] at h;cases h
   | some es=>
     have h:(rQ r).map (x ::·)=some ds:=h
     rw[e] at h;cases h;rw[jo e];rfl
 | .loc _ ::_,_,h=>by cases h
 | .lst _ ::_,_,h=>by cases h
 | .tup _ ::_,_,h=>by cases h
theorem sJ:∀ds:List D,rQ (ds.map .d)=some ds
 | []=>rfl
 | d ::ds=>by show(rQ (ds.map .d)).map (d ::·)=_;rw [sJ ds];rfl
def AB(vs:List V3):V3:=match rQ vs with | some ds=> .d (.tup ds) | none=> .tup vs
def u7(vs:List V3):V3:=match rQ vs with | some ds=> .d (.lst ds) | none=> .lst vs
def HL(g:FA):FX:=fun δ S=>(g δ S).bind fun vs S=>R3.bH (decide (vs.length<=sizeLine)) (.ok (AB vs) S)
theorem Ay{H:Hp}{p:Addr}{o:HO}(hp:H p=none):Pre ρ H ρ (upd H p o):=Pre.same (aW hp)
theorem Ca{K:W.Frag}{ρ:P3}{vs:List V3}{xs:List V}{a:Addr}(l:vJ K ρ.b H a xs)(r:aF K ρ H vs xs):bb K ρ H (AB vs) (.ref a):=by
 unfold AB;split
 .rename_i ds e;rw[jo e] at r;unfold bb Rep;exact⟨a,xs,rfl,l,r.to⟩
 .unfold bb;exact⟨a,xs,rfl,l,r⟩
theorem BR{K:W.Frag}{ρ:P3}{vs:List V3}{xs:List V}{a:Addr}(l:uo K ρ.b H a xs)(r:aF K ρ H vs xs):bb K ρ H (u7 vs) (.ref a):=by
 unfold u7;split
 .rename_i ds e;rw[jo e] at r;unfold bb Rep;exact⟨a,xs,rfl,l,r.to⟩
 .unfold bb;exact⟨a,xs,rfl,l,r⟩
theorem EY{x1 pos}(h:GU X cl es g):PX X cl (.Tuple es x1 pos) (HL g):=⟨(EA h.1).imp fun σ H Q ⟨ρ,S,δ,v,S',E,hf,q⟩=>by
 obtain⟨vs,S1,h1,h2⟩:=R3.ai hf;obtain⟨hl,h3⟩:=R3.bh h2;cases h3;refine⟨ρ,S,δ,vs,_,E,h1,fun us cF H1 p1 w1 r1=>⟨by rw[<-r1.length];exact of_decide_eq_true hl,fun p hp=>q _ cF _ (p1.trans (Ay hp)) (w1.same (aW hp)) ?_⟩⟩
 refine Ca (.inl ⟨fun ha=>?_, .inl bf⟩) (r1.pre (Ay hp))
 obtain⟨o,ho⟩:=w1.bs p ha;rw[hp] at ho;cases ho⟩
def SU(g:FA):FX:=fun δ S=>(g δ S).bind fun vs S=>R3.bH (decide (vs.length<=sizeLine)) (.ok (u7 vs) S)
def x2(g:D->D->R D)(fa fb:FX):FX:=fun δ S=>(fa δ S).bind fun a S1=>(fb δ S1).bind fun b S2=>match a,b with
 | .d x, .d y=>(R3.of (g x y) S2).bind fun d S=> .ok (.d d) S
 | _,_=> .no
theorem IJ{K:W.Frag}{g:D->D->R D}{σ:L2.St}{Q:VK}(h:tX K cl (x2 g fa fb) σ H Q) :
 Lo (fun x y H Q=>∃B da db d,(∀a∈B,∃o,H a=some o)/\Rep K B H da x/\Rep K B H db y/\g da db= .ok d/\∀z H',aO H H'->Rep K B H' d z->Q z H') (tX K cl fa) (tX K cl fb) σ H Q:=by
 obtain⟨ρ,S,δ,v,S',E,hf,q⟩:=h;obtain⟨a,S1,h1,h2⟩:=R3.ai hf;obtain⟨b,S2,h3,h4⟩:=R3.ai h2
 match a,b,h1,h3,h4 with
 | .d x, .d y,h1,h3,h4=>
   obtain⟨d,S3,h5,h6⟩:=R3.ai h4;obtain⟨h7,e⟩:=R3.of_ok h5;cases h6;subst e;refine⟨ρ,S,δ, .d x,S1,E,h1,fun u1 cF H1 p1 w1 r1=>⟨cF,S1,δ, .d y,_,E.to p1 w1,h3,fun u2 ui H2 p2 w2 r2=>?_⟩⟩
   have vM:=r1.pre p2;unfold bb at vM r2;exact⟨ui.b,x,y,d,w2.bs,vM,r2,h7,fun z H' s r=>q z ui H' (p1.trans (p2.trans (Pre.same s))) (w2.same s) (by unfold bb;exact r)⟩
 | .d x, .loc _,_,_,h4=>cases h4
 | .d x, .lst _,_,_,h4=>cases h4
 | .d x, .tup _,_,_,h4=>cases h4
 | .loc _,_,_,_,h4=>cases h4
 | .lst _,_,_,_,h4=>cases h4
 | .tup _,_,_,_,h4=>cases h4
theorem LH{op:Operator}{g:D->D->R D}(ho:lp X (binaryOp op) g)(ha:PX X cl a fa)(hb:PX X cl b fb):PX X cl (.BinOp a op b pos) (x2 g fa fb):=
 ⟨(Ax ho.r ha.1 hb.1).imp fun σ H Q h=>IJ h⟩
theorem zd{op:CmpOp}{g:D->D->R D}(ho:lp X (compareOp op) g)(ha:PX X cl a fa)(hb:PX X cl b fb)(hm:behindInMarks op b=false):PX X cl (.Compare a [op] [b] pos) (x2 g fa fb):=
 ⟨(AX ho.r ha.1 hb.1 hm).imp fun σ H Q h=>IJ h⟩
def MO(g:D->D->R D)(fa fb:FX):FB:=fun δ S=>(x2 g fa fb δ S).bind fun v S=>match v with | .d (.bl b)=> .ok b S | _=> .no
theorem wU{op:CmpOp}{g:D->D->R D}(ho:lp X (compareOp op) g)(ha:PX X cl a fa)(hb:PX X cl b fb)(hm:behindInMarks op b=false):ND X cl (.Compare a [op] [b] pos) (MO g fa fb):=
 ⟨(AD ho.r ha.1 hb.1 hm).imp fun σ H Q ⟨ρ,S,δ,b,S',E,hf,q⟩=>by
   obtain⟨v,S1,h1,h2⟩:=R3.ai hf;have hv:v= .d (.bl b)/\S1=S':=by
    match v,h2 with
    | .d (.bl k),h2=>cases h2;exact⟨rfl,rfl⟩
    | .d .cn,h2=>cases h2
    | .d (.int _),h2=>cases h2
    | .d (.str _),h2=>cases h2
    | .d (.lst _),h2=>cases h2
    | .d (.tup _),h2=>cases h2
    | .d (.dct _ _),h2=>cases h2
    | .loc _,h2=>cases h2
    | .lst _,h2=>cases h2
    | .tup _,h2=>cases h2
   obtain⟨rfl,rfl⟩:=hv;exact IJ (g:=g) (Q:=fun x H'=>∃k,x= .bl k/\Q k H') ⟨ρ,S,δ,_,_,E,h1,fun u de H' p w r=>⟨b,by unfold bb Rep at r;exact r,q de H' p w⟩⟩⟩
inductive Ou where
 | nx (δ:DE) | rt (v:V3)
abbrev FZ:=DE->aN->R3 Ou
def Hw(K:W.Frag)(cl:Vx)(ρ:P3)(H:Hp)(D:Ends)(S':aN):Ou->Prop
 | .nx eK=>∀dw de H',Pre ρ H de H'->fZ K cl de H' S' dw eK->D.nx dw H'
 | .rt v=>∀u de H',Pre ρ H de H'->SW K cl de H' S'->bb K de H' v u->D.rt u H'
theorem Hw.pre{K:W.Frag}{D:Ends}{S':aN}{o:Ou}(q:Hw K cl ρ H D S' o)(p:Pre ρ H cF H1):Hw K cl cF H1 D S' o:=by
 cases o with
 | nx eK=>exact fun dw de H' p' E'=>q dw de H' (p.trans p') E'
 | rt d=>exact fun v de H' p' w r=>q v de H' (p.trans p') w r
def sX(K:W.Frag)(cl:Vx)(F:FZ):TS:=fun D σ H=>∃ρ S δ o S',fZ K cl ρ H S σ δ/\F δ S= .ok o S'/\Hw K cl ρ H D S' o
structure PZ (X:Cx) (cl:Vx) (st:Stmt) (F:FZ):Prop where
 go:PS X st (sX X.K cl F)
structure Ee (X:Cx) (cl:Vx) (st:List Stmt) (F:FZ):Prop where
 go:xm X st (sX X.K cl F)
def uC:FZ:=fun δ S=> .ok (.nx δ) S
def bA(F G:FZ):FZ:=fun δ S=>(F δ S).bind fun o S1=>match o with | .nx eK=>G eK S1 | .rt d=> .ok (.rt d) S1
theorem kr:Ee X cl [] uC:=⟨AN.imp fun D σ H ⟨ρ,S,δ,o,S',E,hf,q⟩=>by
 cases hf;exact q σ ρ H (Pre.refl ρ H) E⟩
theorem au{st:Stmt}{rest:List Stmt}(h1:PZ X cl st F)(h2:Ee X cl rest G):Ee X cl (st ::rest) (bA F G):=⟨(yD h1.1 h2.1).imp fun D σ H ⟨ρ,S,δ,o,S',E,hf,q⟩=>by
 obtain⟨o1,S1,h1,h2⟩:=R3.ai hf;refine⟨ρ,S,δ,o1,S1,E,h1,?_⟩;cases o1 with
 | nx dj=>
   intro M8 cF H1 p1 E1;exact⟨cF,S1,dj,o,S',E1,h2,q.pre p1⟩
 | rt d=>
   cases h2;exact q⟩
theorem aL{st:Stmt}(h1:PZ X cl st F):Ee X cl [st] F:=⟨Au h1.1⟩
def cH(i:Nat)(f:FX):FZ:=fun δ S=>(f δ S).bind fun v S=>R3.bH (decide (i < δ.length)) (.ok (.nx (δ.set i (some v))) S)
theorem bc{i:Nat}{pos pos':Pos}(hN:X.N.Nodup)(hi:X.N[i]? =some x)(hx:Loc X.env.scope x)(he:PX X cl e f)(hs:swapsWith e (some (.Name x pos')) pos.line X.env=pure false:=by rfl)(hf:X.fn x=true\/X.env.scope.names.lookup x=some .local:=by first | exact .inl rfl | exact .inr rfl | assumption) :
 PZ X cl (.Assign [.Name x pos'] e pos) (cH i f):=⟨(Ao hN hi hx he.1 hs hf).imp fun D σ H ⟨ρ,S,δ,o,S',E,hf,q⟩=>by
 obtain⟨v,S1,h1,h2⟩:=R3.ai hf;obtain⟨hi,h3⟩:=R3.bh h2;cases h3;refine⟨ρ,S,δ,v,_,E,h1,fun u cF H1 p1 w1 r1=>?_⟩
 exact q _ cF H1 p1 ((E.to p1 w1).set (by rw[<-E.len];exact of_decide_eq_true hi) r1)⟩
def gA(f:FX):FZ:=fun δ S=>(f δ S).bind fun v S=> .ok (.rt v) S
theorem cJ(he:PX X cl e f):PZ X cl (.Return (some e) pos) (gA f):=⟨(E_ he.1).imp fun D σ H ⟨ρ,S,δ,o,S',E,hf,q⟩=>by
 obtain⟨v,S1,h1,h2⟩:=R3.ai hf;cases h2;exact⟨ρ,S,δ,v,_,E,h1,fun u cF H1 p1 w1 r1=>q u cF H1 p1 w1 r1⟩⟩
def Dp(c:FB)(F G:FZ):FZ:=fun δ S=>(c δ S).bind fun b S=>if b then F δ S else G δ S
theorem pG(hc:ND X cl c fc)(ha:Ee X cl a F)(hb:Ee X cl b G):PZ X cl (.If c a b pos) (Dp fc F G):=⟨(Ie hc.1 ha.1 hb.1).imp fun D σ H ⟨ρ,S,δ,o,S',E,hf,q⟩=>by
 obtain⟨k,S1,h1,h2⟩:=R3.ai hf;refine⟨ρ,S,δ,k,S1,E,h1,fun cF H1 p1 w1=>?_⟩
 cases k with
 | true=>rw [if_pos rfl] at h2;exact GV ⟨cF,S1,δ,o,S',E.to p1 w1,h2,q.pre p1⟩
 | false=>rw [if_neg (by decide)] at h2;exact Hz ⟨cF,S1,δ,o,S',E.to p1 w1,h2,q.pre p1⟩⟩
def Q_(f:FX):FZ:=fun δ S=>(f δ S).bind fun _ S=> .ok (.nx δ) S
def Br(c:FB)(body:FZ):Nat->FZ
 | 0,_,_=> .no
 | n+1,δ,S=>(c δ S).bind fun b S=>if b then(body δ S).bind fun o S=>match o with | .nx dM=>Br c body n dM S | .rt r=> .ok (.rt r) S else .ok (.nx δ) S
def N2(n:Nat)(c:FB)(body:FZ):FZ:=fun δ S=>Br c body n δ S
end
end L3
end
section
namespace L3
open PySem PySem.Spec PyProof.Rows L2
theorem aF.get{K:W.Frag}:∀{ds:List V3} {xs:List V} {i:Nat} {d:V3},aF K ρ H ds xs->ds[i]? =some d->∃x,xs[i]? =some x/\bb K ρ H d x
 | [],_,_,_,_,e=>by simp at e
 | d ::ds,xs,0,d',h,e=>by
   obtain⟨x,r,rfl,h1,h2⟩:=h.cc;simp at e;subst e;exact⟨x,rfl,h1⟩
 | d ::ds,xs,i+1,d',h,e=>by
   obtain⟨x,r,rfl,h1,h2⟩:=h.cc;obtain⟨y,e1,e2⟩:=aF.get (i:=i) h2 (by simpa using e)
   exact⟨y,by simpa using e1,e2⟩
def Ls(K:W.Frag)(ρ:P3)(H:Hp)(J:It)(vs:List V3):Prop:=∀de H',PW ρ H de H'->(∀a∈de.b,∃o,H' a=some o)->(∀(i:Nat) (d:V3),vs[i]? =some d->J.go i H'/\∀x n5,J.yld i H' x n5->aO H' n5/\bb K de n5 d x)/\J.stop vs.length H'
theorem Ls.of{K:W.Frag}{ρ:P3}{J:It}{ds:List D}(h:DZ K ρ.b H J ds):Ls K ρ H J (ds.map .d):=fun de H' p bs=>by
 obtain⟨h1,h2⟩:=h de.b H' p.bo;refine⟨fun i v hv=>?_,by rw[List.length_map];exact h2⟩
 rw[List.getElem?_map] at hv;cases e:ds[i]? with
 | none=>rw [e] at hv;cases hv
 | some d=>
   rw[e] at hv;cases hv;obtain⟨g1,g2⟩:=h1 i d e;exact⟨g1,fun x n5 y=>let⟨s,r⟩:=g2 x n5 y bs;⟨s,by unfold bb;exact r⟩⟩
def QF(K:W.Frag)(cl:Vx)(f:FA):TI:=fun σ H R=>∃ρ S δ vs S',fZ K cl ρ H S σ δ/\f δ S= .ok vs S'/\∀J cF H1,Pre ρ H cF H1->SW K cl cF H1 S'->Ls K cF H1 J vs->R J H1
structure Jc (X:Cx) (cl:Vx) (tg e:Expr) (f:FA):Prop where
 go:PI X tg e (QF X.K cl f)
section
variable {X:Cx} {cl:Vx}
def iP(f:av->R (List D)):FA:=fun δ S=>(R3.of (f (down δ)) S).bind fun ds S=> .ok (ds.map .d) S
theorem b_{f:av->R (List D)}(h:zV X tg e f):Jc X cl tg e (iP f):=⟨h.1.imp fun σ H Q ⟨ρ,S,δ,vs,S',E,hf,q⟩=>by
 obtain⟨ds,S1,h1,h2⟩:=R3.ai hf;obtain⟨h3,e3⟩:=R3.of_ok h1;cases h2;subst e3;exact⟨[],ρ.b,down δ,ds,E.down,h3,fun J H1 s r=>q J ρ H1 (Pre.same s) (E.sw.same s) (Ls.of r)⟩⟩
def u_(f:FX):FA:=fun δ S=>(f δ S).bind fun v S=>match v with | .d (.int j)=>R3.bH (decide (-(2 ^ 62)<=j/\j < 2 ^ 62)) (.ok ((hX 0 j.toNat).map .d) S) | _=> .no
theorem tS{tg a:Expr}{p pos:Pos}(h:PX X cl a f)(hg:Gl X "range")(hm:X.mg "range"=none)(hs:starEach [a] X.env=[(false,eval a X.env)]:=by rfl):Jc X cl tg (.Call (.Name "range" p) [a] [] pos) (u_ f):=
 ⟨(uY hg hm (gd h.1 kM hs) hs).imp fun σ H RR ⟨ρ,S,δ,vs,S',E,hf,q⟩=>by
   obtain⟨v,S1,h1,h2⟩:=R3.ai hf
   match v,h1,h2 with
   | .d (.int j),h1,h2=>
     obtain⟨hb,h3⟩:=R3.bh h2;cases h3;have hb:=of_decide_eq_true hb;refine⟨ρ,S,δ, .d (.int j),_,E,h1,fun u cF H1 p1 w1 r1=>⟨j,?_,hb.1,hb.2,q _ cF H1 p1 w1 (Ls.of (DI 0 _))⟩⟩
     unfold bb Rep at r1;rw[r1]
   | .d .cn,_,h2=>cases h2
   | .d (.bl _),_,h2=>cases h2
   | .d (.str _),_,h2=>cases h2
   | .d (.lst _),_,h2=>cases h2
   | .d (.tup _),_,h2=>cases h2
   | .d (.dct _ _),_,h2=>cases h2
   | .loc _,_,h2=>cases h2
   | .lst _,_,h2=>cases h2
   | .tup _,_,h2=>cases h2⟩
def yh(f:FX):FA:=fun δ S=>(f δ S).bind fun v S=>match v with | .d (.lst ds)=> .ok (ds.map .d) S | .lst vs=> .ok vs S | _=> .no
theorem nS(h:PX X cl e f):Jc X cl tg e (yh f):=⟨by
 intro pins s σ H RR I ⟨ρ,S,δ,vs,S',E,hf,q⟩;obtain⟨v,S1,h1,h2⟩:=R3.ai hf;refine eI (h.1 pins s σ H (fun u H1=>∃cF,Pre ρ H cF H1/\SW X.K cl cF H1 S1/\bb X.K cF H1 v u) I ⟨ρ,S,δ,v,S1,E,h1,fun u cF H1 p1 w1 r1=>⟨cF,p1,w1,r1⟩⟩) fun u s1 ⟨x,H1,I1,r1,cF,p1,w1,rr⟩=>?_
 have key:S1=S'/\∃a xs,x= .ref a/\uo X.K cF.b H1 a xs/\aF X.K cF H1 vs xs:=by
  match v,h2,rr with
  | .d (.lst ds),h2,rr=>
    cases h2;unfold bb Rep at rr;obtain⟨a,xs,e,l,r⟩:=rr;exact⟨rfl,a,xs,e,l,aF.of r⟩
  | .lst ws,h2,rr=>
    cases h2;unfold bb at rr;exact⟨rfl,rr⟩
  | .d .cn,h2,_=>cases h2
  | .d (.bl _),h2,_=>cases h2
  | .d (.int _),h2,_=>cases h2
  | .d (.str _),h2,_=>cases h2
  | .d (.tup _),h2,_=>cases h2
  | .d (.dct _ _),h2,_=>cases h2
  | .loc _,h2,_=>cases h2
  | .tup _,h2,_=>cases h2
 obtain⟨rfl,a,xs,rfl,l,rr⟩:=key;cases r1;obtain⟨its,rv,p,hz⟩:=I1.list l.sq;refine wpAny_pyIter_list p.isList ?_;refine⟨s1.heap.objs.size,[s1.heap.objs.size],_,_,H1,rfl,I1.kept (t':=s1.toks) fun b o e=>Heap.get?_push_of_some _ e,vE a _,⟨_,Heap.get?_push_size _ rfl,rfl,rfl⟩,fun b hb=>?_,q _ cF H1 p1 w1 fun de H' pr bs=>?_⟩
 .have e:b=s1.heap.objs.size:=by simpa using hb
  subst e;exact I1.tM (Nat.le_refl _) (I1.hok.fresh (Nat.le_refl _))
 .have l':uo X.K de.b H' a xs:=l.bo pr.bo;have K6:=rr.pw pr;refine⟨fun i d hd=>?_,⟨xs,l'.sq,by rw[rr.length];exact Nat.le_refl _⟩⟩
  obtain⟨x,hx,rx⟩:=K6.get hd;exact⟨⟨xs,x,l'.sq,hx⟩,fun y n5 ⟨e1,e2⟩=>by
   subst e1;have:=e2 xs l'.sq;rw[hx] at this;cases this;exact⟨aO.refl _,rx⟩⟩⟩
abbrev FG:=V3->DE->Option DE
abbrev Ht:=List V3->DE->Option DE
def gX(K:W.Frag)(cl:Vx)(t:FG):TG:=fun v σ H Q=>∃ρ S δ x eK,fZ K cl ρ H S σ δ/\bb K ρ H x v/\t x δ=some eK/\∀dw H',aO H H'->fZ K cl ρ H' S dw eK->Q dw H'
def Rz(K:W.Frag)(cl:Vx)(t:Ht):Ex:=fun v σ H Q=>∃ρ S δ x eK,fZ K cl ρ H S σ δ/\aF K ρ H x v/\t x δ=some eK/\∀dw H',aO H H'->fZ K cl ρ H' S dw eK->Q dw H'
structure JA (X:Cx) (cl:Vx) (tg:Expr) (t:FG):Prop where
 go:PG X tg (gX X.K cl t)
structure HC (X:Cx) (cl:Vx) (tg:List Expr) (t:Ht):Prop where
 go:GS X tg (Rz X.K cl t)
theorem fZ.same{K:W.Frag}{S:aN}{σ:L2.St}{δ:DE}(E:fZ K cl ρ H S σ δ)(s:aO H H'):fZ K cl ρ H' S σ δ:=E.to (Pre.same s) (E.sw.same s)
def k6(i:Nat):FG:=fun d δ=>if i < δ.length then some (δ.set i (some d)) else none
theorem aQ{i:Nat}{pos:Pos}(hN:X.N.Nodup)(hi:X.N[i]? =some x)(hx:Loc X.env.scope x)(hf:X.fn x=true\/X.env.scope.names.lookup x=some .local:=by first | exact .inl rfl | exact .inr rfl | assumption):JA X cl (.Name x pos) (k6 i):=
 ⟨(Az hN hi hx hf).imp fun v σ H Q ⟨ρ,S,δ,d,eK,E,r,ht,q⟩=>by
   unfold k6 at ht;split at ht
   .rename_i hi;cases ht;exact q _ H (aO.refl H) (E.set (by rw[<-E.len];exact hi) r)
   .cases ht⟩
def Ii:Ht:=fun ds δ=>match ds with | []=>some δ | _=>none
def Aj(t:FG)(u:Ht):Ht:=fun ds δ=>match ds with | d ::r=>(t d δ).bind fun eK=>u r eK | []=>none
theorem jv:HC X cl [] Ii:=⟨AL.imp fun vs σ H Q ⟨ρ,S,δ,ds,eK,E,r,ht,q⟩=>by
 cases ds with
 | nil=>unfold aF at r;cases ht;exact⟨r,q σ H (aO.refl H) E⟩
 | cons=>cases ht⟩
theorem cR{u:Ht}(h1:JA X cl e t)(h2:HC X cl es u)(hs:(assignEach (e ::es) X.env).map (·.2)=assign e X.env ::(assignEach es X.env).map (·.2):=by rfl):HC X cl (e ::es) (Aj t u):=
 ⟨(xD h1.1 h2.1 hs).imp fun vs σ H Q ⟨ρ,S,δ,ds,eK,E,r,ht,q⟩=>by
   cases ds with
   | nil=>cases ht
   | cons d ds=>
     obtain⟨x,xs,rfl,r1,r2⟩:=r.cc;have ht:(t d δ).bind (fun eK=>u ds eK)=some eK:=ht
     cases e1:t d δ with
     | none=>rw [e1] at ht;cases ht
     | some dj=>
       rw[e1] at ht;exact⟨x,xs,rfl,ρ,S,δ,d,dj,E,r1,e1,fun M8 H1 s1 E1=>⟨ρ,S,dj,ds,eK,E1,r2.pre (Pre.same s1),ht,fun xj H2 s2 E2=>q xj H2 (s1.trans s2) E2⟩⟩⟩
def GB(n:Nat)(t:Ht):FG:=fun d δ=>match d with
 | .d (.tup ds)=>if ds.length=n then t (ds.map .d) δ else none
 | .tup vs=>if vs.length=n then t vs δ else none
 | _=>none
theorem l3{k:Nat}{t:Ht}{n:Nat}{pos:Pos}(hc:X.calm=true)(h:HC X cl es t)(hn:(assignEach es X.env).length=n:=by rfl)(FH:(assignEach es X.env).findIdx? (·.1)=none:=by rfl):JA X cl (.Tuple es k pos) (GB n t):=
 ⟨(DD hc h.1 hn FH).imp fun v σ H Q ⟨ρ,S,δ,d,eK,E,r,ht,q⟩=>by
   have key:∃vs a xs,v= .ref a/\vJ X.K ρ.b H a xs/\aF X.K ρ H vs xs/\vs.length=n/\t vs δ=some eK:=by
    unfold GB at ht;split at ht
    .rename_i ds;split at ht
     .rename_i hl;unfold bb Rep at r;obtain⟨a,xs,e,l,r⟩:=r;exact⟨ds.map .d,a,xs,e,l,aF.of r,by rw[List.length_map];exact hl,ht⟩
     .cases ht
    .rename_i vs;split at ht
     .rename_i hl;unfold bb at r;obtain⟨a,xs,e,l,r⟩:=r;exact⟨vs,a,xs,e,l,r,hl,ht⟩
     .cases ht
    .cases ht
   obtain⟨vs,a,xs,rfl,l,r,hl,ht⟩:=key;exact⟨a,xs,rfl,l.sq,by rw[<-r.length];exact hl,ρ,S,δ,vs,eK,E,r,ht,q⟩⟩
def JM(f:FX)(t:FG):FZ:=fun δ S=>(f δ S).bind fun d S=>match t d δ with | some eK=> .ok (.nx eK) S | none=> .no
theorem KG{tg e:Expr}{f:FX}{t:FG}{pos:Pos}(he:PX X cl e f)(hg:JA X cl tg t)(hs:swapsWithSole [tg] e pos.line X.env=pure false:=by rfl)(hw:swappedStores [tg] e X.env=pure none:=by rfl)
 (h1:(assignEach [tg] X.env).map (·.2)=[assign tg X.env]:=by rfl):PZ X cl (.Assign [tg] e pos) (JM f t):=⟨(KP he.1 hg.1 hs hw h1).imp fun D σ H ⟨ρ,S,δ,o,S',E,hf,q⟩=>by
 obtain⟨d,S1,h1,h2⟩:=R3.ai hf;split at h2
 .rename_i dj e1;cases h2;exact⟨ρ,S,δ,d,_,E,h1,fun v cF H1 p1 w1 r1=>⟨cF,_,δ,d,dj,E.to p1 w1,r1,e1,fun dw H2 s2 E2=>q dw cF H2 (p1.trans (Pre.same s2)) E2⟩⟩
 .cases h2⟩
def nD(t:FG)(body:FZ):List V3->FZ
 | [],δ,S=> .ok (.nx δ) S
 | d ::ds,δ,S=>match t d δ with
   | none=> .no
   | some dj=>(body dj S).bind fun o S=>match o with | .nx dM=>nD t body ds dM S | .rt r=> .ok (.rt r) S
def ju(it:FA)(t:FG)(body:FZ):FZ:=fun δ S=>(it δ S).bind fun vs S=>nD t body vs δ S
theorem dR{tg iter:Expr}{body:List Stmt}{it:FA}{t:FG}{F:FZ}{pos:Pos}(hp:PassesOwn (model X.prog X.w) X.A X.env X.xe)(hc:X.calm=true)(hi:Jc X cl tg iter it)(hg:JA X cl tg t)(hb:Ee X cl body F)
 (hs:∀x,foldedSetIterable iter X.env x=pure x:=by intro _;rfl):PZ X cl (.For tg iter body [] pos) (ju it t F):=⟨(DR hp hc hi.1 hg.1 hb.1 hs).imp fun D σ H ⟨ρ,S,δ,o,S',E,hf,q⟩=>by
 obtain⟨ds,S0,h1,h2⟩:=R3.ai hf;refine⟨ρ,S,δ,ds,S0,E,h1,fun J cF H1 p1 w1 ir=>?_⟩
 refine⟨fun i m dw H'=>m=ds.length - i/\i<=ds.length/\∃de S1 eK,Pre cF H1 de H'/\fZ X.K cl de H' S1 dw eK/\nD t F (ds.drop i) eK S1= .ok o S',⟨ds.length,rfl,Nat.zero_le _,cF,S0,δ,Pre.refl cF H1,E.to p1 w1,by simpa using h2⟩,?_⟩
 rintro i m dw H' ⟨rfl,hi,de,S1,eK,pv,E',hl⟩;obtain⟨go,stop⟩:=ir de H' pv.pw E'.sw.bs;by_cases hlt:i < ds.length
 .have hd:ds[i]? =some ds[i]:=List.getElem?_eq_getElem hlt;have hdrop:ds.drop i=ds[i] ::ds.drop (i+1):=List.drop_eq_getElem_cons hlt;rw[hdrop] at hl;unfold nD at hl;split at hl
  .cases hl
  .rename_i dj h3;obtain⟨o1,S2,h5,h6⟩:=R3.ai hl;obtain⟨g1,g2⟩:=go i _ hd;refine .inr ⟨g1,fun xj H2=>∃ui S2 dM,Pre cF H1 ui H2/\fZ X.K cl ui H2 S2 xj dM/\nD t F (ds.drop (i+1)) dM S2= .ok o S',fun xj H2 n=>⟨ds.length - (i+1),by omega,rfl,hlt,n⟩,fun x n5 y=>?_⟩
   obtain⟨ss,rr⟩:=g2 x n5 y;refine⟨de,S1,eK,ds[i],dj,E'.same ss,rr,h3,fun xj H2 s2 E2=>⟨de,S1,dj,o1,S2,E2,h5,?_⟩⟩
   have pv2:Pre cF H1 de H2:=pv.trans (Pre.same (ss.trans s2));cases o1 with
   | nx dM=>exact fun HQ Lf H3 p3 E3=>⟨Lf,S2,dM,pv2.trans p3,E3,h6⟩
   | rt d=>
     cases h6;exact fun v Lf H3 p3 w r=>q v Lf H3 (p1.trans (pv2.trans p3)) w r
 .have e:i=ds.length:=by omega
  subst e;rw[List.drop_length] at hl;cases hl;exact .inl ⟨stop,q dw de H' (p1.trans pv) E'⟩⟩
end
end L3
end
section
namespace L3
open PySem PySem.Spec PyProof.Rows L2
mutual
def m7(n:Nat):V3->Bool
 | .d _=>true
 | .loc k=>decide (k < n)
 | .lst vs=>g6 n vs
 | .tup vs=>g6 n vs
def g6(n:Nat):List V3->Bool
 | []=>true
 | v ::vs=>m7 n v && g6 n vs
end
def rK(n:Nat):SO->Bool
 | .ins _ fs=>g6 n (fs.map (·.2))
 | _=>true
theorem HD{ρ:P3}{n:Nat}{b:Addr}(h:b∈(ρ.cut n).b):b∈ρ.b:=by
 rcases P3.et.mp h with z | z
 .exact P3.et.mpr (.inl ⟨List.mem_of_mem_take z.1,z.2⟩)
 .exact P3.et.mpr (.inr z)
theorem jy{ρ:P3}(n:Nat):dG ρ.b H (ρ.cut n).b H:=fun b o e nb=>⟨e,fun hb=>nb (HD hb)⟩
mutual
theorem bb.cut{K:W.Frag}{ρ:P3}{n:Nat}:∀{v:V3} {x:V},m7 n v=true->bb K ρ H v x->bb K (ρ.cut n) H v x
 | .d y,x,_,h=>by unfold bb at h ⊢;exact h.bo (jy n)
 | .loc k,x,o,h=>by
   unfold bb at h ⊢;unfold m7 at o;obtain⟨a,h1,h2⟩:=h;exact⟨a,by show(ρ.r.take n)[k]? =_;rw [List.getElem?_take_of_lt (of_decide_eq_true o)];exact h1,h2⟩
 | .lst vs,x,o,h=>by
   unfold bb at h ⊢;unfold m7 at o;obtain⟨a,xs,e,l,r⟩:=h;exact⟨a,xs,e,l.bo (jy n),aF.cut o r⟩
 | .tup vs,x,o,h=>by
   unfold bb at h ⊢;unfold m7 at o;obtain⟨a,xs,e,l,r⟩:=h;exact⟨a,xs,e,vJ.bo (jy n) l,aF.cut o r⟩
theorem aF.cut{K:W.Frag}{ρ:P3}{n:Nat}:∀{vs:List V3} {xs:List V},g6 n vs=true->aF K ρ H vs xs->aF K (ρ.cut n) H vs xs
 | [],_,_,h=>by unfold aF at h ⊢;exact h
 | v ::vs,xs,o,h=>by
   unfold g6 at o;obtain⟨o1,o2⟩:=Bool.and_eq_true_iff.mp o;obtain⟨x,r,rfl,h1,h2⟩:=h.cc;exact aF.cons (bb.cut o1 h1) (aF.cut o2 h2)
end
theorem SW.cut{K:W.Frag}{cl:Vx}{ρ:P3}{S:aN}(w:SW K cl ρ H S){n:Nat}(ok:(S.take n).all (rK n)=true):SW K cl (ρ.cut n) H (S.take n):=
 ⟨by show(ρ.r.take n).length=_;rw [List.length_take,List.length_take,w.len],fun i j a hi hj=>by
   have hi:(ρ.r.take n)[i]? =some a:=hi;have hj:(ρ.r.take n)[j]? =some a:=hj;have gi:ρ.r[i]? =some a:=by
    rw[List.getElem?_take] at hi;split at hi
    .exact hi
    .cases hi
   have gj:ρ.r[j]? =some a:=by
    rw[List.getElem?_take] at hj;split at hj
    .exact hj
    .cases hj
   exact w.nd i j a gi gj,fun k a o hk ho=>by
   have hk:(ρ.r.take n)[k]? =some a:=hk;have gk:ρ.r[k]? =some a:=by
    rw[List.getElem?_take] at hk;split at hk
    .exact hk
    .cases hk
   have go:S[k]? =some o:=by
    rw[List.getElem?_take] at ho;split at ho
    .exact ho
    .cases ho
   have r:=w.ob k a o gk go;have oo:rK n o=true:=List.all_eq_true.mp ok o (List.mem_of_getElem? ho);cases o with
   | lst ds=>obtain⟨xs,e,q⟩:=r;exact⟨xs,e,q.bo (jy n)⟩
   | dct kvs=>obtain⟨ys,e,e2,q⟩:=r;exact⟨ys,e,e2,q.bo (jy n)⟩
   | ins c fs=>obtain⟨dx,ys,e,e2,q⟩:=r;exact⟨dx,ys,e,e2,q.cut oo⟩
   | ki=>exact r,fun b hb=>let⟨h1,h2⟩:=w.zb b hb;⟨h1,fun h=>h2 (List.mem_of_mem_take h)⟩,(fun k a hk ho=>by
   have hk:(ρ.r.take n)[k]? =some a:=hk;rw[List.getElem?_take] at hk;split at hk
   .rename_i hlt;rw[List.getElem?_take_of_lt hlt] at ho;exact w.fz k a hk ho
   .cases hk),w.ff,(fun k a hk ho=>by
   have hk:(ρ.r.take n)[k]? =some a:=hk;rw[List.getElem?_take] at hk;split at hk
   .rename_i hlt;rw[List.getElem?_take_of_lt hlt] at ho;exact w.fi k a hk ho
   .cases hk)⟩
theorem SW.Js{K:W.Frag}{cl:Vx}{ρ de:P3}{n:Nat}(hn:ρ.r.length<=n)(p:Pre ρ H de H'):Pre ρ H (de.cut n) H':=
 ⟨p.bo.trans (jy n),p.zz,p.zs,fun k a h=>by show(de.r.take n)[k]? =_;rw [List.getElem?_take_of_lt (Nat.lt_of_lt_of_le (List.getElem?_eq_some_iff.mp h).1 hn)];exact p.ext k a h⟩
section
variable {X:Cx} {cl:Vx}
def er(S:aN)(k:Nat):Option (List D):=match S[k]? with | some (.lst ds)=>some ds | _=>none
theorem jx{S:aN}{k:Nat}{ds:List D}(h:er S k=some ds):S[k]? =some (.lst ds):=by
 unfold er at h;split at h
 .rename_i e;cases h;exact e
 .cases h
def jM(δ:DE)(i:Nat):Option Nat:=match δ[i]? with | some (some (.loc k))=>some k | _=>none
theorem lY{δ:DE}{i k:Nat}(h:jM δ i=some k):δ[i]? =some (some (.loc k)):=by
 unfold jM at h;split at h
 .rename_i e;cases h;exact e
 .cases h
def mX(i:Nat)(f:FX):FZ:=fun δ S=>match jM δ i with
 | none=> .no
 | some k=>match er S k with
   | none=> .no
   | some _=>(f δ S).bind fun v S1=>match v with
     | .d d=>(match er S1 k with | some ds=>R3.bH (decide (ds.length < sizeLine)) (.ok (.nx δ) (S1.set k (.lst (ds++[d])))) | none=> .no)
     | _=> .no
theorem iX{i:Nat}{x:Str}{e:Expr}{f:FX}{ka apos dO pos:Pos}(hN:X.N[i]? =some x)(hv:Gr X.env.scope x)(he:PX X cl e f)
 (hd:(x==("__debug__":Str))=false:=by decide) (uk:(x==("__classdict__":Str))=false:=by decide)
 (hs:starEach [e] X.env=(false,eval e X.env) ::starEach [] X.env:=by rfl) (qk:(apos.endLine==dO.line)=true:=by rfl)
 (xc:((backTo dO (starEach [e] X.env)).all (fun x=>!x.1) && (backToKw dO (keywordEach [] X.env)).all (fun x=>x.1.isSome)
   && decide (([e]:List Expr).length+([]:List Keyword).length+(if([]:List Keyword).isEmpty then 0 else 1) < 30))=true:=by rfl)
 (HU:swapsWith (.Call (.Attribute (.Name x ka) "append" apos) [e] [] dO) none pos.line X.env=pure false:=by rfl)
 (ql:attributeBase (.Name x ka) "append" X.env (eval (.Name x ka) X.env)=eval (.Name x ka) X.env:=by rfl) :
 PZ X cl (.Expr (.Call (.Attribute (.Name x ka) "append" apos) [e] [] dO) pos) (mX i f):=by
 refine⟨(Bt (Iw (X:=X) PySem.F.plainAttrs_list PySem.F.slot_list_append PySem.F.type_list_append qA (tR hN hv hd uk) (gd he.1 kM hs) ql xc qk hs) HU).imp fun D σ H ⟨ρ,S,δ,o,S',E,hf,q⟩=>?_⟩
 unfold mX at hf;split at hf
 .cases hf
 .rename_i k hk;split at hf
  .cases hf
  .rename_i ds0 h0;obtain⟨v,S1,h1,h2⟩:=R3.ai hf;split at h2
   .rename_i d;split at h2
    .rename_i ds h3;obtain⟨hl,h4⟩:=R3.bh h2;cases h4;obtain⟨u,u1,u2⟩:=E.val i _ (lY hk);unfold bb at u2;obtain⟨a,a1,rfl⟩:=u2;obtain⟨TY,x0,_⟩:=E.sw.ob k a _ a1 (jx h0);refine⟨.ref a,u1, .inl ⟨rfl,TY,pL.of x0⟩,⟨ρ,S,δ, .d d,S1,E,h1,fun y cF H1 p1 w1 r1=>?_⟩⟩
     have b1:=p1.ext k a a1;obtain⟨xs,x1,x2⟩:=w1.ob k a _ b1 (jx h3);refine⟨a,xs,y,rfl,rfl,x1,by rw[<-x2.length];exact of_decide_eq_true hl,?_⟩
     unfold bb at r1;obtain⟨w2,p2⟩:=w1.put (o:= .lst (ds++[d])) (u:= .lst (xs++[y])) b1 (w1.fz k a b1 (by rw[jx h3];intro h;cases h)) ⟨xs++[y],rfl,x2.append (aC.cons r1 aC.nil)⟩
     exact q σ cF _ (p1.trans p2) (E.to (p1.trans p2) w2)
    .cases h2
   .cases h2
def Ss(fo fi fe:FX):FZ:=fun δ S=>(fe δ S).bind fun v S1=>(fo δ S1).bind fun o S2=>(fi δ S2).bind fun j S3=>match v,o,j with
 | .d d, .loc k, .d (.int n)=>(match er S3 k with
   | some ds=>(match Cg ds.length n with | some m=> .ok (.nx δ) (S3.set k (.lst (ds.set m d))) | none=> .no)
   | none=> .no)
 | _,_,_=> .no
def Fo(K:W.Frag)(cl:Vx)(n:Nat)(g:List V3->aN->R3 V3):Sp:=fun vs H Q _=>vs.length=n/\∃ρ S xs v S',SW K cl ρ H S/\aF K ρ H xs vs/\g xs S= .ok v S'/\∀u de H',Pre ρ H de H'->SW K cl de H' S'->bb K de H' v u->Q u H'
def f7(g:List V3->aN->R3 V3)(fs:FA):FX:=fun δ S=>(fs δ S).bind g
def bS(P:Program)(w:World)(K:W.Frag)(mg:Vw)(base:Heap)(cl:Vx)(k:Nat)(x:Str)(n:Nat)(g:List V3->aN->R3 V3):Prop:=
 ∃(f:Addr) (fd:FuncData) (ps:List Str),jg P w K mg base uI k f fd ps (Fo K cl n g)/\mg x=some (.ref f)/\PySem.W.keepIn K (.ref f)=true/\Binds K fd ps []
theorem dv{g:List V3->aN->R3 V3}{k j n:Nat}{x:Str}{p pos:Pos}{e:Expr}{es:List Expr}{fs:FA}(C:bS X.prog X.w X.K X.mg X.base cl k x n g)(hr:eV j X.A)(CT:k<=j)(hg:Gl X x)(ha:GU X cl (e ::es) fs)
 (hn:∀δ S ds S',fs δ S= .ok ds S'->ds.length=n) (qj:(x==("__debug__":Str))=false:=by decide) (he:starEach (e ::es) X.env=(false,eval e X.env) ::starEach es X.env:=by rfl) (mJ:(backTo pos (starEach es X.env)).any (·.1)=false:=by rfl) :
 PX X cl (.Call (.Name x p) (e ::es) [] pos) (f7 g fs):=by
 obtain⟨f,fd,ps,F,hm,hk,hb⟩:=C;refine⟨(vV F (hr.mono CT) hg hm hk hb .nil xO ha.1 qj he mJ).imp fun σ H Q ⟨ρ,S,δ,v,S',E,hf,q⟩=>?_⟩
 obtain⟨vs,S1,h1,h2⟩:=R3.ai hf;refine⟨ρ,S,δ,vs,S1,E,h1,fun us cF H1 p1 w1 r1=>?_⟩
 show Fo X.K cl n g (us++[]) H1 Q E0;rw[List.append_nil];exact⟨by rw[<-r1.length];exact hn δ S vs S1 h1,cF,S1,vs,v,S',w1,r1,h2,fun z ui H2 p2 w2 r2=>q z ui H2 (p1.trans p2) w2 r2⟩
end
def cz(N:List Str)(vs:List V3):DE:=vs.map some++List.replicate (N.length - vs.length) none
theorem EC{K:W.Frag}{cl:Vx}{S:aN}{N:List Str}{ds:List V3}{vs:List V}(w:SW K cl ρ H S)(r:aF K ρ H ds vs):fZ K cl ρ H S (L2.start N vs) (cz N ds) where
 len:=by unfold L2.start cz;simp [r.length]
 sw:=w
 val:=fun i d e=>by
  unfold cz at e;unfold L2.start;by_cases hi:i < ds.length
  .rw [List.getElem?_append_left (by simpa using hi),List.getElem?_map] at e
   cases q:ds[i]? with
   | none=>rw [q] at e;cases e
   | some d'=>
     rw[q] at e;cases e;obtain⟨x,h1,h2⟩:=r.get q;exact⟨x,by rw[List.getElem?_append_left (by rw[List.length_map,<-r.length];exact hi),List.getElem?_map,h1];rfl,h2⟩
  .rw [List.getElem?_append_right (by simpa using hi),List.getElem?_replicate] at e
   split at e <;> cases e
def nU(N:List Str)(F:FZ):List V3->aN->R3 V3:=fun vs S=>(F (cz N vs) S).bind fun o S'=>match o with | .rt v=> .ok v S' | .nx _=> .ok (.d .cn) S'
def pC(N:List Str)(F:FZ):List V3->aN->R3 V3:=fun vs S=>(nU N F vs S).bind fun v S'=>match res S' v with
 | some d=>R3.bH ((S'.take S.length).all (rK S.length) && fH S.length v) (.ok (.d d) (S'.take S.length))
 | none=> .no
theorem F9{P:Program}{w:World}{K:W.Frag}{mg:Vw}{base:Heap}{cl:Vx}{x qual:Str}{st:Stmt}{f:Addr}{fd:FuncData}{N ps:List Str}{k:Nat}{F:FZ}(Fn:Bj K x qual st f fd)(S:aR N ps (ax st))
 (lR:∀(dY:Value) (A:Around) (outer:List Env) (s:Shared) (H:Hp) (E:XK),eV k (A.deeper (envOfC qual (ax st) s.heap.objs.size f dY))->
   Ee (tH uI P w K mg base N qual (ax st) f dY A outer s H E).HH cl (aJ st) F):jg P w K mg base uI (k+1) f fd ps (Fo K cl ps.length (nU N F)):=by
 refine Fn.ok S (fun vs H Q E h=>h.1) (fun dY A outer s H vs Q E hr h=>⟨_,(lR dY A outer s H E hr).1,?_⟩)
 obtain⟨_,ρ,S,ds,v,S',w,r,hg,q⟩:=h;obtain⟨o,S1,h1,h2⟩:=R3.ai hg;refine⟨ρ,S,cz N ds,o,S1,EC w r,h1,?_⟩;cases o with
 | nx eK=>
   cases h2;exact fun dw de H' p' E'=>q _ de H' p' E'.sw (by unfold bb Rep;rfl)
 | rt d'=>
   cases h2;exact fun u de H' p' w' r'=>q u de H' p' w' r'
theorem y6{K:W.Frag}{cl:Vx}{N:List Str}{n:Nat}{vs:List V}{Q:VK}{E:XK}(h:Fo K cl n (pC N F) vs H Q E):Fo K cl n (nU N F) vs H Q E:=by
 obtain⟨hl,ρ,S,xs,v,S',w,r,hg,q⟩:=h;obtain⟨v1,S1,h1,h2⟩:=R3.ai hg;refine⟨hl,ρ,S,xs,v1,S1,w,r,h1,fun u cF H1 p1 w1 r1=>?_⟩
 have pc:Pre ρ H (cF.cut S.length) H1:=SW.Js (K:=K) (cl:=cl) (by rw[w.len];exact Nat.le_refl _) p1
 split at h2
 .rename_i d e;obtain⟨ok,h3⟩:=R3.bh h2;obtain⟨ok,hk⟩:=Bool.and_eq_true_iff.mp ok;cases h3;refine q u _ H1 pc (w1.cut ok) ?_;unfold bb;refine r1.resB w1 (jy _) (fun k a hk a1 ha=>?_) hk e
  rcases P3.et.mp ha with⟨z,_⟩ | z
  .obtain⟨j,hj⟩:=List.getElem?_of_mem z;have hj:(cF.r.take S.length)[j]? =some a:=hj;rw[List.getElem?_take] at hj;split at hj
   .rename_i hjl;have:=w1.nd j k a hj a1;omega
   .cases hj
  .exact(w1.zb a z).2 (List.mem_of_getElem? a1)
 .cases h2
end L3
end
section
namespace L3
open PySem PySem.Spec PyProof.Rows L2
section
variable {X:Cx} {cl:Vx}
def kX(δ:DE)(i:Nat):Option V3:=match δ[i]? with | some (some v)=>some v | _=>none
def nC(own:List Str)(kp:List Nat)(δ:DE):DE:=List.replicate own.length none++kp.map (kX δ)
theorem Ha{K:W.Frag}{S S':aN}{σ:L2.St}{δ:DE}{own:List Str}{kp:List Nat}(E:fZ K cl ρ H S σ δ)(p:PW ρ H de H')(w:SW K cl de H' S'):fZ K cl de H' S' (dS own kp σ) (nC own kp δ) where
 len:=by unfold dS nC;simp
 sw:=w
 val:=fun i d e=>by
  unfold nC at e;unfold dS;by_cases hi:i < own.length
  .rw [List.getElem?_append_left (by simpa using hi),List.getElem?_replicate] at e
   split at e <;> cases e
  .rw [List.getElem?_append_right (by simpa using hi),List.length_replicate,List.getElem?_map] at e ⊢
   cases q:kp[i - own.length]? with
   | none=>rw [q] at e;cases e
   | some j=>
     rw[q] at e;have e:kX δ j=some d:=Option.some.inj e;unfold kX at e;split at e
     .rename_i d' ed;cases e;obtain⟨v,h1,h2⟩:=E.val j d ed;exact⟨v,by simp [h1],h2.pw p⟩
     .cases e
def ny(t:FG)(c:FB)(f:FX)(δ:DE):List V3->aN->R3 (List V3)
 | [],S=> .ok [] S
 | v ::vs,S=>match t v δ with
   | none=> .no
   | some dj=>(c dj S).bind fun b S1=>if b then(f dj S1).bind fun y S2=>(ny t c f δ vs S2).bind fun ys S3=> .ok (y ::ys) S3 else ny t c f δ vs S1
def i8(it:FA)(t:FG)(c:FB)(f:FX)(own:List Str)(kp:List Nat):FX:=fun δ S=>(it δ S).bind fun vs S1=>R3.bH (decide (vs.length<=sizeLine)) ((ny t c f (nC own kp δ) vs S1).bind fun ys S2=> .ok (u7 ys) S2)
theorem aF.append{K:W.Frag}:∀{ds es:List V3} {xs ys:List V},aF K ρ H ds xs->aF K ρ H es ys->aF K ρ H (ds++es) (xs++ys)
 | [],_,_,_,h,t=>by unfold aF at h;subst h;exact t
 | d ::ds,es,xs,ys,h,t=>by
   obtain⟨x,r,rfl,h1,h2⟩:=h.cc;exact aF.cons h1 (aF.append h2 t)
theorem A1{K:W.Frag}{own:List Str}{kp:List Nat}{σ:L2.St}{Q:VK}(h:tX K cl (i8 it t c f own kp) σ H Q) :
 A7 (QF K cl it) (gX K cl t) (Kf K cl c) (tX K cl f) own kp σ H Q:=by
 obtain⟨ρ,S,δ,v,SF,E,hf,q⟩:=h;obtain⟨es,S1,h1,h2⟩:=R3.ai hf;obtain⟨hl,h3⟩:=R3.bh h2;have hl:=of_decide_eq_true hl;obtain⟨vs,S2,h4,h5⟩:=R3.ai h3;cases h5;refine⟨ρ,S,δ,es,S1,E,h1,fun J cF H1 p1 w1 ir Dd hD=>?_⟩
 have nDz:Dd ∉ cF.b:=fun hb=>by obtain⟨o,ho⟩:=w1.bs Dd hb;rw [hD] at ho;cases ho
 have nDr:Dd ∉ cF.r:=fun hb=>by obtain⟨o,ho⟩:=w1.rs Dd hb;rw [hD] at ho;cases ho
 have toZ:∀{r' f':List Addr} {H':Hp},Pre cF H1 ⟨r',cF.z,f'⟩ H'->PW cF H1 ⟨r',Dd ::cF.z,f'⟩ H':=fun {r' f' H'} p=>⟨fun b o e nb=>⟨(p.bo b o e nb).1,fun hb=>by
  rcases P3.et.mp hb with z | z
  .exact(p.bo b o e nb).2 (P3.et.mpr (.inl z))
  .rcases List.mem_cons.mp z with y | y
   .exact cu e hD y
   .exact(p.bo b o e nb).2 (P3.et.mpr (.inr y))⟩,p.ext⟩
 have w0:SW K cl ⟨cF.r,Dd ::cF.z,cF.f⟩ (upd H1 Dd (.lst [])) S1:=by
  have s0:aO H1 (upd H1 Dd (.lst [])):=aW hD;have ws:=w1.same s0;refine⟨ws.len,ws.nd,fun k a o hk ho=>?_,fun b hb=>?_,ws.fz,ws.ff,ws.fi⟩
  .have r:=w1.ob k a o hk ho;obtain⟨u,hu⟩:=r.some;rw[s0 a u hu,<-hu];exact r.pw (toZ (Pre.same s0))
  .rcases List.mem_cons.mp hb with y | y
   .subst y;exact⟨⟨_,bf⟩,nDr⟩
   .exact ws.zb b y
 refine⟨fun i m ys H'=>m=es.length - i/\i<=es.length/\ys.length<=i/\H' Dd=some (.lst ys)/\∃r' f' S' done rest,Pre cF H1 ⟨r',cF.z,f'⟩ H'/\SW K cl ⟨r',Dd ::cF.z,f'⟩ H' S'/\vs=done++rest/\aF K ⟨r',Dd ::cF.z,f'⟩ H' done ys/\ny t c f (nC own kp δ) (es.drop i) S'= .ok rest SF,
  ⟨es.length,rfl,Nat.zero_le _,Nat.le_refl _,bf,cF.r,cF.f,S1,[],vs,Pre.same (aW hD),w0,rfl,aF.nil,by simpa using h4⟩,?_⟩
 rintro i m ys H' ⟨rfl,hi,hy,hDl,r',f',S',done,rest,pv,w',rfl,rd,hc⟩;obtain⟨go,stop⟩:=ir ⟨r',Dd ::cF.z,f'⟩ H' (toZ pv) w'.bs;have unZ:∀{IE:P3} {H4:Hp},Pre ⟨r',Dd ::cF.z,f'⟩ H' IE H4->Pre cF H1 ⟨IE.r,cF.z,IE.f⟩ H4:=fun {IE H4} p4=>⟨fun b o e nb=>by
  obtain⟨e1,n1⟩:=(toZ pv).bo b o e nb;obtain⟨gb,n2⟩:=p4.bo b o e1 n1;refine⟨gb,fun hb=>n2 ?_⟩
  rcases P3.et.mp hb with z | z
  .exact P3.et.mpr (.inl z)
  .exact P3.et.mpr (.inr (by rw[p4.zz];exact List.mem_cons_of_mem _ z)),rfl,fun b o hb h=>p4.zs b o (List.mem_cons_of_mem _ hb) (pv.zs b o hb h),fun k a h=>p4.ext k a (pv.ext k a h)⟩
 by_cases hlt:i < es.length
 .have hd:es[i]? =some es[i]:=List.getElem?_eq_getElem hlt;have hdrop:es.drop i=es[i] ::es.drop (i+1):=List.drop_eq_getElem_cons hlt;rw[hdrop] at hc;unfold ny at hc;split at hc
  .cases hc
  .rename_i dj h6;obtain⟨b,T1,h7,h8⟩:=R3.ai hc;obtain⟨g1,g2⟩:=go i _ hd;refine .inr ⟨g1,fun x H2 y=>?_⟩
   obtain⟨sy,ry⟩:=g2 x H2 y;have Ec:fZ K cl ⟨r',Dd ::cF.z,f'⟩ H2 S' (dS own kp σ) (nC own kp δ):=Ha E (p1.pw.trans ((toZ pv).trans (Pre.same sy).pw)) (w'.same sy);refine⟨⟨r',Dd ::cF.z,f'⟩,S',nC own kp δ,es[i],dj,Ec,ry,h6,fun HQ H3 s3 E3=>⟨⟨r',Dd ::cF.z,f'⟩,S',dj,b,T1,E3,h7,fun IE H4 p4 w4=>?_⟩⟩
   have Nb:Pre ⟨r',Dd ::cF.z,f'⟩ H' IE H4:=(Pre.same (sy.trans s3)).trans p4;cases b with
   | true=>
     rw[if_pos rfl] at h8;refine GV ?_;obtain⟨yv,T2,h9,P5⟩:=R3.ai h8;obtain⟨rs,T3,Po,TL⟩:=R3.ai P5;cases TL;refine⟨IE,T1,dj,yv,T2,E3.to p4 w4,h9,fun v5 Rc H5 p5 w5 r5=>?_⟩
     have pv5:Pre ⟨r',Dd ::cF.z,f'⟩ H' Rc H5:=Nb.trans p5;have Qd:H5 Dd=some (.lst ys):=pv5.zs Dd _ List.mem_cons_self hDl;have u5:=unZ pv5;obtain⟨NL,z5,f5⟩:=Rc;have ez:z5=Dd ::cF.z:=pv5.zz;subst ez;have nr:Dd ∉ NL:=(w5.zb Dd List.mem_cons_self).2;have pw:PW ⟨NL,Dd ::cF.z,f5⟩ H5 ⟨NL,Dd ::cF.z,f5⟩ (upd H5 Dd (.lst (ys++[v5]))):=⟨fun b o e nb=>⟨by rw[aZ (fun(z:b=Dd)=>nb (by rw[z];exact P3.et.mpr (.inr List.mem_cons_self)))];exact e,nb⟩,fun _ _ h=>h⟩
     refine⟨Qd,by omega,es.length - (i+1),by omega,rfl,hlt,by rw[List.length_append,List.length_singleton];omega,bf,NL,f5,T2,done++[yv],rs,?_,?_,by simp,aF.append ((rd.pre pv5).pw pw) (aF.cons (r5.pw pw) aF.nil),Po⟩
     .refine⟨fun b o e nb=>⟨by rw[aZ (cu e hD)];exact(u5.bo b o e nb).1,(u5.bo b o e nb).2⟩,rfl,fun b o hb h=>?_,u5.ext⟩
      rw[aZ (cu h hD)];exact u5.zs b o hb h
     .refine⟨w5.len,w5.nd,fun k a o hk ho=>?_,fun b hb=>?_,w5.fz,fun b hb=>?_,w5.fi⟩
      .have ne:a≠Dd:=fun z=>nr (by rw[<-z];exact List.mem_of_getElem? hk)
       rw[aZ ne];exact(w5.ob k a o hk ho).pw pw
      .obtain⟨⟨o,ho⟩,n⟩:=w5.zb b hb;refine⟨?_,n⟩;by_cases z:b=Dd
       .subst z;exact⟨_,bf⟩
       .rw [aZ z];exact⟨o,ho⟩
      .obtain⟨o,ho⟩:=w5.ff b hb;by_cases z:b=Dd
       .subst z;exact⟨_,bf⟩
       .rw [aZ z];exact⟨o,ho⟩
   | false=>
     rw[if_neg (by decide)] at h8
     refine Hz ?_;have Ug:H4 Dd=some (.lst ys):=Nb.zs Dd _ List.mem_cons_self hDl;have u4:=unZ Nb;obtain⟨Ta,z4,f4⟩:=IE;have ez:z4=Dd ::cF.z:=Nb.zz;subst ez;exact⟨es.length - (i+1),by omega,rfl,hlt,by omega,Ug,Ta,f4,T1,done,rest,u4,w4,rfl,rd.pre Nb,h8⟩
 .have e:i=es.length:=by omega
  subst e;rw[List.drop_length] at hc;cases hc;rw[List.append_nil] at q;refine .inl ⟨stop,?_⟩;have back:PW ⟨r',Dd ::cF.z,f'⟩ H' ⟨r',cF.z,f'⟩ H':=⟨fun b o e nb=>⟨e,fun hb=>nb (by
   rcases P3.et.mp hb with z | z
   .exact P3.et.mpr (.inl z)
   .exact P3.et.mpr (.inr (List.mem_cons_of_mem _ z)))⟩,fun _ _ h=>h⟩
  have wB:SW K cl ⟨r',cF.z,f'⟩ H' _:=⟨w'.len,w'.nd,fun k a o hk ho=>(w'.ob k a o hk ho).pw back,fun b hb=>w'.zb b (List.mem_cons_of_mem _ hb),w'.fz,w'.ff,w'.fi⟩
  refine q _ ⟨r',cF.z,f'⟩ H' (p1.trans pv) wB (BR (.inl ⟨fun hb=>?_, .inl hDl⟩) (rd.pw back))
  rcases P3.et.mp hb with z | z
  .exact(w'.zb Dd List.mem_cons_self).2 z.1
  .exact nDz (P3.et.mpr (.inr z))
end
end L3
end
section
namespace L3
open PySem PySem.Spec PyProof.Rows L2
section
variable {X:Cx} {cl:Vx}
theorem nV{scope:Scope}{own:List Str}{kp:List Nat}{kn:List Str}{tg iter elt:Expr}{ifs:List Expr}{it:FA}{t:FG}{c:FB}{f:FX}{pos:Pos}(hc:X.calm=true)(C:bG X scope own kp kn)(hi:Jc X cl tg iter it)
 (hg:∀fp s H,JA (bR X scope (own++kn) fp s H) cl tg t) (Fw:∀fp s H,qx (bR X scope (own++kn) fp s H) ifs (Kf X.K cl c)) (he:∀fp s H,PX (bR X scope (own++kn) fp s H) cl elt f)
 (hs:∀x,foldedSetIterable iter X.env x=pure x:=by intro _;rfl):PX X cl (.ListComp elt [⟨tg,iter,ifs,0⟩] scope pos) (i8 it t c f own kp):=
 ⟨(A0 hc C hi.1 (fun fp s H=>(hg fp s H).1) Fw (fun fp s H=>(he fp s H).1) hs).imp fun σ H Q h=>A1 h⟩
def uH:FB:=fun _ S=> .ok true S
theorem g8:qx X [] (Kf X.K cl uH):=fun pins s σ H Q I ⟨ρ,S,δ,b,S',E,hf,q⟩=>yK pins s σ H Q I (by cases hf;exact q ρ H (Pre.refl ρ H) E.sw)
theorem uc(h:ND X cl e c):qx X [e] (Kf X.K cl c):=xv h.1
theorem K0{K:W.Frag}{i:Nat}{D:Ends}{σ:L2.St}(h:sX K cl (cH i f) D σ H):CJ (tX K cl f) (t8 i) D σ H:=by
 obtain⟨ρ,S,δ,o,S',E,hf,q⟩:=h;obtain⟨v,S1,h1,h2⟩:=R3.ai hf;obtain⟨hi,h3⟩:=R3.bh h2;cases h3;refine⟨ρ,S,δ,v,_,E,h1,fun u cF H1 p1 w1 r1=>?_⟩
 exact q _ cF H1 p1 ((E.to p1 w1).set (by rw[<-E.len];exact of_decide_eq_true hi) r1)
theorem l4{i:Nat}{x:Str}{pos' Fs:Pos}{scope:Scope}{own:List Str}{kp:List Nat}{kn:List Str}{tg iter elt:Expr}{ifs:List Expr}{it:FA}{t:FG}{c:FB}{f:FX}{pos:Pos}(hc:X.calm=true)
 (hN:X.N.Nodup) (hx:X.N[i]? =some x) (NP:X.env.scope.names.lookup x=some .local) (C:bG X scope own kp kn) (hi:Jc X cl tg iter it)
 (hg:∀fp s H,JA (bR X scope (own++kn) fp s H) cl tg t) (Fw:∀fp s H,qx (bR X scope (own++kn) fp s H) ifs (Kf X.K cl c)) (he:∀fp s H,PX (bR X scope (own++kn) fp s H) cl elt f)
 (HU:swapsWith (.ListComp elt [⟨tg,iter,ifs,0⟩] scope pos) (some (.Name x pos')) Fs.line X.env=pure true:=by rfl)
 (hs:∀x,foldedSetIterable iter X.env x=pure x:=by intro _;rfl):PZ X cl (.Assign [.Name x pos'] (.ListComp elt [⟨tg,iter,ifs,0⟩] scope pos) Fs) (cH i (i8 it t c f own kp)):=
 ⟨(zm hc hN hx NP C hi.1 (fun fp s H=>(hg fp s H).1) Fw (fun fp s H=>(he fp s H).1) HU hs).imp fun D σ H h=>A1 (K0 h)⟩
def UQ(g:FA):FX:=fun δ S=>(g δ S).bind fun vs S1=>match rQ vs with
 | some ds=>R3.bH (decide (ds.length<=sizeLine)) (.ok (.loc S1.length) (S1++[.lst ds]))
 | none=> .no
end
end L3
end
section
namespace L3
open PySem PySem.Spec PyProof.Rows L2
section
variable {X:Cx} {cl:Vx}
def kP(g:List D->R D)(fs:FA):FX:=fun δ S=>(fs δ S).bind fun vs S1=>match rQ vs with
 | some ds=>(R3.of (g ds) S1).bind fun d S=> .ok (.d d) S
 | none=> .no
theorem Dt{K:W.Frag}{g:List D->R D}{σ:L2.St}{Q:VK}(h:tX K cl (kP g fs) σ H Q) :
 QS K cl fs σ H fun vs H1=>∃B ds d,(∀a∈B,∃o,H1 a=some o)/\aC K B H1 ds vs/\g ds= .ok d/\∀z H',aO H1 H'->Rep K B H' d z->Q z H':=by
 obtain⟨ρ,S,δ,v,S',E,hf,q⟩:=h;obtain⟨vs,S1,h1,h2⟩:=R3.ai hf;split at h2
 .rename_i ds e;obtain⟨d,S2,h3,h4⟩:=R3.ai h2;obtain⟨h5,e5⟩:=R3.of_ok h3;cases h4;subst e5;refine⟨ρ,S,δ,vs,_,E,h1,fun us cF H1 p1 w1 r1=>?_⟩
  rw[jo e] at r1;exact⟨cF.b,ds,d,w1.bs,r1.to,h5,fun z H' s r=>q z cF H' (p1.trans (Pre.same s)) (w1.same s) (by unfold bb;exact r)⟩
 .cases h2
theorem si{g:List D->R D}{x:Str}{id:String}{p pos:Pos}{e:Expr}{es:List Expr}{fs:FA}(hc:cQ X (.builtin id) g)(hg:Gl X x)(hm:X.mg x=none)(hv:bootBuiltins x=some (.builtin id))(ha:GU X cl (e ::es) fs)(hn:x≠"__name__":=by decide)(qj:(x==("__debug__":Str))=false:=by decide)
 (he:starEach (e ::es) X.env=(false,eval e X.env) ::starEach es X.env:=by rfl) (mJ:(backTo pos (starEach es X.env)).any (·.1)=false:=by rfl):PX X cl (.Call (.Name x p) (e ::es) [] pos) (kP g fs):=
 ⟨(xW hc.r hg hm hv ha.1 hn qj he mJ).imp fun σ H Q h=>Dt h⟩
def Vb(c:FB)(f g:FX):FX:=fun δ S=>(c δ S).bind fun b S=>if b then f δ S else g δ S
theorem aS:∀(δ:DE) (S:aN) (ds:List V3) (S':aN),di δ S= .ok ds S'->ds.length=0:=fun δ S ds S' h=>by cases h;rfl
theorem ao{g:FA}{n:Nat}(h:∀(δ:DE) (S:aN) (ds:List V3) (S':aN),g δ S= .ok ds S'->ds.length=n):∀(δ:DE) (S:aN) (ds:List V3) (S':aN),aM f g δ S= .ok ds S'->ds.length=n+1:=fun δ S ds S' e=>by
 obtain⟨v,S1,h1,h2⟩:=R3.ai e;obtain⟨vs,S2,h3,h4⟩:=R3.ai h2;cases h4;rw[List.length_cons,h δ S1 vs _ h3]
end
end L3
end
section
namespace L3
open PySem PySem.Spec PyProof.Rows L2
theorem vC{K:W.Frag}{ds:List V3}{xs:List V}{i:Int}{d:V3}(r:aF K ρ H ds xs)(h:rS ds i=some d):∃x,rS xs i=some x/\bb K ρ H d x:=by
 unfold rS at h ⊢;rw[<-r.length];cases e:Cg ds.length i with
 | none=>rw [e] at h;cases h
 | some j=>
   rw[e] at h;exact r.get h
section
variable {X:Cx} {cl:Vx}
def OK(fa fb:FX):FX:=fun δ S=>(fa δ S).bind fun a S1=>(fb δ S1).bind fun b S2=>match a,b with
 | .d x, .d y=>(R3.of (bW x y) S2).bind fun d S=> .ok (.d d) S
 | .lst vs, .d (.int i)=>(match rS vs i with | some v=> .ok v S2 | none=> .no)
 | .tup vs, .d (.int i)=>(match rS vs i with | some v=> .ok v S2 | none=> .no)
 | _,_=> .no
theorem Mn(ha:PX X cl a fa)(hb:PX X cl b fb)(hs:r_ b):PX X cl (.Subscript a b pos) (OK fa fb):=by
 refine⟨(Ih (r:=OY X.K) Fe ha.1 hb.1 hs).imp fun σ H Q ⟨ρ,S,δ,v,S',E,hf,q⟩=>?_⟩
 obtain⟨v1,S1,h1,h2⟩:=R3.ai hf;obtain⟨v2,S2,h3,h4⟩:=R3.ai h2;refine⟨ρ,S,δ,v1,S1,E,h1,fun u1 cF H1 p1 w1 r1=>⟨cF,S1,δ,v2,S2,E.to p1 w1,h3,fun u2 ui H2 p2 w2 r2=>?_⟩⟩
 have vM:=r1.pre p2;have Nd:=p1.trans p2;split at h4
 .rename_i x y;obtain⟨d,S3,h5,h6⟩:=R3.ai h4;obtain⟨h7,e7⟩:=R3.of_ok h5;cases h6;subst e7;unfold bb at vM r2;unfold bW at h7;split at h7
  .split at h7
   .rename_i e;cases h7;obtain⟨p,xs,rfl,l,rs⟩:=Rep.lst.mp vM;obtain⟨y,e1,e2⟩:=qg rs e;exact .inl ⟨p,xs,_,y,rfl,Rep.int.mp r2,l.sq,e1,q y ui H2 Nd w2 (by unfold bb;exact e2)⟩
   .cases h7
  .split at h7
   .rename_i e;cases h7;obtain⟨p,xs,rfl,l,rs⟩:=Rep.tup.mp vM;obtain⟨y,e1,e2⟩:=qg rs e;exact .inr (.inl ⟨p,xs,_,y,rfl,Rep.int.mp r2,l.sq,e1,q y ui H2 Nd w2 (by unfold bb;exact e2)⟩)
   .cases h7
  .obtain⟨hl,h8⟩:=R.bh h7;split at h8
   .rename_i e;cases h8;exact .inr (.inr ⟨_,_,_,Rep.str.mp vM,Rep.int.mp r2,of_decide_eq_true hl,e,q _ ui H2 Nd w2 (by unfold bb;exact Rep.str.mpr rfl)⟩)
   .cases h8
  .cases h7
 .split at h4
  .rename_i e;cases h4;unfold bb at vM r2;obtain⟨p,xs,rfl,l,rs⟩:=vM;obtain⟨y,e1,e2⟩:=vC rs e;exact .inl ⟨p,xs,_,y,rfl,Rep.int.mp r2,l.sq,e1,q y ui H2 Nd w2 e2⟩
  .cases h4
 .split at h4
  .rename_i e;cases h4;unfold bb at vM r2;obtain⟨p,xs,rfl,l,rs⟩:=vM;obtain⟨y,e1,e2⟩:=vC rs e;exact .inr (.inl ⟨p,xs,_,y,rfl,Rep.int.mp r2,l.sq,e1,q y ui H2 Nd w2 e2⟩)
  .cases h4
 .cases h4
end
end L3
end
section
namespace L3
open PySem PySem.Spec PyProof.Rows L2
section
variable {X:Cx} {cl:Vx}
structure U_ (X:Cx) (cl:Vx) (e:Expr) (f:FB):Prop where
 go:L2.PW X e (Kf X.K cl f)
def SX(f g:FB):FB:=fun δ S=>(f δ S).bind fun b S=>if b then g δ S else .ok false S
def U3(f g:FB):FB:=fun δ S=>(f δ S).bind fun b S=>if b then .ok true S else g δ S
def SR(f:FB):FB:=fun δ S=>(f δ S).bind fun b S=> .ok (!b) S
def R8(f:FX):FB:=fun δ S=>(f δ S).bind fun v S=>match v with | .d d=>R3.of (Ja d) S | _=> .no
abbrev Lr:=DE->aN->R3 (Option Int)
def SH(K:W.Frag)(cl:Vx)(f:Lr):TO:=fun σ H Q=>∃ρ S δ o S',fZ K cl ρ H S σ δ/\f δ S= .ok o S'/\∀de H',Pre ρ H de H'->SW K cl de H' S'->Q o H'
structure UP (X:Cx) (cl:Vx) (e:Option Expr) (f:Lr):Prop where
 go:PO X e (SH X.K cl f)
def OJ:Lr:=fun _ S=> .ok none S
def O5(f:FX):Lr:=fun δ S=>(f δ S).bind fun v S=>match v with | .d (.int i)=> .ok (some i) S | _=> .no
def U7(f:FX)(fl fh:Lr):FX:=fun δ S=>(f δ S).bind fun v S1=>(fl δ S1).bind fun lo S2=>(fh δ S2).bind fun hi S3=>match v with
 | .d d=>(R3.of (Mm d lo hi) S3).bind fun r S=> .ok (.d r) S
 | _=> .no
end
end L3
end
section
namespace L2
open PySem PySem.Spec PyProof.Rows
section
variable {X:Cx}
def JV(t T:String):Bool:=t==T || (t=="bool" && T=="int")
def Sz(T:String)(f:FD):FD:=fun δ=>(f δ).bind fun d=>match d with | .dct _ _=> .no | _=> .ok (.bl (JV (tyName d) T))
def nList(f:FD):av->R (List D):=fun δ=>(f δ).bind fun d=>match d with | .lst ds=> .ok ds | .tup ds=> .ok ds | _=> .no
end
end L2
namespace L3
open PySem PySem.Spec PyProof.Rows L2
theorem bV{P:Program}{w:World}{K:W.Frag}{mg:Vw}{base:Heap}{cl:Vx}{x qual:Str}{st:Stmt}{f:Addr}{fd:FuncData}{N ps:List Str}{k:Nat}{F:FZ}{b:List Stmt}{sc:Scope}(hb:aJ st=b)(hs:ax st=sc)(Fn:Bj K x qual st f fd)(S:aR N ps sc)
 (lR:∀(dY:Value) (A:Around) (outer:List Env) (s:Shared) (H:Hp) (E:XK),eV k (A.deeper (envOfC qual sc s.heap.objs.size f dY))->
   Ee (tH uI P w K mg base N qual sc f dY A outer s H E).HH cl b F):jg P w K mg base uI (k+1) f fd ps (Fo K cl ps.length (nU N F)):=by
 subst hb hs;exact F9 Fn S lR
theorem bS.p{K:W.Frag}{mg:Vw}{cl:Vx}{k:Nat}{n:Nat}{N:List Str}(C:bS P w K mg base cl k x n (nU N F)):bS P w K mg base cl k x n (pC N F):=
 let⟨f,fd,ps,F,h⟩:=C;⟨f,fd,ps,F.imp fun _ _ _ _ h=>y6 h,h⟩
def NA(N:List Str)(F:FZ):List D->R D:=fun ds=>match pC N F (ds.map .d) [] with
 | .ok (.d d) []=>R.bH d.atom (.ok d)
 | _=> .no
theorem IK{K:W.Frag}{cl:Vx}{N:List Str}{n:Nat}{vs:List V}{Q:VK}{E:XK}(h:C2 K n (NA N F) vs H Q E):Fo K cl n (nU N F) vs H Q E:=by
 obtain⟨hl,B,ds,d,hb,r,hg,q⟩:=h;unfold NA at hg;split at hg
 .rename_i d' e;obtain⟨ha,h2⟩:=R.bh hg;cases h2;have r0:aC K (⟨[],[],[]⟩:P3).b H ds vs:=r.bo fun b o e _=>⟨e,by simp [P3.b]⟩
  refine y6 ⟨hl,⟨[],[],[]⟩,[],ds.map .d, .d d,[],⟨rfl,fun i j a hi=>by simp at hi,fun k a o hk=>by simp at hk,fun b hb=>by simp at hb,fun k a hk=>by simp at hk,fun b hb=>by simp at hb,fun k a hk=>by simp at hk⟩,aF.of r0,e,fun u de H' p w' r'=>q u H' (fun b o eb=>?_) ?_⟩
  .exact(p.bo b o eb (by simp [P3.b])).1
  .unfold bb at r';exact r'.atom ha
 .cases hg
section
variable {X:Cx} {cl:Vx}
theorem sV{g:List D->R D}{k j n:Nat}{x:Str}{p pos:Pos}{e:Expr}{es:List Expr}{fs:FA}(C:Callee X.prog X.w X.K X.mg X.base k x n g)(hr:eV j X.A)(CT:k<=j)(hg:Gl X x)(ha:GU X cl (e ::es) fs)
 (hn:∀δ S ds S',fs δ S= .ok ds S'->ds.length=n) (qj:(x==("__debug__":Str))=false:=by decide) (he:starEach (e ::es) X.env=(false,eval e X.env) ::starEach es X.env:=by rfl) (mJ:(backTo pos (starEach es X.env)).any (·.1)=false:=by rfl) :
 PX X cl (.Call (.Name x p) (e ::es) [] pos) (kP g fs):=by
 obtain⟨f,fd,ps,F,hm,hk,hb⟩:=C;refine⟨(vV F (hr.mono CT) hg hm hk hb .nil xO ha.1 qj he mJ).imp fun σ H Q ⟨ρ,S,δ,v,S',E,hf,q⟩=>?_⟩
 obtain⟨vs,S1,h1,h2⟩:=R3.ai hf;split at h2
 .rename_i ds e;obtain⟨d,S2,h3,h4⟩:=R3.ai h2;obtain⟨h5,e5⟩:=R3.of_ok h3;cases h4;subst e5;refine⟨ρ,S,δ,vs,_,E,h1,fun us cF H1 p1 w1 r1=>?_⟩
  have hl:=hn δ S vs _ h1;rw[jo e] at r1;show C2 X.K n g (us++[]) H1 Q E0;rw[List.append_nil];exact⟨by rw[<-r1.length,<-jo e];exact hl,cF.b,ds,d,w1.bs,r1.to,h5,fun z H' s r=>q z cF H' (p1.trans (Pre.same s)) (w1.same s) (by unfold bb;exact r)⟩
 .cases h2
def Om(f:FX):FA:=fun δ S=>(f δ S).bind fun v S=>match v with | .d (.tup ds)=> .ok (ds.map .d) S | .tup vs=> .ok vs S | _=> .no
end
end L3
end
section
namespace L3
open PySem PySem.Spec PyProof.Rows L2
def W3{α:Type}(r:R3 α)(Q:α->aN->Prop):Prop:=∃a S,r= .ok a S/\Q a S
section
variable {α β:Type} {Q Q':α->aN->Prop} {S:aN} {δ:DE}
theorem W3.ok{a:α}(h:Q a S):W3 (.ok a S) Q:=⟨a,S,rfl,h⟩
theorem W3.bind{Q:β->aN->Prop}{r:R3 α}{f:α->aN->R3 β}(h:W3 r fun a S=>W3 (f a S) Q):W3 (r.bind f) Q:=by
 obtain⟨a,S1,e1,b,S2,h2,q⟩:=h;exact⟨b,S2,by rw[e1];exact h2,q⟩
theorem W3.mono{r:R3 α}(h:W3 r Q)(m:∀a S,Q a S->Q' a S):W3 r Q':=let⟨a,S,e,q⟩:=h;⟨a,S,e,m a S q⟩
theorem W3.wh{c:Bool}{r:R3 α}(hc:c=true)(h:W3 r Q):W3 (R3.bH c r) Q:=by rw[hc];exact h
theorem W3.of{r:R α}{a:α}(e:r= .ok a)(h:Q a S):W3 (R3.of r S) Q:=by rw[e];exact⟨a,S,rfl,h⟩
end
section
variable {S:aN} {δ:DE} {QV:V3->aN->Prop} {QB:Bool->aN->Prop} {QA:List V3->aN->Prop} {QO:Ou->aN->Prop}
theorem cB{f:FD}{d:D}(e:f (down δ)= .ok d)(h:QV (.d d) S):W3 (xP f δ S) QV:=W3.bind (W3.of e (W3.ok h))
theorem NB{f:FD}{d:D}(e:f (f9 S δ)= .ok d)(ha:mU d=true)(h:QV (.d d) S):W3 (xT f δ S) QV:=W3.bind (W3.of e (W3.wh ha (W3.ok h)))
theorem sZ{f:av->R Bool}{b:Bool}(e:f (down δ)= .ok b)(h:QB b S):W3 (bP f δ S) QB:=W3.of e h
theorem w_var{i:Nat}{v:V3}(e:δ[i]? =some (some v))(h:QV v S):W3 (dU i δ S) QV:=by unfold dU;rw [e];exact W3.ok h
theorem mB{f:av->R (List D)}{ds:List D}(e:f (down δ)= .ok ds)(h:QV (.loc S.length) (S++[.lst ds])):W3 (p7 f δ S) QV:=W3.bind (W3.of e (W3.ok h))
theorem cg(h:QA [] S):W3 (di δ S) QA:=W3.ok h
theorem aD{f:FX}{g:FA}(h:W3 (f δ S) fun v S1=>W3 (g δ S1) fun vs S2=>QA (v ::vs) S2):W3 (aM f g δ S) QA:=W3.bind (h.mono fun _ _ h=>W3.bind (h.mono fun _ _ h=>W3.ok h))
theorem Im{g:FA}(h:W3 (g δ S) fun vs S1=>vs.length<=sizeLine/\QV (AB vs) S1):W3 (HL g δ S) QV:=W3.bind (h.mono fun _ _ h=>W3.wh (decide_eq_true h.1) (W3.ok h.2))
theorem MN{g:D->D->R D}{fa fb:FX}(h:W3 (fa δ S) fun a S1=>W3 (fb δ S1) fun b S2=>∃x y d,a= .d x/\b= .d y/\g x y= .ok d/\QV (.d d) S2):W3 (x2 g fa fb δ S) QV:=
 W3.bind (h.mono fun _ _ h=>W3.bind (h.mono fun _ _ ⟨_,_,_,e1,e2,e3,q⟩=>by subst e1 e2;exact W3.bind (W3.of e3 (W3.ok q))))
theorem J2{g:D->D->R D}{fa fb:FX}(h:W3 (fa δ S) fun a S1=>W3 (fb δ S1) fun b S2=>∃x y k,a= .d x/\b= .d y/\g x y= .ok (.bl k)/\QB k S2):W3 (MO g fa fb δ S) QB:=
 W3.bind (MN (h.mono fun _ _ h=>h.mono fun _ _ ⟨x,y,k,e1,e2,e3,q⟩=>⟨x,y, .bl k,e1,e2,e3,W3.ok q⟩))
theorem Ov{fa fb:FX}(h:W3 (fa δ S) fun a S1=>W3 (fb δ S1) fun b S2=>∃x y d,a= .d x/\b= .d y/\bW x y= .ok d/\QV (.d d) S2):W3 (OK fa fb δ S) QV:=
 W3.bind (h.mono fun _ _ h=>W3.bind (h.mono fun _ _ ⟨_,_,_,e1,e2,e3,q⟩=>by subst e1 e2;exact W3.bind (W3.of e3 (W3.ok q))))
theorem eM{g:List V3->aN->R3 V3}{fs:FA}(h:W3 (fs δ S) fun vs S1=>W3 (g vs S1) QV):W3 (f7 g fs δ S) QV:=W3.bind h
theorem nY{g:List D->R D}{fs:FA}(h:W3 (fs δ S) fun vs S1=>∃ds d,vs=ds.map .d/\g ds= .ok d/\QV (.d d) S1):W3 (kP g fs δ S) QV:=
 W3.bind (h.mono fun _ _ ⟨ds,_,e1,e2,q⟩=>by subst e1;rw [sJ];exact W3.bind (W3.of e2 (W3.ok q)))
theorem JU{it:FA}{own:List Str}{kp:List Nat}(h:W3 (it δ S) fun vs S1=>vs.length<=sizeLine/\W3 (ny t c f (nC own kp δ) vs S1) fun ys S2=>QV (u7 ys) S2):W3 (i8 it t c f own kp δ S) QV:=
 W3.bind (h.mono fun _ _ h=>W3.wh (decide_eq_true h.1) (W3.bind (h.2.mono fun _ _ h=>W3.ok h)))
theorem aX{F G:FZ}(h:W3 (F δ S) fun o S1=>∃dj,o= .nx dj/\W3 (G dj S1) QO):W3 (bA F G δ S) QO:=W3.bind (h.mono fun _ _ ⟨_,e,h⟩=>by subst e;exact h)
theorem bB{i:Nat}{f:FX}(hi:i < δ.length)(h:W3 (f δ S) fun v S1=>QO (.nx (δ.set i (some v))) S1):W3 (cH i f δ S) QO:=W3.bind (h.mono fun _ _ h=>W3.wh (decide_eq_true hi) (W3.ok h))
theorem eR{f:FX}(h:W3 (f δ S) fun v S1=>QO (.rt v) S1):W3 (gA f δ S) QO:=W3.bind (h.mono fun _ _ h=>W3.ok h)
theorem sj{c:FB}{F G:FZ}(h:W3 (c δ S) fun b S1=>if b then W3 (F δ S1) QO else W3 (G δ S1) QO):W3 (Dp c F G δ S) QO:=W3.bind (h.mono fun b _ h=>by cases b <;> exact h)
theorem Mx{f:FX}{t:FG}(h:W3 (f δ S) fun v S1=>∃dj,t v δ=some dj/\QO (.nx dj) S1):W3 (JM f t δ S) QO:=W3.bind (h.mono fun _ _ ⟨_,e,q⟩=>by rw[e];exact W3.ok q)
theorem ni(h:QO (.nx δ) S):W3 (uC δ S) QO:=W3.ok h
theorem j6{f:av->R (List D)}{ds:List D}(e:f (down δ)= .ok ds)(h:QA (ds.map .d) S):W3 (iP f δ S) QA:=W3.bind (W3.of e (W3.ok h))
theorem D4{f:FX}(h:W3 (f δ S) fun v S1=>∃n:Nat,v= .d (.int n)/\n < 1000000/\QA ((hX 0 n).map .d) S1):W3 (u_ f δ S) QA:=W3.bind (h.mono fun _ _ ⟨n,e,hn,q⟩=>by
 subst e;refine W3.wh (decide_eq_true ⟨by omega,by omega⟩) (W3.ok ?_)
 rw[Int.toNat_natCast];exact q)
theorem nQ{f:FX}(h:W3 (f δ S) fun v S1=>∃ds,v= .d (.lst ds)/\QA (ds.map .d) S1):W3 (yh f δ S) QA:=W3.bind (h.mono fun _ _ ⟨n,e,q⟩=>by subst e;exact W3.ok q)
theorem fF{it:FA}(h:W3 (it δ S) fun vs S1=>W3 (nD t F vs δ S1) QO):W3 (ju it t F δ S) QO:=W3.bind h
theorem my{i k:Nat}{f:FX}(hk:δ[i]? =some (some (.loc k)))(h0:∃ds,S[k]? =some (.lst ds))(h:W3 (f δ S) fun v S1=>∃d ds,v= .d d/\S1[k]? =some (.lst ds)/\ds.length < sizeLine/\QO (.nx δ) (S1.set k (.lst (ds++[d])))):W3 (mX i f δ S) QO:=by
 obtain⟨es,h0⟩:=h0;unfold mX;have e1:jM δ i=some k:=by unfold jM;rw [hk]
 have e2:er S k=some es:=by unfold er;simp only[h0]
 rw[e1];show W3 (match er S k with | none=>_ | some _=>_) _
 rw[e2];refine W3.bind (h.mono fun v S1 ⟨d,ds,e,h1,hl,q⟩=>?_)
 subst e;have e3:er S1 k=some ds:=by unfold er;simp only[h1]
 show W3 (match er S1 k with | some ds=>_ | none=>_) _
 rw[e3];exact W3.wh (decide_eq_true hl) (W3.ok q)
theorem sP{t:FG}{body:FZ}:∀(vs:List V3) (n:Nat) (P:Nat->DE->aN->Prop) {δ:DE} {S:aN},P n δ S->
 (∀i v δ S,vs[i]? =some v->P (n+i) δ S->∃dj,t v δ=some dj/\W3 (body dj S) fun o S1=>∃dM,o= .nx dM/\P (n+i+1) dM S1)->W3 (nD t body vs δ S) fun o S1=>∃dM,o= .nx dM/\P (n+vs.length) dM S1
 | [],n,P,δ,S,h0,_=>W3.ok ⟨δ,rfl,h0⟩
 | v ::vs,n,P,δ,S,h0,hs=>by
   obtain⟨dj,e1,o,S1,e2,dM,rfl,p2⟩:=hs 0 v δ S rfl h0;have ih:=sP vs (n+1) P p2 (fun i v' eK S' hi hp=>by
    have:=hs (i+1) v' eK S' (by simpa using hi) (by rw[show n+(i+1)=n+1+i by omega];exact hp)
    rw[show n+(i+1)+1=n+1+i+1 by omega] at this
    exact this)
   rw[show n+1+vs.length=n+(v ::vs).length by rw[List.length_cons];omega] at ih
   unfold nD;rw[e1];refine W3.bind ⟨_,_,e2,?_⟩;exact ih
theorem cb{t:FG}{body:FZ}{vs:List V3}(P:Nat->DE->aN->Prop){δ:DE}{S:aN}(h0:P 0 δ S)
 (hs:∀i v δ S,vs[i]? =some v->P i δ S->∃dj,t v δ=some dj/\W3 (body dj S) fun o S1=>∃dM,o= .nx dM/\P (i+1) dM S1):W3 (nD t body vs δ S) fun o S1=>∃dM,o= .nx dM/\P vs.length dM S1:=by
 have:=sP (t:=t) (body:=body) vs 0 P h0 (fun i v δ S hi hp=>by simpa using hs i v δ S hi (by simpa using hp))
 simpa using this
theorem sU{t:FG}{c:FB}{f:FX}{δ:DE}:∀(vs:List V3) (n:Nat) (P:Nat->List V3->aN->Prop) {ys:List V3} {S:aN},P n ys S->
 (∀i v ys S,vs[i]? =some v->P (n+i) ys S->∃dj,t v δ=some dj/\W3 (c dj S) fun b S1=>if b then W3 (f dj S1) fun y S2=>P (n+i+1) (ys++[y]) S2 else P (n+i+1) ys S1)->W3 (ny t c f δ vs S) fun zs S1=>P (n+vs.length) (ys++zs) S1
 | [],n,P,ys,S,h0,_=>W3.ok (by rw[List.append_nil];exact h0)
 | v ::vs,n,P,ys,S,h0,hs=>by
   obtain⟨dj,e1,b,S1,e2,h2⟩:=hs 0 v ys S rfl h0;have ih:∀{Nc S'},P (n+1) Nc S'->W3 (ny t c f δ vs S') fun zs S1=>P (n+(v ::vs).length) (Nc++zs) S1:=fun {Nc S'} p=>by
    have:=sU (t:=t) (c:=c) (f:=f) (δ:=δ) vs (n+1) P p (fun i v' Nc S' hi hp=>by
     have:=hs (i+1) v' Nc S' (by simpa using hi) (by rw[show n+(i+1)=n+1+i by omega];exact hp)
     rw[show n+(i+1)+1=n+1+i+1 by omega] at this
     exact this)
    rw[show n+1+vs.length=n+(v ::vs).length by rw[List.length_cons];omega] at this
    exact this
   unfold ny;rw[e1];refine W3.bind ⟨b,S1,e2,?_⟩;cases b with
   | true=>
     rw[if_pos rfl] at h2 ⊢;exact W3.bind (h2.mono fun y S2 p=>W3.bind ((ih p).mono fun zs S3 q=>W3.ok (by rw[List.append_assoc] at q;exact q)))
   | false=>rw [if_neg (by decide)] at h2 ⊢;exact ih h2
theorem Co{t:FG}{c:FB}{f:FX}{δ:DE}{vs:List V3}(P:Nat->List V3->aN->Prop){S:aN}(h0:P 0 [] S)
 (hs:∀i v ys S,vs[i]? =some v->P i ys S->∃dj,t v δ=some dj/\W3 (c dj S) fun b S1=>if b then W3 (f dj S1) fun y S2=>P (i+1) (ys++[y]) S2 else P (i+1) ys S1):W3 (ny t c f δ vs S) fun zs S1=>P vs.length zs S1:=by
 have:=sU (t:=t) (c:=c) (f:=f) (δ:=δ) vs 0 P h0 (fun i v ys S hi hp=>by simpa using hs i v ys S hi (by simpa using hp))
 simpa using this
theorem t5{QB:Bool->aN->Prop}(h:QB true S):W3 (uH δ S) QB:=W3.ok h
theorem uz{N:List Str}{F:FZ}{vs:List V3}{δ:DE}(e:cz N vs=δ)(h:W3 (F δ S) fun o S1=>∃v,o= .rt v/\QV v S1):W3 (nU N F vs S) QV:=by
 subst e;exact W3.bind (h.mono fun _ _ ⟨_,e,q⟩=>by subst e;exact W3.ok q)
def QE(S:aN):Prop:=∀o∈S,∃ds,o=SO.lst ds
end
section
variable {S:aN} {δ:DE} {QV:V3->aN->Prop}
theorem iE{it:FA}{t:FG}{c:FB}{f:FX}{own:List Str}{kp:List Nat}(P:Nat->List D->aN->Prop)(h:W3 (it δ S) fun vs S1=>vs.length<=sizeLine/\P 0 [] S1/\
 (∀i v ds S2,vs[i]? =some v->P i ds S2->∃dj,t v (nC own kp δ)=some dj/\W3 (c dj S2) fun b S3=>if b then W3 (f dj S3) fun y S4=>∃d,y= .d d/\P (i+1) (ds++[d]) S4 else P (i+1) ds S3)/\
 ∀ds S2,P vs.length ds S2->QV (.d (.lst ds)) S2):W3 (i8 it t c f own kp δ S) QV:=by
 refine JU (h.mono fun vs S1 ⟨hl,h0,hs,hq⟩=>⟨hl,?_⟩)
 refine(Co (fun i ys S=>∃ds,ys=ds.map V3.d/\P i ds S) ⟨[],rfl,h0⟩ ?_).mono fun zs S2 ⟨ds,e,p⟩=>?_
 .rintro i v ys S2 hv ⟨ds,rfl,p⟩;obtain⟨dj,e1,h1⟩:=hs i v ds S2 hv p;refine⟨dj,e1,h1.mono fun b S3 h3=>?_⟩
  cases b with
  | true=>
    rw[if_pos rfl] at h3 ⊢;exact h3.mono fun y S4 ⟨d,e,p⟩=>by subst e;exact⟨ds++[d],by simp,p⟩
  | false=>rw [if_neg (by decide)] at h3 ⊢;exact⟨ds,rfl,h3⟩
 .subst e;unfold u7;rw[sJ];exact hq ds S2 p
structure cV (n:Nat) (d:D):Prop where
 pl:eL d=true
 ly:(toPy d).canLay0=true
 dp:(toPy d).depth<=n
theorem cV.int(i:Int):cV 0 (.int i):=⟨by unfold eL;rfl,by unfold toPy PyData.canLay0;rfl,by unfold toPy PyData.depth;omega⟩
theorem cV.bl(b:Bool):cV 0 (.bl b):=⟨by unfold eL;rfl,by unfold toPy PyData.canLay0;rfl,by unfold toPy PyData.depth;omega⟩
theorem cV.cn:cV 0 .cn:=⟨by unfold eL;rfl,by unfold toPy PyData.canLay0;rfl,by unfold toPy PyData.depth;omega⟩
theorem cV.str(h:(PyData.str s).canLay0=true):cV 0 (.str s):=⟨by unfold eL;rfl,by unfold toPy;exact h,by unfold toPy PyData.depth;omega⟩
theorem cV.mono{n m:Nat}{d:D}(h:cV n d)(hm:n<=m):cV m d:=⟨h.pl,h.ly,Nat.le_trans h.dp hm⟩
theorem cV.all{n:Nat}:∀{ds:List D},(∀d∈ds,cV n d)->kA ds=true/\PyData.canLayAll0 (mC ds)=true/\PyData.depthAll (mC ds)<=n
 | [],_=>⟨by unfold kA;rfl,by unfold mC PyData.canLayAll0;rfl,by unfold mC PyData.depthAll;omega⟩
 | d ::ds,h=>by
   obtain⟨h1,h2,h3⟩:=cV.all (ds:=ds) fun x hx=>h x (List.mem_cons_of_mem _ hx)
   have f:=h d List.mem_cons_self;refine⟨by unfold kA;rw [f.pl,h1];rfl,by unfold mC PyData.canLayAll0;rw [f.ly,h2];rfl,?_⟩
   unfold mC PyData.depthAll;have:=f.dp;omega
theorem cV.lst{n:Nat}{ds:List D}(h:∀d∈ds,cV n d):cV (n+1) (.lst ds):=by
 obtain⟨h1,h2,h3⟩:=cV.all h;exact⟨by unfold eL;exact h1,by unfold toPy PyData.canLay0;exact h2,by unfold toPy PyData.depth;omega⟩
theorem cV.tup{n:Nat}{ds:List D}(h:∀d∈ds,cV n d):cV (n+1) (.tup ds):=by
 obtain⟨h1,h2,h3⟩:=cV.all h;exact⟨by unfold eL;exact h1,by unfold toPy PyData.canLay0;exact h2,by unfold toPy PyData.depth;omega⟩
theorem cV.sh{n:Nat}{d:D}(h:cV n d)(hn:n<=64):SeqAt.shaped (toPy d)=true:=by
 unfold SeqAt.shaped;rw[h.ly,decide_eq_true (Nat.le_trans h.dp hn)];rfl
theorem yV{d e:List D}:AG (.lst d) (.lst e)=R.bH (eL (.lst d) && eL (.lst e) && SeqAt.shaped (toPy (.lst d)) && SeqAt.shaped (toPy (.lst e))) (.ok (PyData.eqv (toPy (.lst d)) (toPy (.lst e)))):=rfl
theorem EF{d e:List D}:AG (.tup d) (.tup e)=R.bH (eL (.tup d) && eL (.tup e) && SeqAt.shaped (toPy (.tup d)) && SeqAt.shaped (toPy (.tup e))) (.ok (PyData.eqv (toPy (.tup d)) (toPy (.tup e)))):=rfl
theorem cV.eqT{n:Nat}{ds:List D}(h:cV n (.tup ds))(hn:n<=64):AG (.tup ds) (.tup ds)= .ok true:=by
 rw[EF,h.pl,h.sh hn,SeqAt.eqv_refl _ h.ly];rfl
theorem cV.Q9{n:Nat}{ds:List D}(h:cV n (.lst ds))(hn:n<=64):AG (.lst ds) (.lst ds)= .ok true:=by
 rw[yV,h.pl,h.sh hn,SeqAt.eqv_refl _ h.ly];rfl
end
end L3
end
section
namespace L2
open PySem PySem.Spec PyProof.Rows
section
variable {X:Cx}
def EB:D->Bool | .cn=>true | _=>false
def Vd(d e:D):R D:=match e with | .cn=> .ok (.bl (EB d)) | _=> .no
def vY(d e:D):R D:=match e with | .cn=> .ok (.bl (!EB d)) | _=> .no
theorem GC{K:W.Frag}{B:List Addr}{d:D}{x:V}(r:Rep K B H d x):decide (x= .cn)=EB d:=by
 cases d with
 | cn=>rw [Rep.cn.mp r];rfl
 | bl b=>rw [Rep.bl.mp r];rfl
 | int b=>rw [Rep.int.mp r];rfl
 | str b=>rw [Rep.str.mp r];rfl
 | lst ds=>obtain⟨a,xs,rfl,_⟩:=Rep.lst.mp r;rfl
 | tup ds=>obtain⟨a,xs,rfl,_⟩:=Rep.tup.mp r;rfl
 | dct ks ds=>unfold Rep at r;obtain⟨a,xs,rfl,_⟩:=r;rfl
theorem Bi:lp X (compareOp .IsNot) vY:=lp.of Hr fun B H da db d x y Q _ ra rb hg q=>by
 unfold vY at hg;split at hg
 .cases hg;exact⟨Rep.cn.mp rb,by rw[GC ra];exact q _ H (aO.refl H) (Rep.bl.mpr rfl)⟩
 .cases hg
theorem B9:m4 X (.type "int") (fun xs H Q=>∃x n,xs=[.str x]/\PySem.intText? x=some n/\x.length<=640/\Q (.int n) H):=by
 intro pins s σ H xs us Q I r h;obtain⟨x,n,rfl,h1,h2,q⟩:=h;obtain⟨u,rfl,ru⟩:=vals1 r;obtain⟨t,rfl⟩:=ru;exact PySem.W.KIN.call_text h1 h2 ⟨.int n,H,I.tok _,⟨_,rfl⟩,q⟩
def Ed:List D->R D
 | [.str x]=>R.bH (decide (x.length<=640)) (match PySem.intText? x with | some n=> .ok (.int n) | none=> .no)
 | _=> .no
theorem Kk:cQ X (.type "int") Ed:=cQ.of B9 fun B H ds d xs Q _ rs hg q=>by
 unfold Ed at hg;split at hg
 .obtain⟨h1,h2⟩:=R.bh hg;split at h2
  .rename_i e;cases h2;obtain⟨x,rfl,r⟩:=rs.one;exact⟨_,_,by rw[Rep.str.mp r],e,of_decide_eq_true h1,q _ H (aO.refl H) (Rep.int.mpr rfl)⟩
  .cases h2
 .cases hg
def kz(ds:List D):R D:=match ds with | [.str _]=>Ed ds | _=>cInt ds
theorem qy:cQ X (.type "int") kz:=cQ.or Kk LK fun a d h=>by
 unfold kz at h;split at h
 .exact .inl h
 .exact .inr h
def IV(f:FD):FD:=fun δ=>(f δ).bind fun d=>match d with | .int i=> .ok (.int (-i)) | _=> .no
theorem GD(h:QD X a f):QD X (.UnaryOp .USub a pos) (IV f):=⟨(Mt Jt h.1).imp fun σ H Q ⟨Z,B,δ,d,E,hf,q⟩=>by
 obtain⟨d1,h1,h2⟩:=R.ai hf;split at h2
 .cases h2;exact⟨Z,B,δ,_,E,h1,fun v H1 s1 r1=>⟨_,Rep.int.mp r1,q _ H1 s1 (Rep.int.mpr rfl)⟩⟩
 .cases h2⟩
def Q3(d:D)(ds:List D):R D:=match d,ds with
 | .str x,[.str y]=> .ok (.int (Txt.find x y))
 | _,_=> .no
def Sj(kvs:List (Str × Str)):D:= .dct (kvs.map fun p=>Sum.inr p.1) (kvs.map fun p=> .str p.2)
def US(kvs:List (Str × Str)):List (Key × V):=kvs.map fun p=>((Sum.inr p.1:Key),V.str p.2)
def RJ(d k:D):R D:=match d,k with
 | .dct ks ds, .str x=>(match (ks.zip ds).find? fun p=>decide (p.1=Sum.inr x) with | some p=> .ok p.2 | none=> .no)
 | _,_=> .no
end
theorem LO{K:W.Frag}{mg:Vw}{k n:Nat}{f:Addr}{fd:FuncData}{ps:List Str}:jg P w K mg base uI k f fd ps (C2 K n fun _=> .no):=
 ⟨fun vs H Q E h=>(by obtain⟨_,_,_,_,_,_,h,_⟩:=h;cases h),fun A outer s H args us vs Q E _ _ _ _ h=>(by obtain⟨_,_,_,_,_,_,h,_⟩:=h;cases h)⟩
end L2
namespace L3
open PySem PySem.Spec PyProof.Rows L2
section
variable {X:Cx} {cl:Vx}
def O2(f:FX):FB:=fun δ S=>(f δ S).bind fun v S=>match v with | .d (.bl b)=> .ok b S | _=> .no
theorem Ki{f:FX}{δ:DE}{S S':aN}{b:Bool}(h:O2 f δ S= .ok b S'):f δ S= .ok (.d (.bl b)) S':=by
 obtain⟨v,S1,h1,h2⟩:=R3.ai h;split at h2
 .cases h2;exact h1
 .cases h2
def J_(f g:FX):FX:=fun δ S=>(O2 f δ S).bind fun b S=>if b then g δ S else .ok (.d (.bl false)) S
def U5(f g:FX):FX:=fun δ S=>(O2 f δ S).bind fun b S=>if b then .ok (.d (.bl true)) S else g δ S
theorem JC{op}(h:PX X cl a f):PX X cl (.BoolOp op [a] pos) f:=⟨DA h.1⟩
theorem Km{rest:List Expr}(ha:PX X cl a f)(hb:PX X cl (.BoolOp .And (b ::rest) pos) g):PX X cl (.BoolOp .And (a ::b ::rest) pos) (J_ f g):=⟨(Dn ha.1 hb.1).imp fun σ H Q ⟨ρ,S,δ,k,S',E,hf,q⟩=>by
 obtain⟨c,S1,h1,h2⟩:=R3.ai hf;refine⟨ρ,S,δ, .d (.bl c),S1,E,Ki h1,fun v cF H1 p1 w1 r1=>⟨c,by unfold bb Rep at r1;exact r1,?_⟩⟩
 cases c with
 | true=>rw [if_pos rfl] at h2 ⊢;exact⟨cF,S1,δ,k,S',E.to p1 w1,h2,fun v ui H' p2 w2 r2=>q v ui H' (p1.trans p2) w2 r2⟩
 | false=>rw [if_neg (by decide)] at h2 ⊢;cases h2;exact q _ cF H1 p1 w1 (by unfold bb Rep;rfl)⟩
theorem w_and{f g:FX}{δ:DE}{S:aN}{Q:V3->aN->Prop}(h:W3 (f δ S) fun v S1=>v= .d (.bl true)/\W3 (g δ S1) Q):W3 (J_ f g δ S) Q:=W3.bind (W3.bind (h.mono fun v S1 ⟨e,h2⟩=>by subst e;exact W3.ok (by rw[if_pos rfl];exact h2)))
def xp(i:Nat)(F:FZ):FZ:=fun δ S=>match jM δ i with
 | some k=>(match er S k with | some ds=>F (δ.set i (some (.d (.lst ds)))) (S.set k .ki) | none=> .no)
 | none=> .no
theorem rT(i:Nat)(h:Ee X cl IA F):Ee X cl IA (xp i F):=⟨h.1.imp fun D σ H ⟨ρ,S,δ,o,S',E,hf,q⟩=>by
 unfold xp at hf;split at hf
 .rename_i k hk;split at hf
  .rename_i ds hds;obtain⟨v,v1,v2⟩:=E.val i _ (lY hk);unfold bb at v2;obtain⟨a,a1,rfl⟩:=v2;obtain⟨w,p,r⟩:=E.sw.ki a1 (jx hds);have E1:fZ X.K cl ⟨ρ.r,ρ.z,a ::ρ.f⟩ H (S.set k .ki) σ (δ.set i (some (.d (.lst ds)))):=⟨by rw[List.length_set];exact E.len,w,fun j d e=>by
    by_cases h:i=j
    .subst h;rw[List.getElem?_set_self (by obtain⟨h1,_⟩:=List.getElem?_eq_some_iff.mp (lY hk);exact h1)] at e
     cases e;exact⟨_,v1,by unfold bb;exact r⟩
    .rw [List.getElem?_set_ne h] at e;obtain⟨u,u1,u2⟩:=E.val j d e;exact⟨u,u1,u2.pre p⟩⟩
   exact⟨_,_,_,o,S',E1,hf,q.pre p⟩
  .cases hf
 .cases hf⟩
theorem Bf{i k:Nat}{ds:List D}{F:FZ}{δ:DE}{S:aN}{QO:Ou->aN->Prop}(hk:δ[i]? =some (some (.loc k)))(hS:S[k]? =some (.lst ds))(h:W3 (F (δ.set i (some (.d (.lst ds)))) (S.set k .ki)) QO):W3 (xp i F δ S) QO:=by
 unfold xp;have e1:jM δ i=some k:=by unfold jM;rw [hk]
 have e2:er S k=some ds:=by unfold er;simp only[hS]
 simp only[e1,e2];exact h
end
def Flat(S:aN):Prop:=∀o∈S,∀n,rK n o=true
end L3
end
section
namespace PySem
open Sem (wp)
open AutoSeq1 (wpAny_loadPart')
section
variable {prog:Program} {w:World} {A:Around} {E:Vs} {s:Shared}
end
end PySem
namespace L2
open PySem PySem.Spec PyProof.Rows
section
variable {X:Cx}
def NC(f:FD):FD:=fun δ=>(f δ).bind fun d=>match d with
 | .int j=>R.bH (decide (-(2 ^ 62)<=j/\j < 16777216)) (.ok (.tup (hX 0 j.toNat)))
 | _=> .no
end
end L2
end
section
namespace PySem
open Sem (wp)
open AutoSeq1 (wpAny_loadPart')
section
variable {prog:Program} {w:World} {A:Around} {E:Vs} {s:Shared}
theorem mz{it l:Addr}{i:Nat}{items:Array Value}{x:Value}{Q:Vs}(hit:s.heap.IsTupleIter it l i)(hl:s.heap.IsTuple l items)(hx:items[i]? =some x)
 (hQ:∀h',h'.IsTupleIter it l (i+1)->Heap.SameBut it s.heap h'->Q x {s with heap:=h'}):wpAny (model prog w) A (Builtin.SmallTypes.nextOf (.ref it)) Q E s:=by
 obtain⟨o,ho,hc,hd⟩:=id hit;obtain⟨ol,hol,_,nl,hdl⟩:=hl;unfold Builtin.SmallTypes.nextOf;refine wpAny_bind (wpAny_callSpecial?_slot (name:="__next__") hit.typeIs F.slot_tuple_iterator_next (wpAny_call_entry F.slot_tuple_iterator_next hit.typeIs F.entry_tuple_iterator_next ?_ (F.args_tuple_iterator_next_1 _)));show wpAny _ _ (field (.ref it) 0 >>=_) _ _ s;refine wpAny_bind (wpAny_field ho hd (x:= .ref l) rfl ?_);show wpAny _ _ (if(Value.ref l==Value.none)=true then _ else _) _ _ s;rw [if_neg (show ¬((Value.ref l==Value.none)=true) from Bool.false_ne_true)]
 show wpAny _ _ (field (.ref it) 1 >>=_) _ _ s;refine wpAny_bind (wpAny_field ho hd (x:= .int i 0) rfl ?_);show wpAny _ _ (seqItems? (.ref l) >>=_) _ _ s;refine wpAny_bind (wpAny_seqItems hol hdl ?_);simp only[Int.toNat_natCast,hx];refine wpAny_bind (wpAny_setField ho hd (by simp) (wpAny_pure ⟨x,rfl,wpAny_pure (hQ _ ⟨_,Heap.get?_update_self _ ho (Obj.isFreed_of_fields (Obj.data_mapFields hd _)),(Obj.cls_mapFields ..).trans hc,by rw[Obj.data_mapFields hd];simp [rawInt]⟩ (Heap.SameBut.update ..))⟩))
theorem jL{it l:Addr}{i:Nat}{items:Array Value}{Q:Vs}(hh:A.handled=none)(hit:s.heap.IsTupleIter it l i)(hl:s.heap.IsTuple l items)(hx:items[i]? =none)
 (hE:∀h' e,Heap.ExtBut it s.heap h'->(∃o,h'.get? e=some o/\o.cls= .type "StopIteration")->E (.ref e) {s with heap:=h'}):wpAny (model prog w) A (Builtin.SmallTypes.nextOf (.ref it)) Q E s:=by
 obtain⟨o,ho,hc,hd⟩:=id hit;obtain⟨ol,hol,_,nl,hdl⟩:=hl;unfold Builtin.SmallTypes.nextOf;refine wpAny_bind (wpAny_callSpecial?_slot (name:="__next__") hit.typeIs F.slot_tuple_iterator_next (wpAny_call_entry F.slot_tuple_iterator_next hit.typeIs F.entry_tuple_iterator_next ?_ (F.args_tuple_iterator_next_1 _)));show wpAny _ _ (field (.ref it) 0 >>=_) _ _ s;refine wpAny_bind (wpAny_field ho hd (x:= .ref l) rfl ?_);show wpAny _ _ (if(Value.ref l==Value.none)=true then _ else _) _ _ s;rw [if_neg (show ¬((Value.ref l==Value.none)=true) from Bool.false_ne_true)]
 show wpAny _ _ (field (.ref it) 1 >>=_) _ _ s;refine wpAny_bind (wpAny_field ho hd (x:= .int i 0) rfl ?_);show wpAny _ _ (seqItems? (.ref l) >>=_) _ _ s;refine wpAny_bind (wpAny_seqItems hol hdl ?_);simp only[Int.toNat_natCast,hx];refine wpAny_bind (wpAny_rule (wpAny_bind (wpAny_setField ho hd (by simp) ?_)))
 show wpAny _ _ (newExc (.type "StopIteration") [] >>=_) _ _ _;refine wpAny_bind ?_;simp only[newExc,newTuple];refine wpAny_bind (wpAny_newObj_type ?_ (by size_fits))
 refine wpAny_bind (m:=firstArgMember _ _) (wpAny_of_eq (a:=Value.none) (by first | rfl | (simp only[firstArgMember];rfl)) ?_);refine wpAny_newObj_type ?_ (by size_fits)
 simp only[raiseNew];refine wpAny_bind (wpAny_handled ?_)
 first | rw[show A.in1.handled=none from hh] | rw[hh]
 exact wpAny_bind (wpAny_pure (wpAny_throw (hE _ _ (((Heap.SameBut.update ..).extBut.push _).push _) ⟨_,Heap.get?_push_size _ rfl,rfl⟩)))
end
theorem BP{prog:Program}{w:World}{A:Around}(hh:A.handled=none)(it l:Addr)(FP:l≠it)(items:Array Value) :
 Draws prog w A it [it,l] items.size (fun i v=>items[i]? =some v) (fun i h=>h.IsTupleIter it l i/\h.IsTuple l items) where
 live:=fun _ _ st=>let⟨o,ho,_⟩:=st.1;⟨o,ho⟩
 frame:=fun _ _ _ st hk=>⟨st.1.at fun o e=>hk it (by simp) o e,Heap.IsTuple.at st.2 fun o e=>hk l (by simp) o e⟩
 item:=fun i s Q E hi st hQ=>mz st.1 st.2 (x:=items[i]) (by simp [hi]) fun h' P_ NR=>hQ _ h' s.toks (by simp [hi]) ⟨P_,st.2.extBut NR.extBut FP⟩ NR
 done:=fun s Q E st hE=>jL hh st.1 st.2 (by simp) hE
theorem rF(l:Addr)(items:Array Value)(o:Obj)(n:Nat)(hc:o.cls= .type "tuple")(hd:o.data= .seq items n) :
 Meets (Builtin.«enumerate.__new__» ⟨[.type "enumerate", .ref l],[]⟩) (fun _ R s=>s.heap.get? l=some o/\
  R (.ok (.ret (.ref (s.heap.push {cls:= .type "tuple_iterator",data:= .fields #[.ref l, .int 0 0]}).objs.size)))
   {s with heap:=(s.heap.push {cls:= .type "tuple_iterator",data:= .fields #[.ref l, .int 0 0]}).push {cls:= .type "enumerate",data:= .fields #[.none, .bool false, .ref s.heap.objs.size,rawInt 0, .none, .none]}}):=
 .of_wp fun prog w A R s h=>by
   obtain⟨hp,g,d,tk,os⟩:=s;obtain⟨hl,h⟩:=h;have hsub:=sub_enumerate;have hL:Heap.IsTuple (Shared.heap ⟨hp,g,d,tk,os⟩) l items:=⟨_,hl,hc,n,hd⟩
   wp_walk using wpAny_loadPart' hl
   refine wpAny_stack_any fun st=>wpAny_pure ?_
   split
   .rename_i c _ _ _ _ _;cases(c==Value.type "enumerate") <;> (wp_walk using wpAny_loadPart' hl,wpAny_pyIter_tuple hL;exact⟨_,rfl,h⟩)
   .wp_walk using wpAny_loadPart' hl,wpAny_pyIter_tuple hL
    exact⟨_,rfl,h⟩
theorem zW{prog:Program}{w:World}{A:Around}{E:Vs}{s:Shared}{l:Addr}{items:Array Value}{Q:Vs}(hL:s.heap.IsTuple l items)
 (h:∀h':Heap,IsEnum h' (s.heap.objs.size+1) s.heap.objs.size 0 .none->h'.IsTupleIter s.heap.objs.size l 0->(∀b o,s.heap.get? b=some o->h'.get? b=some o)->Q (.ref (s.heap.objs.size+1)) {s with heap:=h'}) :
 wpAny (model prog w) A (call (.type "enumerate") [.ref l]) Q E s:=by
 obtain⟨o,hl,hc,n,hd⟩:=hL;refine callType_new F.called_enumerate (by decide) (F.typeCall_enumerate_1 _) (F.newCall_enumerate_1 _) (fun obj=>F.args_object_init_2 obj _) F.entry_enumerate_new (rF l items o n hc hd) ⟨hl,?_⟩
 have hz:(s.heap.push {cls:= .type "tuple_iterator",data:= .fields #[.ref l, .int 0 0]}).objs.size=s.heap.objs.size+1:=Heap.size_push ..;show _/\_;rw [hz];have he:IsEnum ((s.heap.push {cls:= .type "tuple_iterator",data:= .fields #[.ref l, .int 0 0]}).push {cls:= .type "enumerate",data:= .fields #[.none, .bool false, .ref s.heap.objs.size,rawInt 0, .none, .none]}) (s.heap.objs.size+1) s.heap.objs.size 0 .none:=by
  have:=Heap.get?_push_size (s.heap.push {cls:= .type "tuple_iterator",data:= .fields #[.ref l, .int 0 0]}) (o:={cls:= .type "enumerate",data:= .fields #[.none, .bool false, .ref s.heap.objs.size,rawInt 0, .none, .none]}) rfl;rw[hz] at this;exact this
 exact⟨⟨_,he,rfl⟩,h _ he ⟨_,Heap.get?_push_of_some _ (Heap.get?_push_size _ rfl),rfl,rfl⟩ fun b o x=>Heap.get?_push_of_some _ (Heap.get?_push_of_some _ x)⟩
end PySem
namespace L2
open PySem PySem.Spec PyProof.Rows
def OR(K:W.Frag)(a:Addr):It:=
 ⟨fun i H=>∃xs x,rO K H a xs/\xs[i]? =some x,fun i H v H'=>∃p x,H p=none/\v= .ref p/\(∀xs,rO K H a xs->xs[i]? =some x)/\H'=upd H p (.tup [.int i,x]),fun i H=>∃xs,rO K H a xs/\xs.length<=i⟩
theorem zu{K:W.Frag}{k:Nat}(a e it:Addr)(Lx:e≠it):Turn P w K (.Tuple elts k pos) (OR K a) [e,it] e (fun i h=>(∃old,IsEnum h e it ((i:Nat):Int) old)/\h.IsTupleIter it a i) where
 mem:=by simp
 obj:=fun i h st b hb=>by
  obtain⟨⟨old,he⟩,o,ho,c,d⟩:=st;rcases List.mem_cons.mp hb with rfl | hb
  .exact⟨_,he,fun v z=>by cases z⟩
  .have e:b=it:=by simpa using hb
   subst e;exact⟨o,ho,fun v z=>by rw[d] at z;cases z⟩
 keep:=fun i h h' st k=>by
  obtain⟨⟨old,he⟩,hi⟩:=st;exact⟨⟨old,k e (by simp) _ he⟩,hi.at fun o x=>k it (by simp) o x⟩
 item:=by
  intro X hP hw hK hc i pins s σ H E I hf st hg;subst hP hw hK;obtain⟨xs,x,hq,hx⟩:=hg;obtain⟨its,rv,p,hz⟩:=I.tuple hq;have p':s.heap.IsTuple a its.toArray:=p;obtain⟨u,hu,ru⟩:=rv.get hx;obtain⟨⟨old,he⟩,hit⟩:=st;obtain⟨f0,f1,f2,f3,f4,f5⟩:=hf e (by simp)
  obtain⟨g0,g1,g2,g3,g4,g5⟩:=hf it (by simp)
  have ha_it:a≠it:=fun z=>by
   obtain⟨o1,h1,c1,_⟩:=p';obtain⟨o2,h2,c2,_⟩:=hit;rw[z,h2] at h1;cases h1;rw[c2] at c1;exact absurd c1 (by decide)
  have ha_e:e ∉ [it,a]:=fun z=>by
   rcases List.mem_cons.mp z with q | q
   .exact Lx q
   .have q:e=a:=by simpa using q
    obtain⟨o1,h1,c1,_⟩:=p';rw[<-q,he] at h1;cases h1;exact absurd (show Value.type "enumerate"=Value.type "tuple" from c1) (by decide)
  refine wpAny_pyNext_enum_itemD (BP (A:=X.A.in1) (I.ok.hd hc) it a ha_it its.toArray) he ⟨hit,p'⟩ (by have:=(List.getElem?_eq_some_iff.mp hu).1;simpa using this) Lx ha_e fun u2 i4 tk Uo F5 Nh Fx oz vL=>⟨_,rfl,?_⟩
  obtain rfl:u2=u:=by
   have h1:its[i]? =some u2:=by simpa using Uo
   rw[hu] at h1;cases h1;rfl
  obtain⟨Aq,_⟩:=Nh;refine wpAny_letOwnedTupleGo_enum F5 fun gc Fy cY=>?_
  replace cY:Heap.SameBut e i4 gc:=cY
  have hel:e < s.heap.objs.size:=Heap.lt_size he;have yQ:gc.get? s.heap.objs.size=some {cls:= .type "tuple",data:= .seq #[.int i tk,u2]}:=(cY.2 _ (Nat.ne_of_gt hel)).trans Fx;have kk:∀b o,b≠e->b≠it->s.heap.get? b=some o->gc.get? b=some o:=fun b o h1 h2 q=>(cY.2 b h1).trans (vL b o h1 h2 q)
  have hn:H s.heap.objs.size=none:=I.fresh;have sm:aO H (upd H s.heap.objs.size (.tup [.int i,x])):=aW hn;have nit:∀b o,H b=some o->b≠e/\b≠it:=fun b o q=>⟨fun z=>(by rw[z,f0] at q;cases q),fun z=>(by rw[z,g0] at q;cases q)⟩
  have hok:oj X.prog X.w (upd H s.heap.objs.size (.tup [.int i,x])) gc:=fun b ob q=>by
   by_cases hb:b=s.heap.objs.size
   .subst hb;rw[bf] at q;cases q;exact⟨by show 2<=sizeLine;decide,[.int i tk,u2], .cons ⟨_,rfl⟩ (.cons ru .nil),⟨_,yQ,rfl,_,rfl⟩⟩
   .rw [aZ hb] at q;refine(I.hok b ob q).wo (fun c v hc z=>?_) (fun c z=>sm c _ z) fun c ys z=>sm c _ z
    rcases hc with rfl | hc
    .exact kk c v (nit c _ q).1 (nit c _ q).2 z
    .exact kk c v (nit c _ hc).1 (nit c _ hc).2 z
  have nch:∀b,b ∉ [e,it]->b≠e/\b≠it:=fun b hb=>⟨fun z=>hb (by simp [z]),fun z=>hb (by simp [z])⟩
  have I2:Inv X pins σ (upd H s.heap.objs.size (.tup [.int i,x])) {s with heap:=gc,toks:=tk+1}:=by
   refine I.step (g':=s.gens) (d':=s.drawn) (ch:=[e,it]) (fun b hb=>?_) (fun b o _ _ hb q _=>kk b o (nch b hb).1 (nch b hb).2 q) (fun b o _ _ hb q _=>⟨o.slots,kk b o (nch b hb).1 (nch b hb).2 q⟩)
    (fun b o hb q n=>by rw[aZ (Nat.ne_of_lt (Heap.lt_size q))];exact n) (fun b o hb q=>⟨o,kk b o (nch b hb).1 (nch b hb).2 q⟩) (fun b ys z=>sm b _ z) (fun b o u z=>sm b _ z) (fun b ps z=>⟨#[],by rw[sm b _ z];simp⟩) (fun m hm=>?_) hok I.bare
   .rcases List.mem_cons.mp hb with rfl | hb
    .exact⟨f3,f1,f4,f5⟩
    .have z:b=it:=by simpa using hb
     subst z;exact⟨g3,g1,g4,g5⟩
   .obtain⟨o,es,ep,ho,r⟩:=hm;exact⟨o,es,ep,kk _ o (Ne.symm f1) (Ne.symm g1) ho,r⟩
  refine⟨.ref s.heap.objs.size,_,I2,rfl,⟨s.heap.objs.size,x,hn,rfl,fun ys hy=>(by rw[I.qo hy hq];exact hx),rfl⟩,⟨⟨_,by simpa using Fy⟩,Aq.at fun o q=>(cY.2 it (Ne.symm Lx)).trans q⟩,fun b hb=>?_⟩
  rcases List.mem_cons.mp hb with rfl | hb
  .rw [aZ (Nat.ne_of_lt hel)];exact f0
  .have z:b=it:=by simpa using hb
   subst z;obtain⟨o,ho,_⟩:=hit;rw[aZ (Nat.ne_of_lt (Heap.lt_size ho))];exact g0
 done:=by
  intro X hP hw hK hc i pins s σ H E I hf st hg;subst hP hw hK;obtain⟨xs,hq,hx⟩:=hg;obtain⟨its,rv,p,hz⟩:=I.tuple hq;have p':s.heap.IsTuple a its.toArray:=p;obtain⟨⟨old,he⟩,hit⟩:=st;obtain⟨g0,g1,g2,g3,g4,g5⟩:=hf it (by simp)
  have hl:=rv.length;have hT:s.TypeIs (.ref e) "enumerate":=⟨_,he,rfl⟩;unfold pyNext;refine wpAny_bind (wpAny_attempt (wpAny_callSpecial?_slot (name:="__next__") hT F.slot_enumerate_next (wpAny_call_entry F.slot_enumerate_next hT F.entry_enumerate_next ?_ (F.args_enumerate_next_1 _))));show wpAny _ _ (field (.ref e) 2 >>=_) _ _ _;refine wpAny_bind (wpAny_field he rfl (x:= .ref it) rfl ?_);refine wpAny_bind (jL (A:=X.A.in1) (I.ok.hd hc) hit p' (by simp;omega) fun h' x P8 Uz=>?_)
  obtain⟨o,ho,hcl⟩:=Uz;refine wpAny_bind (wpAny_isInstance (T:="StopIteration") (b:=true) ⟨o,ho,hcl⟩ isSubtype_stop ?_);exact wpAny_pure ⟨rfl,I.turned (t':=s.toks) (fun b o hb q=>P8 b o hb q) g0 g1 g3 g4 g5⟩
 self:=fun A i s Q E st h=>let⟨⟨_,he⟩,_⟩:=st;wpAny_pyIter_enum he h
section
variable {X:Cx}
def wm(f:FD):av->R (List D):=fun δ=>(f δ).bind fun d=>match d with | .tup ds=> .ok (cK ds) | _=> .no
theorem zP{elts:List Expr}{k:Nat}{qK:Pos}{p pos:Pos}(h:QD X a f)(hg:Gl X "enumerate")(hm:X.mg "enumerate"=none)(hs:starEach [a] X.env=[(false,eval a X.env)]:=by rfl):zV X (.Tuple elts k qK) (.Call (.Name "enumerate" p) [a] [] pos) (wm f):=by
 refine⟨?_⟩;intro pins s σ H RR I ⟨Z,B,δ,ds,E,hf,q⟩;obtain⟨d,h1,h2⟩:=R.ai hf;have hA:=gd h.1 kM hs pos pins s σ H (fun vs H1=>aO H H1/\∃v,vs=[v]/\Rep X.K B H1 d v) I ⟨Z,B,δ,d,E,h1,fun v H1 s1 r1=>⟨s1,v,rfl,r1⟩⟩
 refine Call_ (mQ I hg hm boot_enumerate (PyProof.Rows.callWith_type1 (eI hA fun us s1 ⟨vs,H1,I1,r1,ss,v,ev,rr⟩=>?_) hs rfl))
 subst ev;obtain⟨u,rfl,ru⟩:=vals1 r1;cases d with
 | tup es=>
   cases h2;obtain⟨b,xs,rfl,l,rs⟩:=Rep.tup.mp rr;cases ru;obtain⟨its,rv,pt,hz⟩:=I1.tuple l.sq;refine zW (items:=its.toArray) pt fun h' he hit kk=>wpAny_pyIter_enum he ?_
   have I2:Inv X pins σ H1 {s1 with heap:=h'}:=I1.kept (t':=s1.toks) kk
   refine⟨s1.heap.objs.size+1,[s1.heap.objs.size+1,s1.heap.objs.size],_,_,H1,rfl,I2,zu b (s1.heap.objs.size+1) s1.heap.objs.size (Nat.succ_ne_self _),⟨⟨_,he⟩,hit⟩,fun c hc=>?_,q _ H1 ss fun B' H' pr=>?_⟩
   .have hle:s1.heap.objs.size<=c:=by
     rcases List.mem_cons.mp hc with z | hc
     .rw [z];exact Nat.le_succ _
     .have z:c=s1.heap.objs.size:=by simpa using hc
      rw[z];exact Nat.le_refl _
    exact I1.tM hle (I1.hok.fresh hle)
   .have l':vJ X.K B' H' b xs:=l.elim (fun z=> .inl ⟨(pr.rd z.2 z.1).2,(pr.rd z.2 z.1).1⟩) .inr
    have rs':=rs.bo pr;refine⟨fun i d hd=>?_,⟨xs,l'.sq,by rw[<-rs.length];unfold cK;simp⟩⟩
    unfold cK at hd;rw[List.getElem?_map,List.getElem?_zipIdx] at hd;cases e:es[i]? with
    | none=>rw [e] at hd;cases hd
    | some d0=>
      rw[e] at hd;have hd:D.tup [.int ((0+i:Nat):Int),d0]=d:=Option.some.inj hd;rw[Nat.zero_add] at hd;obtain⟨x,hx,rx⟩:=rs'.get e;refine⟨⟨xs,x,l'.sq,hx⟩,fun v n5 y Ft=>?_⟩
      obtain⟨p,y,hp,rfl,hy,rfl⟩:=y;refine⟨aW hp,?_⟩;subst hd;have xo:=hy xs l'.sq;rw[hx] at xo;cases xo;refine Rep.tup.mpr ⟨p,_,rfl, .inl ⟨fun ha=>?_, .inl bf⟩,aC.cons (Rep.int.mpr rfl) (aC.cons (rx.same (aW hp)) aC.nil)⟩
      obtain⟨o,ho⟩:=Ft p ha;rw[hp] at ho;cases ho
 | _=>cases h2
end
end L2
end
section
namespace L2
open PySem PySem.Spec PyProof.Rows
section
variable {X:Cx}
abbrev Qx:D->D->R D:=Ic (fun _ j=>decide (0 < j/\j.natAbs.log2 < 9000)) fun i j=>i / j
theorem yy{K:W.Frag}{B:List Addr}{ds:List D}{xs:List V}(r:aC K B H ds xs):∀n:Nat,aC K B H (List.replicate n ds).flatten (List.replicate n xs).flatten
 | 0=>aC.nil
 | n+1=>by rw[List.replicate_succ,List.replicate_succ,List.flatten_cons,List.flatten_cons];exact r.append (yy r n)
def ED(f:av->R (List D))(g:FD):av->R (List D):=fun δ=>(f δ).bind fun ds=>(g δ).bind fun d=>match d with
 | .int k=>R.bH (decide (0<=k/\k < 1000000/\ds.length*k.toNat<=sizeLine)) (.ok (List.replicate k.toNat ds).flatten)
 | _=> .no
theorem Aw{f:av->R (List D)}(ha:QN X a f)(hb:QD X b g):QN X (.BinOp a .Mult b pos) (ED f g):=by
 refine⟨(Ax JP ha.1 hb.1).imp fun σ H Q ⟨Z,B,δ,es,E,hf,q⟩=>?_⟩
 obtain⟨ds,h1,h2⟩:=R.ai hf;obtain⟨d,h3,h4⟩:=R.ai h2;split at h4
 .rename_i k;obtain⟨h5,h6⟩:=R.bh h4;cases h6;obtain⟨k0,k1,k2⟩:=of_decide_eq_true h5;refine⟨Z,B,δ,ds,E,h1,fun a xs H1 s1 n1 e1 r1=>⟨Z,B,δ, .int k,E.same s1,h3,fun v H2 s2 r2=>⟨a,k,xs,rfl,Rep.int.mp r2,s2 a _ e1,by omega,by omega,by rw[<-r1.length];exact k2,fun p hp=>?_⟩⟩⟩
  refine q p _ _ (s1.trans (s2.trans (aW hp))) ((s1.trans s2).free hp) bf ?_;refine(yy r1 k.toNat).bo fun b o e nb=>⟨(s2.trans (aW hp)) b o e,fun hm=>?_⟩
  rcases List.mem_cons.mp hm with z | z
  .rw [z] at e;rw [s2 p _ e] at hp;cases hp
  .exact nb (List.mem_cons_of_mem _ z)
 .cases h4
def DU(ns:List Int):List Int:=ns.mergeSort fun a b=>decide (a<=b)
def NI:List D->R D
 | [.lst ds]=>(match ints? ds with | some ns=>R.bH (decide (ns.length < 64)) (.ok (.lst ((DU ns).map .int))) | none=> .no)
 | _=> .no
theorem getD_in{l:List Int}{i:Nat}(h:i < l.length):l.getD i 0∈l:=by
 have e:l.getD i 0=l[i]:=by simp [h]
 rw[e];exact List.getElem_mem h
theorem fold_min:∀(ns:List Int) (n:Int),ns.foldl min n∈n ::ns/\∀a∈n ::ns,ns.foldl min n<=a
 | [],n=>⟨by simp,fun a ha=>by simp at ha;subst ha;exact Int.le_refl _⟩
 | x ::ns,n=>by
   obtain⟨h1,h2⟩:=fold_min ns (min n x);rw[List.foldl_cons];refine⟨?_,fun a ha=>?_⟩
   .rcases List.mem_cons.mp h1 with z | z
    .rw [z];by_cases hc:n<=x
     .rw [Int.min_eq_left hc];simp
     .rw [Int.min_eq_right (by omega)];simp
    .exact List.mem_cons_of_mem _ (List.mem_cons_of_mem _ z)
   .have hm:=h2 _ List.mem_cons_self;rcases List.mem_cons.mp ha with z | z
    .subst z;omega
    .rcases List.mem_cons.mp z with z | z
     .subst z;omega
     .exact h2 a (List.mem_cons_of_mem _ z)
theorem fold_max:∀(ns:List Int) (n:Int),ns.foldl max n∈n ::ns/\∀a∈n ::ns,a<=ns.foldl max n
 | [],n=>⟨by simp,fun a ha=>by simp at ha;subst ha;exact Int.le_refl _⟩
 | x ::ns,n=>by
   obtain⟨h1,h2⟩:=fold_max ns (max n x);rw[List.foldl_cons];refine⟨?_,fun a ha=>?_⟩
   .rcases List.mem_cons.mp h1 with z | z
    .rw [z];by_cases hc:n<=x
     .rw [Int.max_eq_right hc];simp
     .rw [Int.max_eq_left (by omega)];simp
    .exact List.mem_cons_of_mem _ (List.mem_cons_of_mem _ z)
   .have hm:=h2 _ List.mem_cons_self;rcases List.mem_cons.mp ha with z | z
    .subst z;omega
    .rcases List.mem_cons.mp z with z | z
     .subst z;omega
     .exact h2 a (List.mem_cons_of_mem _ z)
def rA:List D->R D
 | [.lst ds]=>(match ints? ds with | some (n ::ns)=> .ok (.int (ns.foldl min n)) | _=> .no)
 | ds=>Kg ds
def Bg:List D->R D
 | [.lst ds]=>(match ints? ds with | some (n ::ns)=> .ok (.int (ns.foldl max n)) | _=> .no)
 | ds=>Jp ds
theorem z9(hc:X.calm=true):cQ X (.builtin "min") rA:=by
 intro pins s σ H B ds d xs us I hb rx rs hg;unfold rA at hg;split at hg
 .split at hg
  .rename_i es n ns e;cases hg;obtain⟨x,rfl,r⟩:=rs.one;obtain⟨a,ys,rfl,l,r⟩:=Rep.lst.mp r;obtain⟨u,rfl,ru⟩:=vals1 rx;cases ru;obtain⟨its,k,rv,e1,hz⟩:=I.Kv l;rw[dy r e] at rv;obtain⟨ps,rfl,hps⟩:=fO rv;have hl:s.heap.IsList a (intItems ps.toArray):=⟨_,e1,rfl,k,by simp [intItems]⟩
   have hlp:ps.length=ns.length+1:=by have:=congrArg List.length hps;simpa using this
   refine min_intList (I.ok.hd hc) hl (by simp;omega) fun v h' tk hv hk=>?_
   obtain⟨t,rfl⟩:=intItems_at hv;obtain⟨b1,b2⟩:=argBest_lt (numAt ps.toArray) (ps.toArray.size - 1);refine⟨.int _,H,I.kept hk,⟨t,rfl⟩,aO.refl H,Rep.int.mpr ?_⟩;obtain⟨m1,m2⟩:=fold_min ns n;have hge:∀j,j < ps.length->numAt ps.toArray j=(n ::ns).getD j 0:=fun j hj=>by rw[numAt_eq,<-hps]
   have hin:numAt ps.toArray (argBest (fun i j=>decide (numAt ps.toArray i < numAt ps.toArray j)) (ps.toArray.size - 1))∈n ::ns:=by
    rw[hge _ (by simp at b1 ⊢;omega)];exact getD_in (by simp at b1 ⊢;omega)
   have hle:=m2 _ hin;obtain⟨j,hj,ej⟩:=List.getElem_of_mem m1;have hj':j < ns.length+1:=by simpa using hj
   have h3:=b2 j (by simp;omega)
   rw[hge j (by omega)] at h3
   have h4:(n ::ns).getD j 0=ns.foldl min n:=by rw[<-ej,List.getD_eq_getElem?_getD,List.getElem?_eq_getElem hj];rfl
   rw[h4] at h3;congr 1;omega
  .cases hg
 .exact Mq hc pins s σ H B _ d xs us I hb rx rs hg
theorem Jb(hc:X.calm=true):cQ X (.builtin "max") Bg:=by
 intro pins s σ H B ds d xs us I hb rx rs hg;unfold Bg at hg;split at hg
 .split at hg
  .rename_i es n ns e;cases hg;obtain⟨x,rfl,r⟩:=rs.one;obtain⟨a,ys,rfl,l,r⟩:=Rep.lst.mp r;obtain⟨u,rfl,ru⟩:=vals1 rx;cases ru;obtain⟨its,k,rv,e1,hz⟩:=I.Kv l;rw[dy r e] at rv;obtain⟨ps,rfl,hps⟩:=fO rv;have hl:s.heap.IsList a (intItems ps.toArray):=⟨_,e1,rfl,k,by simp [intItems]⟩
   have hlp:ps.length=ns.length+1:=by have:=congrArg List.length hps;simpa using this
   refine max_intList (I.ok.hd hc) hl (by simp;omega) fun v h' tk hv hk=>?_
   obtain⟨t,rfl⟩:=intItems_at hv;obtain⟨b1,b2⟩:=argBest_gt (numAt ps.toArray) (ps.toArray.size - 1);refine⟨.int _,H,I.kept hk,⟨t,rfl⟩,aO.refl H,Rep.int.mpr ?_⟩;obtain⟨m1,m2⟩:=fold_max ns n;have hge:∀j,j < ps.length->numAt ps.toArray j=(n ::ns).getD j 0:=fun j hj=>by rw[numAt_eq,<-hps]
   have hin:numAt ps.toArray (argBest (fun i j=>decide (numAt ps.toArray i > numAt ps.toArray j)) (ps.toArray.size - 1))∈n ::ns:=by
    rw[hge _ (by simp at b1 ⊢;omega)];exact getD_in (by simp at b1 ⊢;omega)
   have hle:=m2 _ hin;obtain⟨j,hj,ej⟩:=List.getElem_of_mem m1;have hj':j < ns.length+1:=by simpa using hj
   have h3:=b2 j (by simp;omega)
   rw[hge j (by omega)] at h3
   have h4:(n ::ns).getD j 0=ns.foldl max n:=by rw[<-ej,List.getD_eq_getElem?_getD,List.getElem?_eq_getElem hj];rfl
   rw[h4] at h3;congr 1;omega
  .cases hg
 .exact MC hc pins s σ H B _ d xs us I hb rx rs hg
end
end L2
namespace L3
open PySem PySem.Spec PyProof.Rows L2
def Al(S:aN):V3->Option (List D)
 | .d (.lst ds)=>some ds
 | .loc k=>er S k
 | _=>none
theorem C3{K:W.Frag}{cl:Vx}{ρ:P3}{S:aN}{v:V3}{x:V}{ds:List D}(w:SW K cl ρ H S)(h:Al S v=some ds)(r:bb K ρ H v x):∃a xs,x= .ref a/\uo K [] H a xs/\aC K ρ.b H ds xs:=by
 unfold Al at h;split at h
 .cases h;unfold bb Rep at r;obtain⟨a,xs,e,l,rs⟩:=r;exact⟨a,xs,e,l.bo (fun b o e _=>⟨e,by simp⟩),rs⟩
 .unfold bb at r;obtain⟨a,a1,rfl⟩:=r;obtain⟨xs,e,rs⟩:=w.ob _ a _ a1 (jx h);exact⟨a,xs,rfl, .inl ⟨by simp, .inl e⟩,rs⟩
 .cases h
section
variable {X:Cx} {cl:Vx}
def KU(fa fb:FX):FX:=fun δ S=>(fa δ S).bind fun a S1=>(fb δ S1).bind fun b S2=>match Al S2 a,Al S2 b with
 | some ds,some es=>R3.bH (decide (ds.length+es.length<=sizeLine)) (.ok (.loc S2.length) (S2++[.lst (ds++es)]))
 | _,_=> .no
theorem Jo(ha:PX X cl a fa)(hb:PX X cl b fb):PX X cl (.BinOp a .Add b pos) (KU fa fb):=⟨(Ax AE ha.1 hb.1).imp fun σ H Q ⟨ρ,S,δ,v,S',E,hf,q⟩=>by
 obtain⟨a,S1,h1,h2⟩:=R3.ai hf;obtain⟨b,S2,h3,h4⟩:=R3.ai h2;split at h4
 .rename_i ds es e1 gb;obtain⟨hl,h5⟩:=R3.bh h4;cases h5;refine⟨ρ,S,δ,a,S1,E,h1,fun u1 cF H1 p1 w1 r1=>⟨cF,S1,δ,b,S2,E.to p1 w1,h3,fun u2 ui H2 p2 w2 r2=>?_⟩⟩
  obtain⟨la,xs,rfl,l1,ID⟩:=C3 w2 e1 (r1.pre p2);obtain⟨lb,ys,rfl,l2,II⟩:=C3 w2 gb r2;refine⟨[],la,lb,xs,ys,rfl,rfl,l1,l2,by rw[<-ID.length,<-II.length];exact of_decide_eq_true hl,fun p hp=>?_⟩
  obtain⟨w3,p3⟩:=w2.new (a:=p) (o:= .lst (ds++es)) (aW (o:= .lst (xs++ys)) hp) hp ⟨xs++ys,bf,(ID.append II).bo (fun b o e nb=>⟨by rw[aZ (cu e hp)];exact e,fun hb=>by
   rcases P3.mem_push hb with z | z
   .exact nb z
   .exact cu e hp z⟩)⟩
  exact q _ _ _ (p1.trans (p2.trans p3)) w3 (by unfold bb;exact⟨p,by show(ui.r++[p])[_]? =_;rw [<-w2.len,List.getElem?_append_right (Nat.le_refl _),Nat.sub_self];rfl,rfl⟩)
 .cases h4⟩
theorem MG{fa fb:FX}{δ:DE}{S:aN}{Q:V3->aN->Prop}(h:W3 (fa δ S) fun a S1=>W3 (fb δ S1) fun b S2=>∃ds es,Al S2 a=some ds/\Al S2 b=some es/\ds.length+es.length<=sizeLine/\Q (.loc S2.length) (S2++[.lst (ds++es)])):W3 (KU fa fb δ S) Q:=
 W3.bind (h.mono fun _ _ h=>W3.bind (h.mono fun _ _ ⟨ds,es,e1,gb,hl,q⟩=>by
  simp only[e1,gb];exact W3.wh (decide_eq_true hl) (W3.ok q)))
def Sw(i:Nat):FZ:=fun δ S=>match jM δ i with
 | none=> .no
 | some k=>(match er S k with | some _=> .ok (.nx δ) (S.set k (.lst [])) | none=> .no)
end
end L3
end
section
namespace L3
open PySem PySem.Spec PyProof.Rows L2
def nA(S:aN)(c k:Nat):Option (List (Str × V3)):=match S[k]? with | some (.ins c' fs)=>(if c'=c then some fs else none) | _=>none
theorem lT{S:aN}{c k:Nat}{fs:List (Str × V3)}(h:nA S c k=some fs):S[k]? =some (.ins c fs):=by
 unfold nA at h;split at h
 .rename_i c' LA e;split at h
  .rename_i hc;cases h;rw [e,hc]
  .cases h
 .cases h
theorem Bc{K:W.Frag}{v:V3}:∀{fs:List (Str × V3)} {ys:List (Str × V)},ys.map (·.1)=fs.map (·.1)->aF K ρ H (fs.map (·.2)) (ys.map (·.2))->fs.lookup f=some v->∃x,ys.lookup f=some x/\bb K ρ H v x
 | [],ys,_,_,h=>by simp at h
 | (g,w) ::fs,[],e,_,_=>by simp at e
 | (g,w) ::fs,(g',y) ::ys,e,r,h=>by
   obtain⟨e1,gb⟩:=List.cons.inj e;have e1:g'=g:=e1;subst e1;obtain⟨x,xs,ex,r1,r2⟩:=r.cc;cases ex;rw[List.lookup_cons] at h ⊢;cases hq:f==g' with
   | true=>rw [hq] at h;cases h;exact⟨y,rfl,r1⟩
   | false=>rw [hq] at h;exact Bc gb r2 h
theorem yB:∀{fs:List (Str × V3)} {ys:List (Str × V)},ys.map (·.1)=fs.map (·.1)->fs.lookup f=none->ys.lookup f=none
 | [],[],_,_=>rfl
 | [],_ ::_,e,_=>by simp at e
 | _ ::_,[],e,_=>by simp at e
 | (g,w) ::fs,(g',y) ::ys,e,h=>by
   obtain⟨e1,gb⟩:=List.cons.inj e;have e1:g'=g:=e1;subst e1;rw[List.lookup_cons] at h ⊢;cases hq:f==g' with
   | true=>rw [hq] at h;cases h
   | false=>rw [hq] at h;exact yB gb h
def yt(f:Str)(v:V3):List (Str × V3)->List (Str × V3)
 | []=>[(f,v)]
 | (g,x) ::r=>if g=f then(g,v) ::r else(g,x) ::yt f v r
theorem A3{K:W.Frag}{f:Str}{v:V3}{u:V}(rv:bb K ρ H v u):∀{fs:List (Str × V3)} {ys:List (Str × V)},ys.map (·.1)=fs.map (·.1)->aF K ρ H (fs.map (·.2)) (ys.map (·.2))->
 (kE f u ys).map (·.1)=(yt f v fs).map (·.1)/\aF K ρ H ((yt f v fs).map (·.2)) ((kE f u ys).map (·.2))
 | [],[],_,_=>⟨rfl,aF.cons rv aF.nil⟩
 | [],_ ::_,e,_=>by simp at e
 | _ ::_,[],e,_=>by simp at e
 | (g,w) ::fs,(g',y) ::ys,e,r=>by
   obtain⟨e1,gb⟩:=List.cons.inj e;have e1:g'=g:=e1;subst e1;obtain⟨x,xs,ex,r1,r2⟩:=r.cc;cases ex;unfold yt kE;by_cases hg:g'=f
   .rw [if_pos hg,if_pos hg];exact⟨by rw[List.map_cons,List.map_cons,gb],aF.cons rv r2⟩
   .rw [if_neg hg,if_neg hg];obtain⟨h1,h2⟩:=A3 rv gb r2;exact⟨by rw[List.map_cons,List.map_cons,h1],aF.cons r1 h2⟩
section
variable {X:Cx} {cl:Vx}
def mH(c:Nat)(f:Str)(g:FX):FX:=fun δ S=>(g δ S).bind fun v S1=>match v with
 | .loc k=>(match nA S1 c k with | some fs=>(match fs.lookup f with | some v=> .ok v S1 | none=> .no) | none=> .no)
 | _=> .no
theorem fw{c:Nat}{pos:Pos}(hC:xn X.K (cl c))(hn:dr X.K (cl c) f)(he:PX X cl e g)(hb:attributeBase e f X.env (eval e X.env)=eval e X.env:=by rfl):PX X cl (.Attribute e f pos) (mH c f g):=⟨(Kx he.1 hb).imp fun σ H Q ⟨ρ,S,δ,v,S',E,hf,q⟩=>by
 obtain⟨o,S1,h1,h2⟩:=R3.ai hf;split at h2
 .rename_i k;split at h2
  .rename_i fs e1;split at h2
   .rename_i w gb;cases h2;refine⟨ρ,S,δ, .loc k,_,E,h1,fun u cF H1 p1 w1 r1=>?_⟩
    unfold bb at r1;obtain⟨a,a1,rfl⟩:=r1;obtain⟨dx,ys,ey,ek,rs⟩:=w1.ob k a _ a1 (lT e1);obtain⟨x,hx,rx⟩:=Bc ek rs gb;exact⟨a,cl c,dx,ys,x,rfl,ey,hC,hn,hx,q x cF H1 p1 w1 rx⟩
   .cases h2
  .cases h2
 .cases h2⟩
theorem w_fld{c k:Nat}{g:FX}{δ:DE}{S:aN}{Q:V3->aN->Prop}(h:W3 (g δ S) fun v S1=>∃fs w,v= .loc k/\S1[k]? =some (.ins c fs)/\fs.lookup f=some w/\Q w S1):W3 (mH c f g δ S) Q:=
 W3.bind (h.mono fun v S1 ⟨fs,w,e1,gb,e3,q⟩=>by
  subst e1;have e4:nA S1 c k=some fs:=by unfold nA;simp only[gb,if_true]
  simp only[e4,e3];exact W3.ok q)
def gH(P:Program)(w:World)(K:W.Frag)(mg:Vw)(base:Heap)(cl:Vx)(k c:Nat)(m:Str)(n:Nat)(g:List V3->aN->R3 V3):Prop:=
 ∃(f:Addr) (fd:FuncData) (ps:List Str),xn K (cl c)/\Meth K (cl c) m f/\jg P w K mg base uI k f fd ps (Fo K cl (n+1) g)/\Binds K fd ps []
def ko(c:Nat)(m:Str)(g:List V3->aN->R3 V3)(fo:FX)(fs:FA):FX:=fun δ S=>(fo δ S).bind fun o S1=>match o with
 | .loc k=>(match nA S1 c k with | some ys=>(match ys.lookup m with | none=>(fs δ S1).bind fun vs S2=>g (.loc k ::vs) S2 | some _=> .no) | none=> .no)
 | _=> .no
theorem fT{g:List V3->aN->R3 V3}{k j n c:Nat}{m:Str}{o e:Expr}{es:List Expr}{fo:FX}{fs:FA}{apos pos:Pos}{pl:Sem Bool}(M:gH X.prog X.w X.K X.mg X.base cl k c m n g)(hr:eV j X.A)(CT:k<=j)(ho:PX X cl o fo)(ha:GU X cl (e ::es) fs)(hn:∀δ S ds S',fs δ S= .ok ds S'->ds.length=n)
 (FH:starEach (e ::es) X.env=(false,eval e X.env) ::starEach es X.env:=by rfl) (mJ:(backTo pos (starEach es X.env)).any (·.1)=false:=by rfl)
 (ht:eval (.Call (.Attribute o m apos) (e ::es) [] pos) X.env=(do
   let ov <-eval o X.env
   standAt apos.atName
   let(f,first) <-holding [ov] (getMethod ov m pl)
   callWith pos f first (backTo pos (starEach (e ::es) X.env)) (backToKw pos (keywordEach [] X.env))):=by rfl) :
 PX X cl (.Call (.Attribute o m apos) (e ::es) [] pos) (ko c m g fo fs):=by
 obtain⟨f,fd,ps,hC,hm,F,hb⟩:=M;refine⟨(G9 ho.1 hC hm F (hr.mono CT) hb .nil xO ha.1 FH mJ ht).imp fun σ H Q ⟨ρ,S,δ,v,S',E,hf,q⟩=>?_⟩
 obtain⟨ov,S1,h1,h2⟩:=R3.ai hf;split at h2
 .rename_i kk;split at h2
  .rename_i ys e1;split at h2
   .rename_i gb;obtain⟨vs,S2,h3,h4⟩:=R3.ai h2;refine⟨ρ,S,δ, .loc kk,S1,E,h1,fun u cF H1 p1 w1 r1=>?_⟩
    have vM:=r1;unfold bb at r1;obtain⟨a,a1,rfl⟩:=r1;obtain⟨dx,zs,ey,ek,rs⟩:=w1.ob kk a _ a1 (lT e1);refine⟨a,dx,zs,rfl,ey,yB ek gb,cF,S1,δ,vs,S2,E.to p1 w1,h3,fun us ui H2 p2 w2 r2=>?_⟩
    show Fo X.K cl (n+1) g (V.ref a ::(us++[])) H2 Q E0;rw[List.append_nil];exact⟨by rw[List.length_cons,<-r2.length,hn δ S1 vs S2 h3],ui,S2, .loc kk ::vs,v,S',w2,aF.cons (vM.pre p2) r2,h4,fun z Lf H3 p3 w3 r3=>q z Lf H3 (p1.trans (p2.trans p3)) w3 r3⟩
   .cases h2
  .cases h2
 .cases h2
def rp(P:Program)(w:World)(K:W.Frag)(mg:Vw)(base:Heap)(cl:Vx)(k c:Nat)(x:Str)(n:Nat)(g:List V3->aN->R3 V3):Prop:=
 ∃(f:Addr) (fd:FuncData) (ps:List Str),Mk K (cl c) f/\jg P w K mg base uI k f fd ps (Fo K cl (n+1) g)/\mg x=some (.ref (cl c))/\Binds K fd ps []
def ua(c:Nat)(g:List V3->aN->R3 V3)(fs:FA):FX:=fun δ S=>(fs δ S).bind fun vs S1=>(g (.loc S1.length ::vs) (S1++[.ins c []])).bind fun v S2=>match v with
 | .d .cn=> .ok (.loc S1.length) S2
 | _=> .no
theorem pU{g:List V3->aN->R3 V3}{k j n c:Nat}{x:Str}{p pos:Pos}{e:Expr}{es:List Expr}{fs:FA}(M:rp X.prog X.w X.K X.mg X.base cl k c x n g)(hr:eV j X.A)(CT:k+1<=j)(hg:Gl X x)(ha:GU X cl (e ::es) fs)(hn:∀δ S ds S',fs δ S= .ok ds S'->ds.length=n)
 (qj:(x==("__debug__":Str))=false:=by decide) (he:starEach (e ::es) X.env=(false,eval e X.env) ::starEach es X.env:=by rfl) (mJ:(backTo pos (starEach es X.env)).any (·.1)=false:=by rfl) :
 PX X cl (.Call (.Name x p) (e ::es) [] pos) (ua c g fs):=by
 obtain⟨f,fd,ps,M,F,hm,hb⟩:=M;refine⟨(Gd M F (hr.mono CT) hg hm hb .nil xO ha.1 qj he mJ).imp fun σ H Q ⟨ρ,S,δ,v,S',E,hf,q⟩=>?_⟩
 obtain⟨vs,S1,h1,h2⟩:=R3.ai hf;obtain⟨v0,S2,h3,h4⟩:=R3.ai h2;split at h4
 .cases h4;refine⟨ρ,S,δ,vs,S1,E,h1,fun us cF H1 p1 w1 r1 xa dx hx Uj FP=>?_⟩
  have hx1:upd H1 dx (.own xa) xa=none:=by rw[aZ (fun z=>FP z.symm)];exact hx
  have sm:aO H1 (upd (upd H1 dx (.own xa)) xa (.ins (cl c) dx [])):=(aW Uj).trans (aW hx1);obtain⟨w2,p2⟩:=w1.new (a:=xa) (o:= .ins c []) sm hx ⟨dx,[],bf,rfl,aF.nil⟩;show Fo X.K cl (n+1) g (V.ref xa ::(us++[])) _ _ E0;rw[List.append_nil];have rl:bb X.K (cF.push xa) (upd (upd H1 dx (.own xa)) xa (.ins (cl c) dx [])) (.loc S1.length) (.ref xa):=by
   unfold bb;exact⟨xa,by show(cF.r++[xa])[_]? =_;rw [<-w1.len,List.getElem?_append_right (Nat.le_refl _),Nat.sub_self];rfl,rfl⟩
  exact⟨by rw[List.length_cons,<-r1.length,hn δ S vs S1 h1],_,_, .loc S1.length ::vs, .d .cn,_,w2,aF.cons rl (r1.pre p2),h3,fun z Lf H3 p3 w3 r3=>⟨by unfold bb Rep at r3;exact r3,q _ Lf H3 (p1.trans (p2.trans p3)) w3 (rl.pre p3)⟩⟩
 .cases h4
def wk(c:Nat)(f:Str)(fo fe:FX):FZ:=fun δ S=>(fe δ S).bind fun v S1=>(fo δ S1).bind fun o S2=>match o with
 | .loc k=>(match nA S2 c k with | some fs=>R3.bH (decide (fs.length < 1000)) (.ok (.nx δ) (S2.set k (.ins c (yt f v fs)))) | none=> .no)
 | _=> .no
theorem oW{c:Nat}{pos pos':Pos}(hC:xn X.K (cl c))(hn:dr X.K (cl c) f)(ho:PX X cl o fo)(he:PX X cl value fe)(hs:swapsWith value (some (.Attribute o f pos')) pos.line X.env=pure false:=by rfl) :
 PZ X cl (.Assign [.Attribute o f pos'] value pos) (wk c f fo fe):=⟨(JL ho.1 he.1 hs).imp fun D σ H ⟨ρ,S,δ,ou,S',E,hf,q⟩=>by
 obtain⟨v,S1,h1,h2⟩:=R3.ai hf;obtain⟨vo,S2,h3,h4⟩:=R3.ai h2;split at h4
 .rename_i k;split at h4
  .rename_i fs e1;obtain⟨hl,h5⟩:=R3.bh h4;cases h5;refine⟨ρ,S,δ,v,S1,E,h1,fun u cF H1 p1 w1 r1=>⟨cF,S1,δ, .loc k,S2,E.to p1 w1,h3,fun u2 ui H2 p2 w2 r2=>?_⟩⟩
   unfold bb at r2;obtain⟨a,a1,rfl⟩:=r2;obtain⟨dx,ys,ey,ek,rs⟩:=w2.ob k a _ a1 (lT e1);have hlen:ys.length=fs.length:=by have:=congrArg List.length ek;simpa using this
   obtain⟨k1,k2⟩:=A3 (f:=f) (r1.pre p2) ek rs;obtain⟨w3,p3⟩:=w2.put (o:= .ins c (yt f v fs)) (u:= .ins (cl c) dx (kE f u ys)) a1 (w2.fz k a a1 (by rw[lT e1];intro h;cases h)) ⟨dx,_,rfl,k1,k2⟩
   exact⟨a,cl c,dx,ys,rfl,ey,hC,hn,by rw[hlen];exact of_decide_eq_true hl,q σ ui _ (p1.trans (p2.trans p3)) (E.to (p1.trans (p2.trans p3)) w3)⟩
  .cases h4
 .cases h4⟩
theorem jt{c k:Nat}{fo fe:FX}{δ:DE}{S:aN}{QO:Ou->aN->Prop}(h:W3 (fe δ S) fun v S1=>W3 (fo δ S1) fun o S2=>∃fs,o= .loc k/\S2[k]? =some (.ins c fs)/\fs.length < 1000/\QO (.nx δ) (S2.set k (.ins c (yt f v fs)))):W3 (wk c f fo fe δ S) QO:=
 W3.bind (h.mono fun v S1 h=>W3.bind (h.mono fun o S2 ⟨fs,e1,gb,hl,q⟩=>by
  subst e1;have e4:nA S2 c k=some fs:=by unfold nA;simp only[gb,if_true]
  simp only[e4];exact W3.wh (decide_eq_true hl) (W3.ok q)))
theorem iW{c k:Nat}{g:List V3->aN->R3 V3}{fo:FX}{fs:FA}{δ:DE}{S:aN}{Q:V3->aN->Prop}(h:W3 (fo δ S) fun o S1=>∃ys,o= .loc k/\S1[k]? =some (.ins c ys)/\ys.lookup m=none/\W3 (fs δ S1) fun vs S2=>W3 (g (.loc k ::vs) S2) Q):W3 (ko c m g fo fs δ S) Q:=
 W3.bind (h.mono fun o S1 ⟨ys,e1,gb,e3,h⟩=>by
  subst e1;have e4:nA S1 c k=some ys:=by unfold nA;simp only[gb,if_true]
  simp only[e4,e3];exact W3.bind h)
theorem sk{c:Nat}{g:List V3->aN->R3 V3}{fs:FA}{δ:DE}{S:aN}{Q:V3->aN->Prop}(h:W3 (fs δ S) fun vs S1=>W3 (g (.loc S1.length ::vs) (S1++[.ins c []])) fun v S2=>v= .d .cn/\Q (.loc S1.length) S2):W3 (ua c g fs δ S) Q:=
 W3.bind (h.mono fun vs S1 h=>W3.bind (h.mono fun v S2 ⟨e,q⟩=>by subst e;exact W3.ok q))
end
end L3
end
section
namespace PySem
open Sem (wp)
def gm(t:Bool)(h:Heap)(i l:Addr)(k:Nat):Prop:=cond t (h.IsTupleIter i l k) (h.IsListIter i l k)
def j_(t:Bool)(h:Heap)(l:Addr)(xs:Array Value):Prop:=cond t (h.IsTuple l xs) (h.IsList l xs)
def ud(t:Bool):String:=cond t "tuple_iterator" "list_iterator"
theorem gm.at{t:Bool}{h h':Heap}{i l:Addr}{k:Nat}(x:gm t h i l k)(e:∀o,h.get? i=some o->h'.get? i=some o):gm t h' i l k:=by
 cases t with
 | true=>exact Heap.IsTupleIter.at x e
 | false=>exact Heap.IsListIter.at x e
theorem j_.at{t:Bool}{h h':Heap}{l:Addr}{xs:Array Value}(x:j_ t h l xs)(e:∀o,h.get? l=some o->h'.get? l=some o):j_ t h' l xs:=by
 cases t with
 | true=>exact Heap.IsTuple.at x e
 | false=>exact Heap.IsList.at x e
theorem gm.xb{t:Bool}{i l b:Addr}{k:Nat}(x:gm t h i l k)(hs:Heap.ExtBut b h h')(P9:i≠b):gm t h' i l k:=x.at fun o e=>hs i o P9 e
theorem j_.xb{t:Bool}{l b:Addr}{xs:Array Value}(x:j_ t h l xs)(hs:Heap.ExtBut b h h')(P9:l≠b):j_ t h' l xs:=x.at fun o e=>hs l o P9 e
theorem gm.ob{t:Bool}{h:Heap}{i l:Addr}{k:Nat}(x:gm t h i l k):∃o,h.get? i=some o/\∀v,o.data≠ .cell v:=by
 cases t with
 | true=>obtain⟨o,e,_,d⟩:=x;exact⟨o,e,fun v z=>by rw[d] at z;cases z⟩
 | false=>obtain⟨o,e,_,d⟩:=x;exact⟨o,e,fun v z=>by rw[d] at z;cases z⟩
theorem j_.lt{t:Bool}{h:Heap}{l:Addr}{xs:Array Value}(x:j_ t h l xs):l < h.objs.size:=by
 cases t with
 | true=>obtain⟨o,e,_⟩:=x;exact Heap.lt_size e
 | false=>obtain⟨o,e,_⟩:=x;exact Heap.lt_size e
theorem gm.lt{t:Bool}{h:Heap}{i l:Addr}{k:Nat}(x:gm t h i l k):i < h.objs.size:=let⟨_,e,_⟩:=x.ob;Heap.lt_size e
section
variable {prog:Program} {w:World} {A:Around} {E:Vs} {s:Shared}
theorem jK{t:Bool}{it l:Addr}{i:Nat}{items:Array Value}{x:Value}{Q:Vs}(hit:gm t s.heap it l i)(hl:j_ t s.heap l items)(hx:items[i]? =some x)
 (hQ:∀h',gm t h' it l (i+1)->Heap.SameBut it s.heap h'->Q x {s with heap:=h'}):wpAny (model prog w) A (Builtin.SmallTypes.nextOf (.ref it)) Q E s:=by
 cases t with
 | true=>exact mz hit hl hx hQ
 | false=>exact wpAny_nextOf_list_item hit hl hx hQ
theorem ox{t:Bool}{it l:Addr}{i:Nat}{items:Array Value}{Q:Vs}(hh:A.handled=none)(hit:gm t s.heap it l i)(hl:j_ t s.heap l items)(hx:items[i]? =none)
 (hE:∀h' e,Heap.ExtBut it s.heap h'->(∃o,h'.get? e=some o/\o.cls= .type "StopIteration")->E (.ref e) {s with heap:=h'}):wpAny (model prog w) A (Builtin.SmallTypes.nextOf (.ref it)) Q E s:=by
 cases t with
 | true=>exact jL hh hit hl hx hE
 | false=>exact wpAny_nextOf_list_end hh hit hl hx hE
theorem uX{t:Bool}{l:Addr}{items:Array Value}{Q:Vs}(hl:j_ t s.heap l items)
 (hQ:Q (.ref s.heap.objs.size) {s with heap:=s.heap.push {cls:= .type (ud t),data:= .fields #[.ref l, .int 0 0]}}):wpAny (model prog w) A (pyIter (.ref l)) Q E s:=by
 cases t with
 | true=>exact wpAny_pyIter_tuple hl hQ
 | false=>exact wpAny_pyIter_list hl hQ
theorem Cw{t u:Bool}{z TI TO i1 i2 l1 l2:Addr}{k1 k2:Nat}{xs ys:Array Value}{x y a b:Value}{Q:Vs}(D:ZipApart z TI TO i1 i2 l1 l2)(hz:IsZip s.heap z TI TO .none)(yO:IsPair s.heap TI (.ref i1) (.ref i2))
 (yS:IsPair s.heap TO a b) (h1:gm t s.heap i1 l1 k1) (h2:gm u s.heap i2 l2 k2) (F6:j_ t s.heap l1 xs) (Lg:j_ u s.heap l2 ys) (hx:xs[k1]? =some x) (hy:ys[k2]? =some y)
 (hQ:∀h',IsZip h' z TI TO (rawInt s.heap.objs.size)->IsPair h' TO x y->gm t h' i1 l1 (k1+1)->gm u h' i2 l2 (k2+1)->IsPair h' s.heap.objs.size x y->h'.objs.size=s.heap.objs.size+1->(∀c o,c≠z->c≠TO->c≠i1->c≠i2->s.heap.get? c=some o->h'.get? c=some o)->Q (.ref s.heap.objs.size) {s with heap:=h'}) :
 wpAny (model prog w) A (Builtin.«zip.__next__» ⟨[.ref z],[]⟩) (fun fin s'=>∃v,fin= .done (.ret v)/\Q v s') E s:=by
 show wpAny _ _ (field (.ref z) 2 >>=_) _ _ _;refine wpAny_bind (wpAny_field hz rfl (x:= .bool false) rfl ?_);show wpAny _ _ (field (.ref z) 3 >>=_) _ _ _;refine wpAny_bind (wpAny_field hz rfl (x:= .ref TI) rfl ?_);refine wpAny_bind (wpAny_seqItems yO rfl ?_);show wpAny _ _ (Builtin.SmallTypes.ownedTupleIsFree (.ref z) >>=_) _ _ _;refine wpAny_bind ?_;unfold Builtin.SmallTypes.ownedTupleIsFree;refine wpAny_bind (wpAny_field hz rfl (x:= .none) rfl (wpAny_pure ?_));simp only[if_true];refine wpAny_bind (wpAny_rule ?_);refine wpAny_bind (wpAny_field hz rfl (x:= .ref TO) rfl ?_);refine wpAny_bind (wpAny_setField_rec hz (by simp) fun i4 oz iQ=>?_)
 replace oz:IsZip i4 z TI TO .ellipsis:=oz;refine wpAny_bind ?_;simp only[List.zipIdx_cons,List.zipIdx_nil,List.forIn_cons,List.forIn_nil]
 refine wpAny_bind (wpAny_bind (wpAny_onRaise ?_));show wpAny _ _ (Builtin.SmallTypes.nextOf (.ref i1) >>=_) _ _ _;refine wpAny_bind (jK (h1.xb iQ.extBut D.i1z) (F6.xb iQ.extBut D.l1z) hx fun gc IH cY=>wpAny_pure ?_)
 have hTO₂:IsPair gc TO a b:=cY.extBut _ _ D.TOi1 (iQ.extBut _ _ D.TOz yS);refine wpAny_bind (wpAny_seqItems hTO₂ rfl ?_);refine wpAny_bind (wpAny_updateSeq_pair hTO₂ fun HS w9 kC=>?_)
 replace w9:IsPair HS TO x b:=w9;refine wpAny_bind (wpAny_letGo (wpAny_pure ?_));refine wpAny_bind (wpAny_bind (wpAny_onRaise ?_));show wpAny _ _ (Builtin.SmallTypes.nextOf (.ref i2) >>=_) _ _ _
 refine wpAny_bind (jK (((h2.xb iQ.extBut D.i2z).xb cY.extBut D.i12.symm).xb kC.extBut D.TOi2.symm) (((Lg.xb iQ.extBut D.l2z).xb cY.extBut D.l2i1).xb kC.extBut D.l2TO) hy fun Li Nn rC=>wpAny_pure ?_)
 have hTO₄:IsPair Li TO x b:=rC.extBut _ _ D.TOi2 w9;refine wpAny_bind (wpAny_seqItems hTO₄ rfl ?_);refine wpAny_bind (wpAny_updateSeq_pair hTO₄ fun n9 xh rD=>?_)
 replace xh:IsPair n9 TO x y:=xh;refine wpAny_bind (wpAny_letGo (wpAny_pure (wpAny_pure ?_)));refine wpAny_bind (wpAny_seqItems xh rfl ?_);refine wpAny_bind (wpAny_newTuple ?_)
 have IC:n9.objs.size=s.heap.objs.size:=(rD.1.trans (rC.1.trans (kC.1.trans (cY.1.trans iQ.1))));have hz₅:IsZip n9 z TI TO .ellipsis:=rD.extBut _ _ D.TOz.symm <| rC.extBut _ _ D.i2z.symm <| kC.extBut _ _ D.TOz.symm <| cY.extBut _ _ D.i1z.symm oz
 have hk₅:∀c o,c≠z->c≠TO->c≠i1->c≠i2->s.heap.get? c=some o->n9.get? c=some o:=fun c o c1 c2 c3 c4 e=>rD.extBut _ _ c2 <| rC.extBut _ _ c4 <| kC.extBut _ _ c2 <| cY.extBut _ _ c3 <| iQ.extBut _ _ c1 e
 have h1₅:gm t n9 i1 l1 (k1+1):=((IH.xb kC.extBut D.TOi1.symm).xb rC.extBut D.i12).xb rD.extBut D.TOi1.symm;have h2₅:gm u n9 i2 l2 (k2+1):=Nn.xb rD.extBut D.TOi2.symm;have hzlt:=Heap.lt_size hz₅;show wpAny _ _ (Builtin.SmallTypes.ownedTupleHandOut (.ref z) (.ref n9.objs.size) >>=_) _ _ _;refine wpAny_bind ?_;unfold Builtin.SmallTypes.ownedTupleHandOut;have hz₆:IsZip (n9.push {cls:= .type "tuple",data:= .seq #[x,y]}) z TI TO .ellipsis:=Heap.get?_push_of_some _ hz₅;refine wpAny_bind (wpAny_setField_rec hz₆ (by simp) fun Pm FF FJ=>?_)
 replace FF:IsZip Pm z TI TO (rawInt n9.objs.size):=FF;refine wpAny_setField_rec FF (by simp) fun FN By Fu=>?_;replace By:IsZip FN z TI TO (rawInt n9.objs.size):=By
 have up:∀c o,c≠z->n9.get? c=some o->FN.get? c=some o:=fun c o c1 e=>Fu.extBut _ _ c1 <| FJ.extBut _ _ c1 (Heap.get?_push_of_some _ e)
 have hT₈:IsPair FN n9.objs.size x y:=Fu.extBut _ _ (Nat.ne_of_gt hzlt) <| FJ.extBut _ _ (Nat.ne_of_gt hzlt) (Heap.get?_push_size _ rfl)
 have hz8:FN.objs.size=n9.objs.size+1:=(Fu.1.trans FJ.1).trans (Heap.size_push ..);rw[IC] at By hT₈ hz8;refine wpAny_pure ⟨_,rfl,?_⟩;show Q (.ref n9.objs.size) _;rw [IC];exact hQ FN By (up _ _ D.TOz xh) (h1₅.at fun o e=>up _ o D.i1z e) (h2₅.at fun o e=>up _ o D.i2z e) hT₈ hz8 fun c o c1 c2 c3 c4 e=>up c o c1 (hk₅ c o c1 c2 c3 c4 e)
theorem EM{t u:Bool}{z TI TO i1 i2 l1 l2:Addr}{k1 k2:Nat}{xs ys:Array Value}{a b:Value}{Q:Fin->Shared->Prop}(hh:A.handled=none)(D:ZipApart z TI TO i1 i2 l1 l2)(hz:IsZip s.heap z TI TO .none)
 (yO:IsPair s.heap TI (.ref i1) (.ref i2)) (yS:IsPair s.heap TO a b) (h1:gm t s.heap i1 l1 k1) (h2:gm u s.heap i2 l2 k2) (F6:j_ t s.heap l1 xs) (Lg:j_ u s.heap l2 ys) (Pz:xs[k1]? =none\/ys[k2]? =none)
 (hE:∀h' e,(∀c o,c≠z->c≠TO->c≠i1->c≠i2->s.heap.get? c=some o->h'.get? c=some o)->(∃o,h'.get? e=some o/\o.cls= .type "StopIteration")->E (.ref e) {s with heap:=h'}):wpAny (model prog w) A (Builtin.«zip.__next__» ⟨[.ref z],[]⟩) Q E s:=by
 show wpAny _ _ (field (.ref z) 2 >>=_) _ _ _;refine wpAny_bind (wpAny_field hz rfl (x:= .bool false) rfl ?_);show wpAny _ _ (field (.ref z) 3 >>=_) _ _ _;refine wpAny_bind (wpAny_field hz rfl (x:= .ref TI) rfl ?_);refine wpAny_bind (wpAny_seqItems yO rfl ?_);show wpAny _ _ (Builtin.SmallTypes.ownedTupleIsFree (.ref z) >>=_) _ _ _;refine wpAny_bind ?_;unfold Builtin.SmallTypes.ownedTupleIsFree;refine wpAny_bind (wpAny_field hz rfl (x:= .none) rfl (wpAny_pure ?_));simp only[if_true];refine wpAny_bind (wpAny_rule ?_);refine wpAny_bind (wpAny_field hz rfl (x:= .ref TO) rfl ?_);refine wpAny_bind (wpAny_setField_rec hz (by simp) fun i4 oz iQ=>?_)
 replace oz:IsZip i4 z TI TO .ellipsis:=oz;refine wpAny_bind ?_;simp only[List.zipIdx_cons,List.zipIdx_nil,List.forIn_cons,List.forIn_nil]
 refine wpAny_bind (wpAny_bind (wpAny_onRaise ?_));show wpAny _ _ (Builtin.SmallTypes.nextOf (.ref i1) >>=_) _ _ _;cases hx:xs[k1]? with
 | none=>
   refine wpAny_bind (ox hh (h1.xb iQ.extBut D.i1z) (F6.xb iQ.extBut D.l1z) hx fun gc e cY he=>?_)
   obtain⟨oe,hoe,hce⟩:=he;have Bz:IsZip gc z TI TO .ellipsis:=cY _ _ D.i1z.symm oz;have hez:e≠z:=fun x=>by {subst x;rw [Bz] at hoe;cases hoe;simp at hce}
   exact wpAny_setField_rec Bz (by simp) fun HS _ kC=>hE HS e (fun c o c1 _ c3 _ x=>kC.extBut _ _ c1 <| cY _ _ c3 <| iQ.extBut _ _ c1 x) ⟨oe,kC.extBut _ _ hez hoe,hce⟩
 | some x=>
   have hy:ys[k2]? =none:=Pz.resolve_left fun h=>by {rw [hx] at h;cases h}
   refine wpAny_bind (jK (h1.xb iQ.extBut D.i1z) (F6.xb iQ.extBut D.l1z) hx fun gc IH cY=>wpAny_pure ?_)
   have hTO₂:IsPair gc TO a b:=cY.extBut _ _ D.TOi1 (iQ.extBut _ _ D.TOz yS);refine wpAny_bind (wpAny_seqItems hTO₂ rfl ?_);refine wpAny_bind (wpAny_updateSeq_pair hTO₂ fun HS w9 kC=>?_)
   refine wpAny_bind (wpAny_letGo (wpAny_pure ?_));refine wpAny_bind (wpAny_bind (wpAny_onRaise ?_));show wpAny _ _ (Builtin.SmallTypes.nextOf (.ref i2) >>=_) _ _ _;refine wpAny_bind (ox hh (((h2.xb iQ.extBut D.i2z).xb cY.extBut D.i12.symm).xb kC.extBut D.TOi2.symm) (((Lg.xb iQ.extBut D.l2z).xb cY.extBut D.l2i1).xb kC.extBut D.l2TO) hy fun Li e rC he=>?_)
   obtain⟨oe,hoe,hce⟩:=he;have hz₄:IsZip Li z TI TO .ellipsis:=rC _ _ D.i2z.symm <| kC.extBut _ _ D.TOz.symm <| cY.extBut _ _ D.i1z.symm oz
   have hez:e≠z:=fun x=>by {subst x;rw [hz₄] at hoe;cases hoe;simp at hce}
   exact wpAny_setField_rec hz₄ (by simp) fun n9 _ rD=>hE n9 e (fun c o c1 c2 c3 c4 x=>rD.extBut _ _ c1 <| rC _ _ c4 <| kC.extBut _ _ c2 <| cY.extBut _ _ c3 <| iQ.extBut _ _ c1 x) ⟨oe,rD.extBut _ _ hez hoe,hce⟩
end
abbrev Nz(t:Bool)(h:Heap)(l1:Addr):Heap:=h.push {cls:= .type (ud t),data:= .fields #[.ref l1, .int 0 0]}
abbrev Nu(t u:Bool)(h:Heap)(l1 l2:Addr):Heap:=(Nz t h l1).push {cls:= .type (ud u),data:= .fields #[.ref l2, .int 0 0]}
abbrev Nr(t u:Bool)(h:Heap)(l1 l2:Addr):Heap:=(Nu t u h l1 l2).push {cls:= .type "tuple",data:= .seq #[.ref h.objs.size, .ref (Nz t h l1).objs.size]}
abbrev Nx(t u:Bool)(h:Heap)(l1 l2:Addr):Heap:=(Nr t u h l1 l2).push {cls:= .type "tuple",data:= .seq #[.none, .none]}
abbrev Ln(t u:Bool)(h:Heap)(l1 l2:Addr):Heap:=(Nx t u h l1 l2).push {cls:= .type "zip",data:= .fields #[.none, .bool false, .bool false, .ref (Nu t u h l1 l2).objs.size, .ref (Nr t u h l1 l2).objs.size]}
theorem zQ(t u:Bool)(l1 l2:Addr)(xs ys:Array Value):Meets (Builtin.«zip.__new__» ⟨[.type "zip", .ref l1, .ref l2],[]⟩) (fun _ R s=>j_ t s.heap l1 xs/\j_ u s.heap l2 ys/\R (.ok (.ret (.ref (Nx t u s.heap l1 l2).objs.size))) {s with heap:=Ln t u s.heap l1 l2}):=
 .of_wp fun prog w A R s h=>by
   obtain⟨hp,g,d,tk,os⟩:=s;obtain⟨F6,Lg,h⟩:=h;have hsub:=sub_zip;have hL1:j_ t (Shared.heap ⟨hp,g,d,tk,os⟩) l1 xs:=F6;have hL2:j_ u (Shared.heap ⟨hp.push {cls:= .type (ud t),data:= .fields #[.ref l1, .int 0 0]},g,d,tk,os⟩) l2 ys:=Lg.at fun o e=>Heap.get?_push_of_some _ e
   wp_walk using uX hL1,uX hL2
   exact⟨_,rfl,h⟩
theorem gm.new{t:Bool}{h:Heap}{i l:Addr}(e:h.get? i=some {cls:= .type (ud t),data:= .fields #[.ref l, .int 0 0]}):gm t h i l 0:=by
 cases t with
 | true=>exact⟨_,e,rfl,rfl⟩
 | false=>exact⟨_,e,rfl,rfl⟩
theorem vA{prog:Program}{w:World}{A:Around}{E:Vs}{s:Shared}{t u:Bool}{l1 l2:Addr}{xs ys:Array Value}{Q:Vs}(F6:j_ t s.heap l1 xs)(Lg:j_ u s.heap l2 ys)
 (h:∀h',IsZip h' (s.heap.objs.size+4) (s.heap.objs.size+2) (s.heap.objs.size+3) .none->IsPair h' (s.heap.objs.size+2) (.ref s.heap.objs.size) (.ref (s.heap.objs.size+1))->IsPair h' (s.heap.objs.size+3) .none .none->
   gm t h' s.heap.objs.size l1 0->gm u h' (s.heap.objs.size+1) l2 0->(∀c o,s.heap.get? c=some o->h'.get? c=some o)->Q (.ref (s.heap.objs.size+4)) {s with heap:=h'}):wpAny (model prog w) A (call (.type "zip") [.ref l1, .ref l2]) Q E s:=by
 refine callType_new F.called_zip (by decide) (F.typeCall_zip_2 _ _) (F.newCall_zip_2 _ _) (fun obj=>F.args_object_init_3 obj _ _) F.entry_zip_new (zQ t u l1 l2 xs ys) ⟨F6,Lg,?_⟩
 have z1:(Nz t s.heap l1).objs.size=s.heap.objs.size+1:=Heap.size_push ..;have z2:(Nu t u s.heap l1 l2).objs.size=s.heap.objs.size+2:=(Heap.size_push ..).trans (congrArg (·+1) z1)
 have z3:(Nr t u s.heap l1 l2).objs.size=s.heap.objs.size+3:=(Heap.size_push ..).trans (congrArg (·+1) z2)
 have z4:(Nx t u s.heap l1 l2).objs.size=s.heap.objs.size+4:=(Heap.size_push ..).trans (congrArg (·+1) z3)
 have g5:(Ln t u s.heap l1 l2).get? (Nx t u s.heap l1 l2).objs.size=some _:=Heap.get?_push_size _ rfl;have g4:(Ln t u s.heap l1 l2).get? (Nr t u s.heap l1 l2).objs.size=some _:=Heap.get?_push_of_some _ (Heap.get?_push_size _ rfl);have g3:(Ln t u s.heap l1 l2).get? (Nu t u s.heap l1 l2).objs.size=some _:=Heap.get?_push_of_some _ <| Heap.get?_push_of_some _ (Heap.get?_push_size _ rfl)
 have g2:(Ln t u s.heap l1 l2).get? (Nz t s.heap l1).objs.size=some _:=Heap.get?_push_of_some _ <| Heap.get?_push_of_some _ <| Heap.get?_push_of_some _ (Heap.get?_push_size _ rfl)
 have g1:(Ln t u s.heap l1 l2).get? s.heap.objs.size=some _:=Heap.get?_push_of_some _ <| Heap.get?_push_of_some _ <| Heap.get?_push_of_some _ <| Heap.get?_push_of_some _ (Heap.get?_push_size _ rfl)
 show _/\_;rw[z2,z3,z4] at g5;rw [z1,z2] at g3;rw [z3] at g4;rw [z1] at g2;rw [z4];exact⟨⟨_,g5,rfl⟩,h _ g5 g3 g4 (gm.new g1) (gm.new g2) fun c o x=>Heap.get?_push_of_some _ <| Heap.get?_push_of_some _ <| Heap.get?_push_of_some _ <| Heap.get?_push_of_some _ <| Heap.get?_push_of_some _ x⟩
end PySem
namespace L2
open PySem PySem.Spec PyProof.Rows
def FU(t:Bool)(K:W.Frag)(H:Hp)(a:Addr)(xs:List V):Prop:=cond t (rO K H a xs) (pL K H a xs)
theorem Inv.CP{X:Cx}{pins:Vr}{σ:L2.St}{s:Shared}{t:Bool}{a:Addr}{xs:List V}(I:Inv X pins σ H s)(h:FU t X.K H a xs):∃its:List Value,Vals xs its/\j_ t s.heap a its.toArray:=by
 cases t with
 | true=>obtain⟨its,r,p,_⟩:=I.tuple h;exact⟨its,r,p⟩
 | false=>obtain⟨its,r,p,_⟩:=I.list h;exact⟨its,r,p.isList⟩
theorem Inv.AA{X:Cx}{pins:Vr}{σ:L2.St}{s:Shared}{t:Bool}{a:Addr}{xs ys:List V}(I:Inv X pins σ H s)(h:FU t X.K H a xs)(h':FU t X.K H a ys):xs=ys:=by
 cases t with
 | true=>exact I.qo h h'
 | false=>exact I.qe h h'
def S7(K:W.Frag)(t u:Bool)(a b:Addr):It:=
 ⟨fun i H=>∃xs ys x y,FU t K H a xs/\FU u K H b ys/\xs[i]? =some x/\ys[i]? =some y,
  fun i H v H'=>∃p x y,H p=none/\v= .ref p/\(∀xs,FU t K H a xs->xs[i]? =some x)/\(∀ys,FU u K H b ys->ys[i]? =some y)/\H'=upd H p (.tup [x,y]),
  fun i H=>∃xs ys,FU t K H a xs/\FU u K H b ys/\(xs.length<=i\/ys.length<=i)⟩
theorem xC{K:W.Frag}{k:Nat}{t u:Bool}{z TI TO i1 i2 a b:Addr}(D:ZipApart z TI TO i1 i2 a b):Turn P w K (.Tuple elts k pos) (S7 K t u a b) [z,TI,TO,i1,i2] z
 (fun i h=>IsZip h z TI TO .none/\IsPair h TI (.ref i1) (.ref i2)/\(∃x y,IsPair h TO x y)/\gm t h i1 a i/\gm u h i2 b i) where
 mem:=by simp
 obj:=fun i h st c hc=>by
  obtain⟨hz,yO,⟨x,y,yS⟩,h1,h2⟩:=st;simp only[List.mem_cons,List.not_mem_nil,or_false] at hc;rcases hc with rfl | rfl | rfl | rfl | rfl
  .exact⟨_,hz,fun v z=>by cases z⟩
  .exact⟨_,yO,fun v z=>by cases z⟩
  .exact⟨_,yS,fun v z=>by cases z⟩
  .exact h1.ob
  .exact h2.ob
 keep:=fun i h h' st k=>by
  obtain⟨hz,yO,⟨x,y,yS⟩,h1,h2⟩:=st;exact⟨k z (by simp) _ hz,k TI (by simp) _ yO,⟨x,y,k TO (by simp) _ yS⟩,h1.at fun o e=>k i1 (by simp) o e,h2.at fun o e=>k i2 (by simp) o e⟩
 item:=by
  intro X hP hw hK hc i pins s σ H E I hf st hg;subst hP hw hK;obtain⟨xs,ys,x,y,hq,hr,hx,hy⟩:=hg;obtain⟨its,rv,p⟩:=I.CP hq;obtain⟨jts,FI,p'⟩:=I.CP hr;obtain⟨ux,hu,ru⟩:=rv.get hx;obtain⟨uy,TB,Ni⟩:=FI.get hy;obtain⟨hz,yO,⟨a0,b0,yS⟩,h1,h2⟩:=st;have hT:s.TypeIs (.ref z) "zip":=⟨_,hz,rfl⟩;unfold pyNext;refine wpAny_bind (wpAny_attempt (wpAny_callSpecial?_slot (name:="__next__") hT F.slot_zip_next (wpAny_call_entry F.slot_zip_next hT F.entry_zip_next (Cw D hz yO yS h1 h2 p p' (x:=ux) (y:=uy) (by simpa using hu) (by simpa using TB) fun i4 a1 a2 a3 a4 a5 a6 vL=>wpAny_pure ?_) (F.args_zip_next_1 _))))
  refine⟨_,rfl,wpAny_letOwnedTupleGo_zip a1 fun gc Bz cY=>?_⟩
  replace cY:Heap.SameBut z i4 gc:=cY
  have hzl:z < s.heap.objs.size:=Heap.lt_size hz;have yQ:gc.get? s.heap.objs.size=some {cls:= .type "tuple",data:= .seq #[ux,uy]}:=(cY.2 _ (Nat.ne_of_gt hzl)).trans a5;have kk:∀b o,b≠z->b≠TO->b≠i1->b≠i2->s.heap.get? b=some o->gc.get? b=some o:=fun b o c1 c2 c3 c4 q=>(cY.2 b c1).trans (vL b o c1 c2 c3 c4 q)
  have hn:H s.heap.objs.size=none:=I.fresh;have sm:aO H (upd H s.heap.objs.size (.tup [x,y])):=aW hn;have f0:∀c∈[z,TI,TO,i1,i2],H c=none:=fun c hc=>(hf c hc).1
  have nit:∀b o,H b=some o->b≠z/\b≠TO/\b≠i1/\b≠i2:=fun b o q=>by
   refine⟨fun e=>?_,fun e=>?_,fun e=>?_,fun e=>?_⟩
   .rw [e,f0 z (by simp)] at q;cases q
   .rw [e,f0 TO (by simp)] at q;cases q
   .rw [e,f0 i1 (by simp)] at q;cases q
   .rw [e,f0 i2 (by simp)] at q;cases q
  have kH:∀b o q,H b=some q->s.heap.get? b=some o->gc.get? b=some o:=fun b o q hb e=>let⟨c1,c2,c3,c4⟩:=nit b q hb;kk b o c1 c2 c3 c4 e
  have hok:oj X.prog X.w (upd H s.heap.objs.size (.tup [x,y])) gc:=fun b ob q=>by
   by_cases hb:b=s.heap.objs.size
   .subst hb;rw[bf] at q;cases q;exact⟨by show 2<=sizeLine;decide,[ux,uy], .cons ru (.cons Ni .nil),⟨_,yQ,rfl,_,rfl⟩⟩
   .rw [aZ hb] at q;refine(I.hok b ob q).wo (fun c v hc e=>?_) (fun c e=>sm c _ e) fun c ys e=>sm c _ e
    rcases hc with rfl | hc
    .exact kH c v _ q e
    .exact kH c v _ hc e
  have nch:∀b,b ∉ [z,TI,TO,i1,i2]->b≠z/\b≠TO/\b≠i1/\b≠i2:=fun b hb=>⟨fun e=>hb (by simp [e]),fun e=>hb (by simp [e]),fun e=>hb (by simp [e]),fun e=>hb (by simp [e])⟩
  have kc:∀b o,b ∉ [z,TI,TO,i1,i2]->s.heap.get? b=some o->gc.get? b=some o:=fun b o hb e=>let⟨c1,c2,c3,c4⟩:=nch b hb;kk b o c1 c2 c3 c4 e
  have I2:Inv X pins σ (upd H s.heap.objs.size (.tup [x,y])) {s with heap:=gc,toks:=s.toks}:=by
   refine I.step (g':=s.gens) (d':=s.drawn) (ch:=[z,TI,TO,i1,i2]) (fun b hb=>?_) (fun b o _ _ hb q _=>kc b o hb q) (fun b o _ _ hb q _=>⟨o.slots,kc b o hb q⟩)
    (fun b o hb q n=>by rw[aZ (Nat.ne_of_lt (Heap.lt_size q))];exact n) (fun b o hb q=>⟨o,kc b o hb q⟩) (fun b ys e=>sm b _ e) (fun b o u e=>sm b _ e) (fun b ps e=>⟨#[],by rw[sm b _ e];simp⟩) (fun m hm=>?_) hok I.bare
   .obtain⟨g0,g1,g2,g3,g4,g5⟩:=hf b hb;exact⟨g3,g1,g4,g5⟩
   .obtain⟨o,es,ep,ho,r⟩:=hm;refine⟨o,es,ep,kc _ o (fun hb=>?_) ho,r⟩
    exact(hf _ hb).2.1 rfl
  have up:∀c,c≠z->∀o,i4.get? c=some o->gc.get? c=some o:=fun c hc o e=>(cY.2 c hc).trans e
  refine⟨.ref s.heap.objs.size,_,I2,rfl,⟨s.heap.objs.size,x,y,hn,rfl,fun zs P6=>(by rw[I.AA P6 hq];exact hx),fun zs P6=>(by rw[I.AA P6 hr];exact hy),rfl⟩,
   ⟨Bz,up _ D.TIz _ (vL TI _ D.TIz D.TITO D.TIi1 D.TIi2 yO),⟨_,_,up _ D.TOz _ a2⟩,a3.at fun o e=>up _ D.i1z o e,a4.at fun o e=>up _ D.i2z o e⟩,fun c hc=>?_⟩
  have hlt:c < s.heap.objs.size:=by
   simp only[List.mem_cons,List.not_mem_nil,or_false] at hc;rcases hc with rfl | rfl | rfl | rfl | rfl
   .exact hzl
   .exact Heap.lt_size yO
   .exact Heap.lt_size yS
   .exact h1.lt
   .exact h2.lt
  rw[aZ (Nat.ne_of_lt hlt)];exact f0 c hc
 done:=by
  intro X hP hw hK hc i pins s σ H E I hf st hg;subst hP hw hK;obtain⟨xs,ys,hq,hr,hl⟩:=hg;obtain⟨its,rv,p⟩:=I.CP hq;obtain⟨jts,FI,p'⟩:=I.CP hr;obtain⟨hz,yO,⟨a0,b0,yS⟩,h1,h2⟩:=st;have hT:s.TypeIs (.ref z) "zip":=⟨_,hz,rfl⟩;have l1:=rv.length;have l2:=FI.length;unfold pyNext;refine wpAny_bind (wpAny_attempt (wpAny_callSpecial?_slot (name:="__next__") hT F.slot_zip_next (wpAny_call_entry F.slot_zip_next hT F.entry_zip_next (EM (I.ok.hd hc) D hz yO yS h1 h2 p p' ?_ fun h' e hk he=>?_) (F.args_zip_next_1 _))))
  .rcases hl with hl | hl
   .exact .inl (by simp;omega)
   .exact .inr (by simp;omega)
  obtain⟨o,ho,hcl⟩:=he;refine wpAny_bind (wpAny_isInstance (T:="StopIteration") (b:=true) ⟨o,ho,hcl⟩ isSubtype_stop ?_);have nch:∀b,b ∉ [z,TI,TO,i1,i2]->b≠z/\b≠TO/\b≠i1/\b≠i2:=fun b hb=>⟨fun e=>hb (by simp [e]),fun e=>hb (by simp [e]),fun e=>hb (by simp [e]),fun e=>hb (by simp [e])⟩
  have kc:∀b o,b ∉ [z,TI,TO,i1,i2]->s.heap.get? b=some o->h'.get? b=some o:=fun b o hb e=>let⟨c1,c2,c3,c4⟩:=nch b hb;hk b o c1 c2 c3 c4 e
  have f0:∀c∈[z,TI,TO,i1,i2],H c=none:=fun c hc=>(hf c hc).1
  have kH:∀b o q,H b=some q->s.heap.get? b=some o->h'.get? b=some o:=fun b o q hb e=>kc b o (fun z=>by rw[f0 b z] at hb;cases hb) e
  refine wpAny_pure ⟨rfl,?_⟩;refine I.step (h':=h') (H':=H) (g':=s.gens) (d':=s.drawn) (t':=s.toks) (ch:=[z,TI,TO,i1,i2]) (fun b hb=>?_) (fun b o _ _ hb q _=>kc b o hb q) (fun b o _ _ hb q _=>⟨o.slots,kc b o hb q⟩)
   (fun b o hb q n=>n) (fun b o hb q=>⟨o,kc b o hb q⟩) (fun b ys e=>e) (fun b o u e=>e) (fun b ps e=>⟨#[],by rw[e];simp⟩) (fun m hm=>?_) (fun b ob q=>?_) I.bare
  .obtain⟨g0,g1,g2,g3,g4,g5⟩:=hf b hb;exact⟨g3,g1,g4,g5⟩
  .obtain⟨o,es,ep,ho,r⟩:=hm;refine⟨o,es,ep,kc _ o (fun hb=>?_) ho,r⟩
   exact(hf _ hb).2.1 rfl
  .refine(I.hok b ob q).wo (fun c v hc e=>?_) (fun c e=>e) fun c ys e=>e
   rcases hc with rfl | hc
   .exact kH c v _ q e
   .exact kH c v _ hc e
 self:=fun A i s Q E st h=>wpAny_pyIter_zip st.1 h
section
variable {X:Cx}
def j7(ds es:List D):List D:=(ds.zip es).map fun p=> .tup [p.1,p.2]
def seqD?:D->Option (List D)
 | .lst ds=>some ds
 | .tup ds=>some ds
 | _=>none
def vK(f g:FD):av->R (List D):=fun δ=>(f δ).bind fun d=>(g δ).bind fun e=>match seqD? d,seqD? e with | some ds,some es=> .ok (j7 ds es) | _,_=> .no
theorem Rep.CP{K:W.Frag}{B:List Addr}{d:D}{v:V}{ds:List D}(r:Rep K B H d v)(h:seqD? d=some ds):∃t a xs,v= .ref a/\(∀B' H',dG B H B' H'->FU t K H' a xs/\aC K B' H' ds xs):=by
 cases d with
 | lst es=>
   cases h;obtain⟨a,xs,rfl,l,rs⟩:=Rep.lst.mp r;exact⟨false,a,xs,rfl,fun B' H' p=>⟨(l.bo p).sq,rs.bo p⟩⟩
 | tup es=>
   cases h;obtain⟨a,xs,rfl,l,rs⟩:=Rep.tup.mp r;refine⟨true,a,xs,rfl,fun B' H' p=>⟨?_,rs.bo p⟩⟩
   have l':vJ K B' H' a xs:=l.elim (fun z=> .inl ⟨(p.rd z.2 z.1).2,(p.rd z.2 z.1).1⟩) .inr
   exact l'.sq
 | _=>cases h
theorem sY{elts:List Expr}{k:Nat}{qK:Pos}{p pos:Pos}(h:QD X a f)(h':QD X b g)(hg:Gl X "zip")(hm:X.mg "zip"=none)(hs:starEach [a,b] X.env=[(false,eval a X.env),(false,eval b X.env)]:=by rfl)(CZ:starEach [b] X.env=[(false,eval b X.env)]:=by rfl) :
 zV X (.Tuple elts k qK) (.Call (.Name "zip" p) [a,b] [] pos) (vK f g):=by
 refine⟨?_⟩;intro pins s σ H RR I ⟨Z,B,δ,ds,E,hf,q⟩;obtain⟨d,h1,h2⟩:=R.ai hf;obtain⟨e,h3,h4⟩:=R.ai h2;have hA:=gd h.1 (gd h'.1 kM CZ) (by rw[hs,CZ]) pos pins s σ H (fun vs H1=>aO H H1/\∃v v',vs=[v,v']/\Rep X.K B H1 d v/\Rep X.K B H1 e v') I
  ⟨Z,B,δ,d,E,h1,fun v H1 s1 r1=>⟨Z,B,δ,e,E.same s1,h3,fun v' H2 s2 r2=>⟨s1.trans s2,v,v',rfl,r1.same s2,r2⟩⟩⟩
 refine Call_ (mQ I hg hm boot_zip (PyProof.Rows.callWith_type1 (eI hA fun us s1 ⟨vs,H1,I1,r1,ss,v,v',ev,rr,K6⟩=>?_) (by rw[hs,CZ]) (by rw[CZ];rfl)))
 subst ev;obtain⟨u,u',rfl,ru,Ni⟩:=vals2 r1;cases e1:seqD? d with
 | none=>rw [e1] at h4;cases h4
 | some ls=>
   cases e2:seqD? e with
   | none=>rw [e1,e2] at h4;cases h4
   | some ms=>
     rw[e1,e2] at h4;cases h4;obtain⟨t,a,xs,rfl,k1⟩:=rr.CP e1;obtain⟨w,b,ys,rfl,k2⟩:=K6.CP e2;cases ru;cases Ni;obtain⟨its,rv,pp⟩:=I1.CP (k1 B H1 (dG.refl B H1)).1;obtain⟨jts,FI,Nf⟩:=I1.CP (k2 B H1 (dG.refl B H1)).1;have la:=pp.lt;have lb:=Nf.lt;refine vA pp Nf fun gc hz yO yS PM Pj kk=>wpAny_pyIter_zip hz ?_
     have I2:Inv X pins σ H1 {s1 with heap:=gc}:=I1.kept (t':=s1.toks) kk
     refine⟨s1.heap.objs.size+4,[s1.heap.objs.size+4,s1.heap.objs.size+2,s1.heap.objs.size+3,s1.heap.objs.size,s1.heap.objs.size+1],_,_,H1,rfl,I2,xC (t:=t) (u:=w) (zipApart_new la lb),⟨hz,yO,⟨_,_,yS⟩,PM,Pj⟩,fun c hc=>?_,q _ H1 ss fun B' H' pr=>?_⟩
     .have hle:s1.heap.objs.size<=c:=by
       simp only[List.mem_cons,List.not_mem_nil,or_false] at hc;rcases hc with rfl | rfl | rfl | rfl | rfl <;> omega
      exact I1.tM hle (I1.hok.fresh hle)
     .obtain⟨l1,ID⟩:=k1 B' H' pr;obtain⟨l2,II⟩:=k2 B' H' pr;refine⟨fun i d hd=>?_,⟨xs,ys,l1,l2,?_⟩⟩
      .unfold j7 at hd;rw[List.getElem?_map] at hd;cases ez:(ls.zip ms)[i]? with
       | none=>rw [ez] at hd;cases hd
       | some pr'=>
         rw[ez] at hd;have hd:D.tup [pr'.1,pr'.2]=d:=Option.some.inj hd;obtain⟨ea,eb⟩:=List.getElem?_zip_eq_some.mp ez;obtain⟨x,hx,rx⟩:=ID.get ea;obtain⟨y,hy,ry⟩:=II.get eb;refine⟨⟨xs,ys,x,y,l1,l2,hx,hy⟩,fun v n5 yl Ft=>?_⟩
         obtain⟨p,x2,y2,hp,rfl,HY,xo,rfl⟩:=yl;refine⟨aW hp,?_⟩;subst hd;have HY:=HY xs l1;have xo:=xo ys l2;rw[hx] at HY;cases HY;rw[hy] at xo;cases xo;refine Rep.tup.mpr ⟨p,_,rfl, .inl ⟨fun ha=>?_, .inl bf⟩,aC.cons (rx.same (aW hp)) (aC.cons (ry.same (aW hp)) aC.nil)⟩
         obtain⟨o,ho⟩:=Ft p ha;rw[hp] at ho;cases ho
      .rw [<-ID.length,<-II.length];unfold j7;rw[List.length_map,List.length_zip];omega
def QZ(T U:String)(f:FD):FD:=fun δ=>(f δ).bind fun d=>match d with | .dct _ _=> .no | _=> .ok (.bl (JV (tyName d) T || JV (tyName d) U))
def UU(lo:Int)(n:Nat):It:=⟨fun i _=>i < n,fun i H x H'=>H'=H/\x= .int (lo - i),fun i _=>n<=i⟩
def OH(lo:Int)(n:Nat):List D:=(List.range n).map fun(i:Nat)=>D.int (lo - i)
def QY(f g h:FD):av->R (List D):=fun δ=>(f δ).bind fun d=>(g δ).bind fun e=>(h δ).bind fun k=>match d,e,k with
 | .int i, .int j, .int m=>R.bH (decide (m= -1/\ -(2 ^ 60)<=i/\i < 2 ^ 60/\ -(2 ^ 60)<=j/\j < 2 ^ 60)) (.ok (OH i (i - j).toNat)) | _,_,_=> .no
def bls?:List D->Option (List Bool)
 | []=>some []
 | .bl b ::ds=>(bls? ds).map (b ::·)
 | _ ::_=>none
theorem x3{K:W.Frag}{B:List Addr}:∀{ds:List D} {xs:List V} {bs:List Bool},aC K B H ds xs->bls? ds=some bs->xs=bs.map V.bl
 | [],xs,bs,r,h=>by unfold aC at r;subst r;cases h;rfl
 | d ::ds,xs,bs,r,h=>by
   obtain⟨x,q,rfl,r1,r2⟩:=r.cc;cases d with
   | bl b=>
     have h:(bls? ds).map (b ::·)=some bs:=h
     cases e:bls? ds with
     | none=>rw [e] at h;cases h
     | some cs=>
       rw[e] at h;cases h;rw[Rep.bl.mp r1,x3 r2 e];rfl
   | _=>cases h
theorem Bm:∀bs:List Bool,bls? (bs.map D.bl)=some bs
 | []=>rfl
 | b ::bs=>by show(bls? (bs.map D.bl)).map (b ::·)=_;rw [Bm bs];rfl
theorem su:∀{bs:List Bool} {us:List Value},Vals (bs.map V.bl) us->us=bs.map Value.bool
 | [],us,h=>by cases h;rfl
 | b ::bs,us,h=>by
   cases h with
   | cons r t=>rw [su t,show _=Value.bool b from r];rfl
theorem range_all(bs:List Bool):(List.range bs.length).all (fun i=>bs.getD i false)=bs.all id:=by
 rw[Bool.eq_iff_iff];simp only[List.all_eq_true,List.mem_range,id];constructor
 .intro h b hb;obtain⟨i,hi,rfl⟩:=List.getElem_of_mem hb;have:=h i hi;rw[List.getD_eq_getElem?_getD,List.getElem?_eq_getElem hi] at this;exact this
 .intro h i hi;rw[List.getD_eq_getElem?_getD,List.getElem?_eq_getElem hi];exact h _ (List.getElem_mem hi)
def JY:List D->R D
 | [.lst ds]=>(match bls? ds with | some bs=> .ok (.bl (bs.all id)) | none=> .no)
 | _=> .no
def R6:List D->R D
 | [.lst ds]=>(match bls? ds with | some bs=> .ok (.bl (bs.any id)) | none=> .no)
 | _=> .no
theorem L0{bs:List Bool}{i:Nat}{v:Value}(h:((bs.map Value.bool).toArray)[i]? =some v):v= .bool (bs.getD i false):=by
 rw[List.getElem?_toArray,List.getElem?_map] at h;rw[List.getD_eq_getElem?_getD];cases e:bs[i]? with
 | none=>rw [e] at h;cases h
 | some b=>rw [e] at h;cases h;rfl
theorem L9(hc:X.calm=true):cQ X (.builtin "all") JY:=by
 intro pins s σ H B ds d xs us I hb rx rs hg;unfold JY at hg;split at hg
 .split at hg
  .rename_i es bs e;cases hg;obtain⟨x,rfl,r⟩:=rs.one;obtain⟨a,ys,rfl,l,r⟩:=Rep.lst.mp r;obtain⟨u,rfl,ru⟩:=vals1 rx;cases ru;obtain⟨its,n,rv,e1,hz⟩:=I.Kv l;rw[x3 r e] at rv;obtain rfl:=su rv;have hl:s.heap.IsList a (bs.map Value.bool).toArray:=⟨_,e1,rfl,n,rfl⟩;have hlt:a < s.heap.objs.size:=Heap.lt_size e1;refine call_all_walk (wpAny_pyIter_list hl ?_);refine⟨_,_,_,_,_,_,fun i=>bs.getD i false,rfl,Walks.list (A:=X.A.in1) (I.ok.hd hc) _ a (Nat.ne_of_lt hlt) _,⟨⟨_,Heap.get?_push_size _ rfl,rfl,rfl⟩,hl.push _⟩,?_,fun h' tk hk=>?_⟩
   .intro i v s Q E hP hQ;rw[L0 hP];exact wpAny_truthy_bool hQ
   .refine⟨.bl (bs.all id),H,I.kept (old_kept hk),?_,aO.refl H,Rep.bl.mpr rfl⟩;show Value.bool _=Value.bool _;rw[<-range_all];simp
  .cases hg
 .cases hg
end
end L2
end
section
namespace L2
open PySem PySem.Spec PyProof.Rows
section
variable {X:Cx}
def UX:FS:=fun _=> .no
def QU(f:FD):FS:=fun δ=>(f δ).bind fun _=> .ok (.nx δ)
end
end L2
namespace L3
open PySem PySem.Spec PyProof.Rows L2
section
variable {X:Cx} {cl:Vx}
def U0:FZ:=fun _ _=> .no
def AV(f:av->R (List D)):FX:=fun δ S=>(R3.of (f (f9 S δ)) S).bind fun ds S=>R3.bH (jR ds) (.ok (.loc S.length) (S++[.lst ds]))
theorem HN{K:W.Frag}{f:av->R (List D)}{σ:L2.St}{Q:V->Hp->Prop}(h:tX K cl (AV f) σ H Q):tN K f σ H Q:=by
 obtain⟨ρ,S,δ,v,S',E,hf,q⟩:=h;obtain⟨ds,S1,h1,h2⟩:=R3.ai hf;obtain⟨h3,e3⟩:=R3.of_ok h1;obtain⟨ht,h4⟩:=R3.bh h2;cases h4;subst e3;refine⟨[],[],f9 _ δ,ds,E.f9,h3,fun a xs H' s n e r=>?_⟩
 have r0:aC K [] H' ds xs:=r.bo fun b o e nb=>⟨e,by simp⟩
 have r':aC K (ρ.push a).b H' ds xs:=aC.vc (fun b hb ys hr=>by
  rcases P3.mem_push hb with z | z
  .exact(E.sw.same s).nt b z ys hr
  .subst z;rcases hr with y | ⟨ob,y⟩
   .rw [e] at y;cases y
   .rw [e] at y;cases y) ht r0
 obtain⟨w,p⟩:=E.sw.new (o:= .lst ds) s n ⟨xs,e,r'⟩;exact q _ _ H' p w (by unfold bb;exact⟨a,by show(ρ.r++[a])[_]? =_;rw [<-E.sw.len,List.getElem?_append_right (by omega),Nat.sub_self];rfl,rfl⟩)
theorem G1{f:av->R (List D)}(h:QN X e f):PX X cl e (AV f):=⟨h.1.imp fun σ H Q h=>HN h⟩
theorem KW{f:av->R (List D)}{ds:List D}{δ:DE}{S:aN}{QV:V3->aN->Prop}(e:f (f9 S δ)= .ok ds)(ht:jR ds=true)(h:QV (.loc S.length) (S++[.lst ds])):W3 (AV f δ S) QV:=W3.bind (W3.of e (W3.wh ht (W3.ok h)))
def Si(i:Nat)(f:FX):FZ:=fun δ S=>match jM δ i with
 | none=> .no
 | some k=>match er S k with
   | none=> .no
   | some _=>(f δ S).bind fun v S1=>match v with
     | .d (.lst es)=>(match er S1 k with
       | some ds=>R3.bH (decide (ds.length+es.length<=sizeLine)) (.ok (.nx δ) (S1.set k (.lst (ds++es))))
       | none=> .no)
     | _=> .no
end
end L3
end
section
namespace L2
open PySem PySem.Spec PyProof.Rows
section
variable {X:Cx}
theorem Dy{prog:Program}{w:World}{A:Around}{E:Vs}{s:Shared}{t b:Addr}{vs ws:List Value}{Q:Vs}(ht:IsTup s.heap t vs.toArray)(hb:IsTup s.heap b ws.toArray)
 (h0:vs=[]->Q (.ref b) s) (h1:vs≠[]->ws=[]->Q (.ref t) s) (h2:vs≠[]->ws≠[]->Q (.ref s.heap.objs.size) {s with heap:=s.heap.push {cls:= .type "tuple",data:= .seq (vs++ws).toArray}})
 (IC:vs.length+ws.length<=sizeLine):wpAny (model prog w) A (binaryOp .Add (.ref t) (.ref b)) Q E s:=by
 by_cases hv:vs=[]
 .obtain⟨⟨cls,dd,data,sl⟩,ho,hc,n,hd⟩:=id ht;obtain⟨⟨Qc,NN,data2,Lw⟩,HR,LB,n2,hd2⟩:=id hb;simp only at hc hd LB hd2;subst hc hd LB hd2;exact concat_meets ⟨_,ho,rfl⟩ ⟨_,HR,rfl⟩ noFill_tuple_add seq_tuple_add PySem.F.slot_tuple_add PySem.F.entry_tuple_add (PySem.F.args_tuple_add_2 _ _) (tuple_addW0 t b vs.toArray ws.toArray n n2 dd NN sl Lw (by simp [hv])) ⟨ho,HR,h0 hv⟩
 .exact HT.GY ht hb hv (h1 hv) (h2 hv) IC
def kq(d e:D):R D:=match d,e with
 | .tup a, .tup b=>R.bH (decide (a.length+b.length<=sizeLine)) (.ok (.tup (a++b)))
 | d,e=>eD d e
theorem vJ.fresh{K:W.Frag}{B:List Addr}{H:Hp}{p:Addr}{xs:List V}(hb:∀a∈B,∃o,H a=some o)(hp:H p=none):vJ K B (upd H p (.tup xs)) p xs:= .inl ⟨fun ha=>(by obtain⟨o,ho⟩:=hb p ha;rw [hp] at ho;cases ho), .inl bf⟩
theorem oU:lp X (binaryOp .Add) kq:=by
 intro pins s σ H B da db d x y v u I hb rx ry ra rb hg;by_cases ht:∃a b,da= .tup a/\db= .tup b
 .obtain⟨a,b,rfl,rfl⟩:=ht;have hg:R.bH (decide (a.length+b.length<=sizeLine)) (.ok (.tup (a++b)))= .ok d:=hg;obtain⟨h1,h2⟩:=R.bh hg;cases h2;have h1:=of_decide_eq_true h1;have ra':=ra;have rb':=rb;obtain⟨a1,PH,rfl,l1,r1⟩:=Rep.tup.mp ra;obtain⟨a2,Pn,rfl,l2,r2⟩:=Rep.tup.mp rb;cases rx;cases ry;obtain⟨its,Rg,p1,_⟩:=I.tuple l1.sq;obtain⟨La,Rl,p2,_⟩:=I.tuple l2.sq;have e1:=Rg.length;have e2:=Rl.length;have e3:=r1.length;have e4:=r2.length;refine Dy p1 p2 (fun z=>⟨.ref a2,H,I,rfl,aO.refl H,?_⟩) (fun _ z=>⟨.ref a1,H,I,rfl,aO.refl H,?_⟩) (fun _ _=>?_) (by omega)
  .obtain rfl:a=[]:=List.eq_nil_of_length_eq_zero (by rw[e3,e1,z];rfl)
   exact rb'
  .obtain rfl:b=[]:=List.eq_nil_of_length_eq_zero (by rw[e4,e2,z];rfl)
   rw[List.append_nil];exact ra'
  .have hp:H s.heap.objs.size=none:=I.hok.fresh (Nat.le_refl _);refine⟨.ref s.heap.objs.size,_,I.laid (t':=s.toks) (o:= .tup (PH++Pn)) (fun b ob q=>Heap.get?_push_of_some _ q) (Nat.le_refl _) ⟨by rw[List.length_append];omega,_,Rg.append Rl,IsTup.new _ _⟩,rfl,aW hp,Rep.tup.mpr ⟨_,_,rfl,vJ.fresh hb hp,(r1.append r2).same (aW hp)⟩⟩
 .have hg:eD da db= .ok d:=by
   unfold kq at hg;split at hg
   .exact absurd ⟨_,_,rfl,rfl⟩ ht
   .exact hg
  exact el pins s σ H B da db d x y v u I hb rx ry ra rb hg
theorem zV.or{F F1 F2:av->R (List D)}(h1:zV X tg e F1)(h2:zV X tg e F2)(h:∀δ ds,F δ= .ok ds->F1 δ= .ok ds\/F2 δ= .ok ds):zV X tg e F:=
 ⟨fun pins s σ H R I ⟨Z,B,δ,ds,E,hf,q⟩=>(h δ ds hf).elim (fun z=>h1.1 pins s σ H R I ⟨Z,B,δ,ds,E,z,q⟩) fun z=>h2.1 pins s σ H R I ⟨Z,B,δ,ds,E,z,q⟩⟩
def Bb(f:FD):av->R (List D):=fun δ=>(f δ).bind fun d=>match d with | .lst ds=> .ok (cK ds) | .tup ds=> .ok (cK ds) | _=> .no
theorem zJ{elts:List Expr}{k:Nat}{qK:Pos}{p pos:Pos}(h:QD X a f)(hg:Gl X "enumerate")(hm:X.mg "enumerate"=none)(hs:starEach [a] X.env=[(false,eval a X.env)]:=by rfl):zV X (.Tuple elts k qK) (.Call (.Name "enumerate" p) [a] [] pos) (Bb f):=
 zV.or (F1:=gr f) (F2:=wm f) ⟨xx h.1 hg hm hs⟩ (zP h hg hm hs) fun δ ds hf=>by
  obtain⟨d,h1,h2⟩:=R.ai hf;cases d with
  | lst es=>cases h2;exact .inl (by unfold gr;rw [h1];rfl)
  | tup es=>cases h2;exact .inr (by unfold wm;rw [h1];rfl)
  | _=>cases h2
def SY(K:W.Frag)(a:Addr)(n:Nat):It:=
 ⟨fun i H=>∃xs x,pL K H a xs/\xs.length=n/\i < n/\xs[n - 1 - i]? =some x,fun i H v H'=>H'=H/\∀xs,pL K H a xs->xs[n - 1 - i]? =some v,fun i H=>(∃xs,pL K H a xs)/\i=n⟩
theorem Eb{K:W.Frag}(a it:Addr)(n:Nat):Turn P w K tg (SY K a n) [it] it (fun i h=>h.IsRevIter it a ((n:Int) - 1 - (i:Int))) where
 mem:=by simp
 obj:=fun i h st b hb=>by
  have e:b=it:=by simpa using hb
  subst e;obtain⟨o,e,c,d⟩:=st;exact⟨o,e,fun v z=>by rw[d] at z;cases z⟩
 keep:=fun i h h' st k=>st.at fun o e=>k it (by simp) o e
 item:=by
  intro X hP hw hK hc i pins s σ H E I hf st hg;subst hP hw hK;obtain⟨xs,x,hq,hn,hi,hx⟩:=hg;obtain⟨its,rv,p,hz⟩:=I.list hq;obtain⟨u,hu,ru⟩:=rv.get hx;obtain⟨f0,f1,f2,f3,f4,f5⟩:=hf it (by simp)
  have e0:(n:Int) - 1 - (i:Int)=((n - 1 - i:Nat):Int):=by omega
  rw[e0] at st;refine wpAny_pyNext_rev_item st p.isList (x:=u) (by simpa using hu) fun h' FK sb=>?_
  have I1:Inv X pins σ H {s with heap:=h'}:=I.turned (t':=s.toks) (fun b o hb e=>(sb.2 b hb).trans e) f0 f1 f3 f4 f5
  have F0:h'.IsRevIter it a ((n:Int) - 1 - ((i+1:Nat):Int)):=by
   rw[show((n - 1 - i:Nat):Int) - 1=(n:Int) - 1 - ((i+1:Nat):Int) by omega] at FK;exact FK
  obtain⟨o,e,c,d⟩:=id F0;exact⟨u,rfl,AY (s:={s with heap:=h'}) e c d (by decide) ⟨x,H,I1,ru,⟨rfl,fun ys hy=>by rw[I.qe hy hq];exact hx⟩,F0,fun b hb=>(hf b hb).1⟩⟩
 done:=by
  intro X hP hw hK hc i pins s σ H E I hf st hg;subst hP hw hK;obtain⟨_,rfl⟩:=hg;obtain⟨f0,f1,f2,f3,f4,f5⟩:=hf it (by simp)
  rw[show(i:Int) - 1 - (i:Int)= -1 by omega] at st
  exact wpAny_pyNext_rev_end (I.ok.hd hc) st fun h' eb=>⟨rfl,I.turned (t':=s.toks) (fun b o hb e=>eb b o hb e) f0 f1 f3 f4 f5⟩
 self:=fun _ _ _ _ _ st h=>wpAny_pyIter_revIter st h
def H_(f:FD):av->R (List D):=fun δ=>(f δ).bind fun d=>match d with | .lst ds=> .ok ds.reverse | _=> .no
theorem ES{tg a:Expr}{p pos:Pos}(h:QD X a f)(hg:Gl X "reversed")(hm:X.mg "reversed"=none)(hs:starEach [a] X.env=[(false,eval a X.env)]:=by rfl):zV X tg (.Call (.Name "reversed" p) [a] [] pos) (H_ f):=by
 refine⟨?_⟩;intro pins s σ H RR I ⟨Z,B,δ,ds,E,hf,q⟩;obtain⟨d,h1,h2⟩:=R.ai hf;have hA:=gd h.1 kM hs pos pins s σ H (fun vs H1=>aO H H1/\∃v,vs=[v]/\Rep X.K B H1 d v) I ⟨Z,B,δ,d,E,h1,fun v H1 s1 r1=>⟨s1,v,rfl,r1⟩⟩
 refine Call_ (mQ I hg hm boot_reversed (PyProof.Rows.callWith_type1 (eI hA fun us s1 ⟨vs,H1,I1,r1,ss,v,ev,rr⟩=>?_) hs rfl))
 subst ev;obtain⟨u,rfl,ru⟩:=vals1 r1;cases d with
 | lst es=>
   cases h2;obtain⟨b,xs,rfl,l,rs⟩:=Rep.lst.mp rr;cases ru;obtain⟨its,rv,pl,hz⟩:=I1.list l.sq;have e1:=rv.length;have e2:=rs.length;refine call_reversed_list pl.isList (wpAny_pyIter_revIter (i:=(its.toArray.size:Int) - 1) ⟨_,Heap.get?_push_size _ rfl,rfl,rfl⟩ ?_);refine⟨s1.heap.objs.size,[s1.heap.objs.size],_,_,H1,rfl,I1.kept (t':=s1.toks) fun b o e=>Heap.get?_push_of_some _ e,Eb b _ es.length,?_,fun c hc=>?_,q _ H1 ss fun B' H' pr=>?_⟩
   .refine⟨_,Heap.get?_push_size _ rfl,rfl,?_⟩;show Data.fields #[.ref b,rawInt ((its.toArray.size:Int) - 1)]=Data.fields #[.ref b,rawInt ((es.length:Int) - 1 - ((0:Nat):Int))];rw[List.size_toArray,<-e1,<-e2,show((es.length:Nat):Int) - 1 - ((0:Nat):Int)=(es.length:Int) - 1 by omega]
   .have e:c=s1.heap.objs.size:=by simpa using hc
    subst e;exact I1.tM (Nat.le_refl _) (I1.hok.fresh (Nat.le_refl _))
   .have l':uo X.K B' H' b xs:=l.bo pr;have rs':=rs.bo pr;refine⟨fun i d hd=>?_,⟨xs,l'.sq⟩,by rw[List.length_reverse]⟩
    have hi:i < es.length:=by have:=(List.getElem?_eq_some_iff.mp hd).1;rwa [List.length_reverse] at this
    rw[List.getElem?_reverse hi] at hd;obtain⟨x,hx,rx⟩:=rs'.get hd;refine⟨⟨xs,x,l'.sq,e2.symm,hi,hx⟩,fun v n5 yl Ft=>?_⟩
    obtain⟨rfl,hy⟩:=yl;have xo:=hy xs l'.sq;rw[hx] at xo;cases xo;exact⟨aO.refl _,rx⟩
 | _=>cases h2
def oG(K:W.Frag)(C:Addr)(m qual:Str)(st:Stmt):Prop:=∃f fd,Bj K m qual st f fd/\Meth K C m f
def BN(K:W.Frag)(C:Addr)(m qual:Str)(st:Stmt):Prop:=∃f fd,Bj K m qual st f fd/\Mk K C f
end
end L2
namespace L3
open PySem PySem.Spec PyProof.Rows L2
section
variable {X:Cx} {cl:Vx}
theorem gH.p{K:W.Frag}{mg:Vw}{cl:Vx}{k c:Nat}{n:Nat}{N:List Str}(C:gH P w K mg base cl k c m n (nU N F)):gH P w K mg base cl k c m n (pC N F):=
 let⟨f,fd,ps,c1,c2,F,h⟩:=C;⟨f,fd,ps,c1,c2,F.imp fun _ _ _ _ h=>y6 h,h⟩
end
end L3
end
section
namespace L2
open PySem PySem.Spec PyProof.Rows
section
variable {X:Cx}
def Sb(f:FD):av->R (List D):=fun δ=>(f δ).bind fun d=>match d with | .int j=>R.bH (decide (-(2 ^ 62)<=j/\j < 16777216)) (.ok (hX 0 j.toNat)) | _=> .no
def R_(f:FD):FD:=fun δ=>(f δ).bind fun d=>match d with | .lst ds=> .ok (.lst ds.reverse) | _=> .no
end
end L2
end
section
namespace L2
open PySem PySem.Spec PyProof.Rows
section
variable {X:Cx}
def RS(K:W.Frag)(n:Nat)(t:Ex):TG:=fun v σ H Q=>∃a xs,v= .ref a/\pL K H a xs/\xs.length=n/\t xs σ H Q
end
end L2
namespace L3
open PySem PySem.Spec PyProof.Rows L2
section
variable {X:Cx} {cl:Vx}
def U8(n:Nat)(t:Ht):FG:=fun d δ=>match d with
 | .d (.lst ds)=>if ds.length=n then t (ds.map .d) δ else none
 | .lst vs=>if vs.length=n then t vs δ else none
 | _=>none
def J3(f g:FX):FA:=fun δ S=>(aM f (aM g di) δ S).bind fun vs S1=>match vs with
 | [.d d, .d e]=>(match seqD? d,seqD? e with | some ds,some es=> .ok ((j7 ds es).map .d) S1 | _,_=> .no)
 | _=> .no
theorem Hn{elts:List Expr}{k:Nat}{qK:Pos}{p pos:Pos}(h:PX X cl a f)(h':PX X cl b g)(hg:Gl X "zip")(hm:X.mg "zip"=none)(hs:starEach [a,b] X.env=[(false,eval a X.env),(false,eval b X.env)]:=by rfl)(CZ:starEach [b] X.env=[(false,eval b X.env)]:=by rfl) :
 Jc X cl (.Tuple elts k qK) (.Call (.Name "zip" p) [a,b] [] pos) (J3 f g):=by
 refine⟨?_⟩;intro pins s σ H RR I ⟨ρ,S,δ,vs,S',E,hf,q⟩;obtain⟨ws,S1,h1,h2⟩:=R3.ai hf;have hA:=(aq h (aq h' aU CZ) (by rw[hs,CZ])).1 pos pins s σ H (fun us H1=>∃cF,Pre ρ H cF H1/\SW X.K cl cF H1 S1/\aF X.K cF H1 ws us) I
  ⟨ρ,S,δ,ws,S1,E,h1,fun us cF H1 p1 w1 r1=>⟨cF,p1,w1,r1⟩⟩
 refine Call_ (mQ I hg hm boot_zip (PyProof.Rows.callWith_type1 (eI hA fun us s1 ⟨xs,H1,I1,r1,cF,p1,w1,rr⟩=>?_) (by rw[hs,CZ]) (by rw[CZ];rfl)))
 rcases hsh:ws with _ | ⟨w0,_ | ⟨w2,_ | ⟨w3,wr⟩⟩⟩ <;> subst hsh
 .cases h2
 .cases w0 <;> cases h2
 .rcases w0 with d | _ | _ | _ <;> rcases w2 with e | _ | _ | _ <;> try (cases h2;done)
  have h2:(match seqD? d,seqD? e with | some ds,some es=>R3.ok ((j7 ds es).map V3.d) S1 | _,_=> .no)= .ok vs S':=h2
  cases e1:seqD? d with
  | none=>rw [e1] at h2;cases h2
  | some ls=>
    cases e2:seqD? e with
    | none=>rw [e1,e2] at h2;cases h2
    | some ms=>
      rw[e1,e2] at h2;cases h2;obtain⟨v,ys,ev,ra,rr⟩:=rr.cc;obtain⟨v',zs,CU,rb,rr⟩:=rr.cc;unfold aF at rr;subst rr CU ev;obtain⟨u,u',rfl,ru,Ni⟩:=vals2 r1;unfold bb at ra rb;obtain⟨t,a,xs,rfl,k1⟩:=ra.CP e1;obtain⟨w,b,ys,rfl,k2⟩:=rb.CP e2;cases ru;cases Ni;obtain⟨its,rv,pp⟩:=I1.CP (k1 cF.b H1 (dG.refl _ H1)).1;obtain⟨jts,FI,Nf⟩:=I1.CP (k2 cF.b H1 (dG.refl _ H1)).1;have la:=pp.lt;have lb:=Nf.lt;refine vA pp Nf fun gc hz yO yS PM Pj kk=>wpAny_pyIter_zip hz ?_
      have I2:Inv X pins σ H1 {s1 with heap:=gc}:=I1.kept (t':=s1.toks) kk
      refine⟨s1.heap.objs.size+4,[s1.heap.objs.size+4,s1.heap.objs.size+2,s1.heap.objs.size+3,s1.heap.objs.size,s1.heap.objs.size+1],_,_,H1,rfl,I2,xC (t:=t) (u:=w) (zipApart_new la lb),⟨hz,yO,⟨_,_,yS⟩,PM,Pj⟩,fun c hc=>?_,q _ cF H1 p1 w1 (Ls.of fun B' H' pr=>?_)⟩
      .have hle:s1.heap.objs.size<=c:=by
        simp only[List.mem_cons,List.not_mem_nil,or_false] at hc;rcases hc with rfl | rfl | rfl | rfl | rfl <;> omega
       exact I1.tM hle (I1.hok.fresh hle)
      .obtain⟨l1,ID⟩:=k1 B' H' pr;obtain⟨l2,II⟩:=k2 B' H' pr;refine⟨fun i d hd=>?_,⟨xs,ys,l1,l2,?_⟩⟩
       .unfold j7 at hd;rw[List.getElem?_map] at hd;cases ez:(ls.zip ms)[i]? with
        | none=>rw [ez] at hd;cases hd
        | some pr'=>
          rw[ez] at hd;have hd:D.tup [pr'.1,pr'.2]=d:=Option.some.inj hd;obtain⟨ea,eb⟩:=List.getElem?_zip_eq_some.mp ez;obtain⟨x,hx,rx⟩:=ID.get ea;obtain⟨y,hy,ry⟩:=II.get eb;refine⟨⟨xs,ys,x,y,l1,l2,hx,hy⟩,fun v n5 yl Ft=>?_⟩
          obtain⟨p,x2,y2,hp,rfl,HY,xo,rfl⟩:=yl;refine⟨aW hp,?_⟩;subst hd;have HY:=HY xs l1;have xo:=xo ys l2;rw[hx] at HY;cases HY;rw[hy] at xo;cases xo;refine Rep.tup.mpr ⟨p,_,rfl, .inl ⟨fun ha=>?_, .inl bf⟩,aC.cons (rx.same (aW hp)) (aC.cons (ry.same (aW hp)) aC.nil)⟩
          obtain⟨o,ho⟩:=Ft p ha;rw[hp] at ho;cases ho
       .rw [<-ID.length,<-II.length];unfold j7;rw[List.length_map,List.length_zip];omega
 .cases w0 <;> cases w2 <;> cases h2
theorem MH{f g:FX}{δ:DE}{S:aN}{Q:List V3->aN->Prop}(h:W3 (f δ S) fun v S1=>W3 (g δ S1) fun w S2=>∃d e ds es,v= .d d/\w= .d e/\seqD? d=some ds/\seqD? e=some es/\Q ((j7 ds es).map .d) S2):W3 (J3 f g δ S) Q:=
 W3.bind (W3.bind (h.mono fun v S1 h2=>W3.bind (W3.bind (h2.mono fun w S2 ⟨d,e,ds,es,e1,gb,e3,e4,q⟩=>by
  subst e1 gb;exact W3.bind (W3.ok (W3.ok (W3.ok (by simp only[e3,e4];exact W3.ok q))))))))
def j9(S:aN):Prop:=∀o∈S,rK S.length o=true
theorem MS{N:List Str}{vs:List V3}{S:aN}{QV:V3->aN->Prop}(h:W3 (nU N F vs S) fun v S1=>(∀o∈S1.take S.length,rK S.length o=true)/\fH S.length v=true/\∃d,res S1 v=some d/\QV (.d d) (S1.take S.length)):W3 (pC N F vs S) QV:=
 W3.bind (h.mono fun v S1 ⟨hl,hg,d,e,q⟩=>by
  rw[e];exact W3.wh (by rw[List.all_eq_true.mpr hl,hg];rfl) (W3.ok q))
theorem f_{N:List Str}{vs:List V3}{S:aN}{QV:V3->aN->Prop}(hS:j9 S)(h:W3 (nU N F vs S) fun v S1=>fH S.length v=true/\(∃T,S1=S++T)/\∃d,res S1 v=some d/\QV (.d d) S):W3 (pC N F vs S) QV:=
 MS (h.mono fun v S1 ⟨hg,⟨T,e1⟩,d,e,q⟩=>by
  subst e1;rw[List.take_append_of_le_length (Nat.le_refl _),List.take_length];exact⟨hS,hg,d,e,q⟩)
end
end L3
end
section
namespace L2
open PySem PySem.Spec PyProof.Rows
section
variable {X:Cx}
def ois?:List D->Option (List (Option Int))
 | []=>some []
 | .int i ::ds=>(ois? ds).map (some i ::·)
 | .cn ::ds=>(ois? ds).map (none ::·)
 | _ ::_=>none
def OZ:Option Int->V | some i=> .int i | none=> .cn
theorem p6{K:W.Frag}{B:List Addr}:∀{ds:List D} {xs:List V} {ss:List (Option Int)},aC K B H ds xs->ois? ds=some ss->xs=ss.map OZ
 | [],xs,ss,r,h=>by unfold aC at r;subst r;cases h;rfl
 | d ::ds,xs,ss,r,h=>by
   obtain⟨x,r',rfl,r1,r2⟩:=r.cc;cases d with
   | int z=>
     unfold ois? at h;cases e:ois? ds with
     | none=>rw [e] at h;cases h
     | some tt=>
       rw[e] at h;cases h;rw[Rep.int.mp r1,p6 r2 e];rfl
   | cn=>
     unfold ois? at h;cases e:ois? ds with
     | none=>rw [e] at h;cases h
     | some tt=>
       rw[e] at h;cases h;rw[Rep.cn.mp r1,p6 r2 e];rfl
   | _=>cases h
def N6(d e:D):R Bool:=match d,e with
 | .cn, .lst ds=>(match ois? ds with | some ss=> .ok (ss.any (·.isNone)) | none=> .no)
 | _,_=> .no
def Ce(d e:D):R D:=(N6 d e).bind fun b=> .ok (.bl b)
theorem AU:∀ss:List (Option Int),D_ .cn (ss.map OZ)=ss.any (·.isNone)
 | []=>rfl
 | y ::ss=>by
   unfold D_;rw[List.map_cons,List.any_cons,List.any_cons];have ih:=AU ss;unfold D_ at ih;rw[ih];cases y <;> rfl
theorem E7(ss:List (Option Int)):(ss.map OZ).all lu=true:=by
 rw[List.all_map,List.all_eq_true];intro x _;cases x <;> rfl
theorem MQ:lp X (compareOp .In) Ce:=by
 intro pins s σ H B da db d x y v u I hb rx ry ra rb hg';obtain⟨b,hi,h2⟩:=R.ai hg';cases h2;unfold N6 at hi;split at hi
 .rename_i ds;split at hi
  .rename_i ss e;cases hi;obtain⟨a,xs,rfl,l,rs⟩:=Rep.lst.mp rb;refine vH pins s σ H x _ v u _ I rx ry ⟨a,xs,rfl, .inl l.sq,by rw[Rep.cn.mp ra];rfl,by rw[p6 rs e];exact E7 _,aO.refl H,Rep.bl.mpr ?_⟩
   rw[p6 rs e,Rep.cn.mp ra,AU];rfl
  .cases hi
 .cases hi
end
end L2
end
section
namespace L2
open PySem PySem.Spec PyProof.Rows
section
variable {X:Cx}
def Oq(d:D)(ds:List D):R D:=match d,ds with
 | .lst es,[.int k]=>(match ints? es with | some ss=> .ok (.int (ss.count k:Nat)) | none=> .no)
 | _,_=> .no
end
end L2
end
section
namespace L2
open PySem PySem.Spec PyProof.Rows
section
variable {X:Cx}
abbrev IX:D->D->R D:=Ic (fun i j=>decide (0<=j/\j < 1000/\ -1000 < i/\i < 1000)) fun i j=>i*2 ^ j.toNat
theorem Md:lp X (binaryOp .LShift) IX:=xU Jx fun i j h=>by
 have:=of_decide_eq_true h;exact⟨this.1,by omega,by omega⟩
def Q2(d e:D):R D:=match d,e with | .bl a, .bl b=> .ok (.bl (a !=b)) | _,_=> .no
end
end L2
namespace L3
open PySem PySem.Spec PyProof.Rows L2
section
variable {X:Cx} {cl:Vx}
def Qq(fo f:FX):FZ:=fun δ S=>(fo δ S).bind fun o S0=>match o with
 | .loc k=>(match er S0 k with
   | none=> .no
   | some _=>(f δ S0).bind fun v S1=>match v with
     | .d d=>(match er S1 k with | some ds=>R3.bH (decide (ds.length < sizeLine)) (.ok (.nx δ) (S1.set k (.lst (ds++[d])))) | none=> .no)
     | _=> .no)
 | _=> .no
def Qu(f:FX):FA:=fun δ S=>(aM f di δ S).bind fun vs S1=>match vs with
 | [.d (.lst ds)]=> .ok ((cK ds).map .d) S1
 | _=> .no
end
end L3
end
section
namespace L2
open PySem PySem.Spec PyProof.Rows
section
variable {X:Cx}
end
end L2
end
section
namespace L3
open PySem PySem.Spec PyProof.Rows L2
section
variable {cl:Vx}
def OI(it:FA)(t:FG)(c:FB)(f:FX)(own:List Str)(kp:List Nat):FX:=fun δ S=>(it δ S).bind fun vs S1=>R3.bH (decide (vs.length<=sizeLine)) ((ny t c f (nC own kp δ) vs S1).bind fun ys S2=>match rQ ys with | some ds=> .ok (.loc S2.length) (S2++[.lst ds]) | none=> .no)
end
section
variable {X:Cx} {cl:Vx}
end
end L3
end
section
namespace L3
open PySem PySem.Spec PyProof.Rows L2
section
variable {X:Cx} {cl:Vx}
def N1(g:List D->R D)(fs:FA):FX:=fun δ S=>(fs δ S).bind fun vs S1=>match zN S1 vs with
 | some ds=>(R3.of (g ds) S1).bind fun d S=>R3.bH (mU d) (.ok (.d d) S)
 | none=> .no
end
end L3
end
section
namespace L2
open PySem PySem.Spec PyProof.Rows
section
variable {X:Cx}
def Sy(f:FD):FD:=fun δ=>(f δ).bind fun d=>match d with | .int i=> .ok (.int (-i - 1)) | _=> .no
def S8(d:D)(lo hi:Option Int):R D:=match d with
 | .tup ds=>R.bH (decide (¬(HT.rY ds.length 0 lo=0/\HT.rY ds.length ds.length hi=ds.length))) (.ok (.tup (cutD ds lo hi)))
 | _=> .no
def Sv(f:FD)(fl fh:FO):FD:=fun δ=>(f δ).bind fun d=>(fl δ).bind fun lo=>(fh δ).bind fun hi=>S8 d lo hi
end
end L2
namespace L3
open PySem PySem.Spec PyProof.Rows L2
section
variable {X:Cx} {cl:Vx}
structure UZ (X:Cx) (cl:Vx) (st:List Stmt) (F:FZ):Prop where
 go:xm X st (fun D σ H=>D.ct=D.nx/\sX X.K cl F D σ H)
end
end L3
end
section
namespace L2
open PySem PySem.Spec PyProof.Rows
end L2
namespace L3
open PySem PySem.Spec PyProof.Rows L2
section
variable {X:Cx} {cl:Vx}
def RB(i:Nat)(f:FX):FX:=fun δ S=>match jM δ i with
 | none=> .no
 | some k=>match er S k with
   | none=> .no
   | some _=>(f δ S).bind fun v S1=>match v with
     | .d (.int j)=>(match er S1 k with
       | some ds=>(match Cg ds.length j with
         | some p=>(match ds[p]? with | some d=>R3.bH (decide (-(2 ^ 63)<=j/\j < 2 ^ 63)) (.ok (.d d) (S1.set k (.lst (ds.eraseIdx p)))) | none=> .no)
         | none=> .no)
       | none=> .no)
     | _=> .no
end
end L3
end
section
namespace L3
open PySem PySem.Spec PyProof.Rows L2
section
variable {X:Cx} {cl:Vx}
def RC(f:FX)(fl fh:Lr):FX:=fun δ S=>(f δ S).bind fun v S1=>(fl δ S1).bind fun lo S2=>(fh δ S2).bind fun hi S3=>match v with
 | .lst vs=> .ok (.lst (L2.cutD vs lo hi)) S3
 | _=> .no
end
end L3
end
section
namespace L2
open PySem PySem.Spec PyProof.Rows
section
variable {X:Cx}
def NZ:List V->Hp->VK->Prop:=fun xs H Q=>∃a kvs ns,xs=[V.ref a]/\H a=some (.dK kvs)/\kvs.map (·.1)=ns.map Sum.inl/\ns.length < 64/\∀p,H p=none->Q (.ref p) (upd H p (.lst ((DU ns).map V.int)))
end
end L2
end
section
namespace L3
open PySem PySem.Spec PyProof.Rows L2
section
variable {X:Cx} {cl:Vx}
def Ag(kvs:List (Key × D))(k:Key)(d:D):List (Key × D):=if(kvs.any fun kv=>decide (kv.1=k))=true then kvs.map (fun kv=>if kv.1=k then(kv.1,d) else kv) else kvs++[(k,d)]
def ro(S:aN)(k:Nat):Option (List (Key × D)):=match S[k]? with | some (.dct kvs)=>some kvs | _=>none
theorem zk{S:aN}{k:Nat}{kvs:List (Key × D)}(h:ro S k=some kvs):S[k]? =some (.dct kvs):=by
 unfold ro at h;split at h
 .rename_i e;cases h;exact e
 .cases h
theorem AW{α β:Type}(k:Key):∀{a:List (Key × α)} {b:List (Key × β)},a.map (·.1)=b.map (·.1)->(a.any fun kv=>decide (kv.1=k))=b.any fun kv=>decide (kv.1=k)
 | [],[],_=>rfl
 | [],_ ::_,h=>by simp at h
 | _ ::_,[],h=>by simp at h
 | x ::a,y ::b,h=>by
   rw[List.map_cons,List.map_cons] at h;obtain⟨h1,h2⟩:=List.cons.inj h;rw[List.any_cons,List.any_cons,AW k h2,h1]
theorem Bv{K:W.Frag}{B:List Addr}{k:Key}{d:D}{v:V}(rv:Rep K B H d v):∀{kvs:List (Key × D)} {ys:List (Key × V)},ys.map (·.1)=kvs.map (·.1)->aC K B H (kvs.map (·.2)) (ys.map (·.2))->
 (ys.map fun kv=>if kv.1=k then(kv.1,v) else kv).map (·.1)=(kvs.map fun kv=>if kv.1=k then(kv.1,d) else kv).map (·.1)/\aC K B H ((kvs.map fun kv=>if kv.1=k then(kv.1,d) else kv).map (·.2)) ((ys.map fun kv=>if kv.1=k then(kv.1,v) else kv).map (·.2))
 | [],[],_,_=>⟨rfl,aC.nil⟩
 | [],_ ::_,h,_=>by simp at h
 | _ ::_,[],h,_=>by simp at h
 | (k1,d1) ::kvs,(k2,v2) ::ys,h,r=>by
   obtain⟨h1,h2⟩:=List.cons.inj h;have h1:k2=k1:=h1;subst h1;obtain⟨x,r',e,q1,q2⟩:=aC.cc r;cases e;obtain⟨i1,i2⟩:=Bv rv h2 q2;simp only[List.map_cons];by_cases hk:k2=k
   .rw [if_pos hk,if_pos hk];exact⟨by rw[i1],aC.cons rv i2⟩
   .rw [if_neg hk,if_neg hk];exact⟨by rw[i1],aC.cons q1 i2⟩
theorem ME{K:W.Frag}{B:List Addr}{k:Key}{d:D}{v:V}(rv:Rep K B H d v){kvs:List (Key × D)}{ys:List (Key × V)}(h:ys.map (·.1)=kvs.map (·.1))(r:aC K B H (kvs.map (·.2)) (ys.map (·.2))) :
 (putK ys k v).map (·.1)=(Ag kvs k d).map (·.1)/\aC K B H ((Ag kvs k d).map (·.2)) ((putK ys k v).map (·.2)):=by
 unfold putK Ag;rw[AW k h];split
 .exact Bv rv h r
 .rw [List.map_append,List.map_append,List.map_append,List.map_append,h];exact⟨rfl,r.append (aC.cons rv aC.nil)⟩
def Qy:FX:=fun δ S=> .ok (.loc S.length) (S++[.dct []])
def QQ(fo fi fe:FX):FZ:=fun δ S=>(fe δ S).bind fun v S1=>(fo δ S1).bind fun o S2=>(fi δ S2).bind fun j S3=>match v,o,j with
 | .d d, .loc k, .d (.int n)=>(match ro S3 k with | some kvs=>R3.bH (decide (kvs.length < sizeLine)) (.ok (.nx δ) (S3.set k (.dct (Ag kvs (Sum.inl n) d)))) | none=> .no)
 | _,_,_=> .no
def SS(fa fo:FX):FX:=fun δ S=>(fa δ S).bind fun j S1=>(fo δ S1).bind fun o S2=>match j,o with
 | .d (.int n), .loc k=>(match ro S2 k with | some kvs=> .ok (.d (.bl (kvs.any fun kv=>decide (kv.1=Sum.inl n)))) S2 | none=> .no)
 | _,_=> .no
def intK?:List Key->Option (List Int)
 | []=>some []
 | .inl n ::ks=>(intK? ks).map (n ::·)
 | .inr _ ::_=>none
def Od(f:FX):FX:=fun δ S=>(f δ S).bind fun o S1=>match o with
 | .loc k=>(match ro S1 k with
   | some kvs=>(match intK? (kvs.map (·.1)) with | some ns=>R3.bH (decide (ns.length < 64)) (.ok (.d (.lst ((DU ns).map .int))) S1) | none=> .no)
   | none=> .no)
 | _=> .no
end
end L3
end
section
namespace L2
open PySem PySem.Spec PyProof.Rows
section
variable {X:Cx}
def Nt:V->List V->Hp->VK->Prop:=fun x vs H Q=>∃(l:Addr) (xs:List V) (j:Int) (i:Nat) (y:V),x= .ref l/\vs=[.int j,y]/\H l=some (.lst xs)/\j=i/\i<=xs.length/\xs.length < sizeLine/\Q .cn (upd H l (.lst (xs.take i++y ::xs.drop i)))
end
end L2
namespace L3
open PySem PySem.Spec PyProof.Rows L2
section
variable {X:Cx} {cl:Vx}
def RO(i:Nat)(f g:FX):FZ:=fun δ S=>match jM δ i with
 | none=> .no
 | some k=>match er S k with
   | none=> .no
   | some _=>(f δ S).bind fun v S1=>match v with
     | .d (.int j)=>(g δ S1).bind fun w S2=>(match w with
       | .d d=>(match er S2 k with
         | some ds=>R3.bH (decide (0<=j/\j.toNat<=ds.length/\ds.length < sizeLine)) (.ok (.nx δ) (S2.set k (.lst (ds.take j.toNat++d ::ds.drop j.toNat))))
         | none=> .no)
       | _=> .no)
     | _=> .no
end
end L3
end
section
namespace L3
open PySem PySem.Spec PyProof.Rows L2
section
variable {X:Cx} {cl:Vx}
structure NF (X:Cx) (pos:Pos) (keys:List (Option Expr)) (values:List Expr) (ks:List Str) (g:av->R (List D)):Prop where
 h:∃BC,MI X pos keys values BC/\∀(σ:L2.St) (H:Hp) (Q:List (V × V)->Hp->Prop),(∃Z B δ ds,eG X.K Z B H σ δ/\g δ= .ok ds/\∀vs H',aO H H'->aC X.K B H' ds vs->Q ((ks.zip vs).map fun p=>(V.str p.1,p.2)) H')->wO BC σ H Q
theorem HP:NF X pos [] [] [] aI:=⟨[],G7,fun σ H Q ⟨Z,B,δ,ds,E,hf,q⟩=>by
 cases hf;exact q [] H (fun _ _ e=>e) aC.nil⟩
theorem pS{keys:List (Option Expr)}{ks:List Str}{g:av->R (List D)}(hk:QD X ke (eC (.str k)))(hv:QD X ve f)(hr:NF X pos keys values ks g):NF X pos (some ke ::keys) (ve ::values) (k ::ks) (ak f g):=by
 obtain⟨BC,h1,h2⟩:=hr.h;refine⟨_,Fc hk.1 hv.1 h1,fun σ H Q ⟨Z,B,δ,ds,E,hf,q⟩=>?_⟩
 obtain⟨d1,e1,e2⟩:=R.ai hf;obtain⟨Ul,e3,e4⟩:=R.ai e2;cases e4;refine⟨Z,B,δ, .str k,E,rfl,fun x H1 s1 r1=>⟨Z,B,δ,d1,E.same s1,e1,fun y H2 s2 r2=>h2 σ H2 _ ⟨Z,B,δ,Ul,(E.same s1).same s2,e3,fun vs H3 s3 r3=>?_⟩⟩⟩
 rw[Rep.str.mp r1];exact q (y ::vs) H3 (s1.trans (s2.trans s3)) (aC.cons (r2.same s3) r3)
def sL(ks:List Str)(ns:List Int):List (Key × D):=(ks.zip ns).foldl (fun acc p=>Ag acc (Sum.inr p.1) (.int p.2)) []
def wQ(ks:List Str)(g:av->R (List D)):FX:=fun δ S=>(R3.of (g (down δ)) S).bind fun ds S=>match ints? ds with
 | some ns=>R3.bH (decide (ns.length=ks.length/\ks.length<=15)) (.ok (.loc S.length) (S++[.dct (sL ks ns)]))
 | none=> .no
theorem dy{K:W.Frag}{B:List Addr}:∀{ds:List D} {ns:List Int} {vs:List V},ints? ds=some ns->aC K B H ds vs->vs=ns.map V.int
 | [],ns,vs,h,r=>by
   unfold aC at r;subst r;cases h;rfl
 | d ::ds,ns,vs,h,r=>by
   obtain⟨x,r',rfl,h1,h2⟩:=r.cc
   match d,h,h1 with
   | .int n,h,h1=>
     obtain⟨ms,e1,rfl⟩:=n4 (show(ints? ds).map (n ::·)=some ns from h)
     rw[Rep.int.mp h1,dy e1 h2];rfl
theorem AO{K:W.Frag}{B:List Addr}:∀(ps:List (Str × Int)) {kvs:List (Key × D)} {ys:List (Key × V)},ys.map (·.1)=kvs.map (·.1)->aC K B H (kvs.map (·.2)) (ys.map (·.2))->
 (kL ys (ps.map fun p=>((Sum.inr p.1:Key),V.int p.2))).map (·.1)=(ps.foldl (fun acc p=>Ag acc (Sum.inr p.1) (.int p.2)) kvs).map (·.1)/\aC K B H ((ps.foldl (fun acc p=>Ag acc (Sum.inr p.1) (.int p.2)) kvs).map (·.2)) ((kL ys (ps.map fun p=>((Sum.inr p.1:Key),V.int p.2))).map (·.2))
 | [],_,_,h,r=>⟨h,r⟩
 | p ::ps,kvs,ys,h,r=>by
   obtain⟨a,b⟩:=ME (k:=Sum.inr p.1) (d:= .int p.2) (v:=V.int p.2) (Rep.int.mpr rfl) h r;exact AO ps a b
theorem DS{keys:List (Option Expr)}{values:List Expr}{ks:List Str}{g:av->R (List D)}(h:NF X pos keys values ks g)(Fp:keys.all (·.isSome)=true)(hl:keys.length=values.length)(h0:keys≠[])(Qf:keys.length<=15):PX X cl (.Dict keys values pos) (wQ ks g):=by
 obtain⟨BC,h1,h2⟩:=h.h;refine⟨(Gz h1 Fp hl h0 Qf).imp fun σ H Q ⟨ρ,S,δ,v,S',E,hf,q⟩=>?_⟩
 obtain⟨ds,S1,e1,e2⟩:=R3.ai hf;obtain⟨e3,rfl⟩:=R3.of_ok e1;split at e2
 .rename_i ns NJ;obtain⟨hc,e4⟩:=R3.bh e2;cases e4;obtain⟨uq,LB⟩:=of_decide_eq_true hc;intro p hp;refine h2 σ _ _ ⟨[],ρ.b,down δ,ds,E.down.same (aW hp),e3,fun vs H2 s2 r2=>?_⟩
  have hv:=dy NJ r2;subst hv;have Ti:H2 p=some (.dK []):=s2 p _ bf;have ez:(ks.zip (ns.map V.int)).map (fun p=>(V.str p.1,p.2))=((ks.zip ns).map fun p=>((Sum.inr p.1:Key),V.int p.2)).map (fun kv=>(kV kv.1,kv.2)):=by
   rw[List.zip_map_right,List.map_map,List.map_map];rfl
  refine⟨Ti,(ks.zip ns).map fun p=>((Sum.inr p.1:Key),V.int p.2),ez,by rw[List.length_map,List.length_zip];omega,?_⟩
  have sA:aO H (upd H2 p (.dK (kL [] ((ks.zip ns).map fun p=>((Sum.inr p.1:Key),V.int p.2))))):=fun b u e=>by
   have hb:b≠p:=fun z=>by subst z;rw [hp] at e;cases e
   rw[aZ hb];exact s2 b u (by rw[aZ hb];exact e)
  obtain⟨m1,m2⟩:=AO (K:=X.K) (B:=(ρ.push p).b) (H:=upd H2 p (.dK (kL [] ((ks.zip ns).map fun p=>((Sum.inr p.1:Key),V.int p.2))))) (ks.zip ns) (kvs:=[]) (ys:=[]) rfl aC.nil
  obtain⟨w,pr⟩:=E.sw.new (a:=p) (o:= .dct (sL ks ns)) sA hp ⟨_,bf,m1,m2⟩;exact q _ _ _ pr w (by unfold bb;exact⟨p,by show(ρ.r++[p])[_]? =_;rw [<-E.sw.len,List.getElem?_append_right (by omega),Nat.sub_self];rfl,rfl⟩)
 .cases e2
def wV(kvs:List (Key × D))(k:Key):Option D:=(kvs.find? fun kv=>decide (kv.1=k)).map (·.2)
def xQ(i:Nat)(f g:FD):FX:=fun δ S=>match jM δ i with
 | none=> .no
 | some k=>match ro S k with
   | none=> .no
   | some kvs=>(R3.of (f (down δ)) S).bind fun kd S=>(R3.of (g (down δ)) S).bind fun d S=>match kd with
     | .str x=> .ok (.d ((wV kvs (Sum.inr x)).getD d)) S
     | _=> .no
theorem Iu{K:W.Frag}{B:List Addr}{k:Key}:∀{kvs:List (Key × D)} {ys:List (Key × V)},ys.map (·.1)=kvs.map (·.1)->aC K B H (kvs.map (·.2)) (ys.map (·.2))->
 (wV kvs k=none/\j8 ys k=none)\/∃d v,wV kvs k=some d/\j8 ys k=some v/\Rep K B H d v
 | [],[],_,_=> .inl ⟨rfl,rfl⟩
 | [],_ ::_,h,_=>by simp at h
 | _ ::_,[],h,_=>by simp at h
 | (k1,d1) ::kvs,(k2,v2) ::ys,h,r=>by
   obtain⟨h1,h2⟩:=List.cons.inj h;have h1:k2=k1:=h1;subst h1;obtain⟨x,r',e,q1,q2⟩:=aC.cc r;cases e;by_cases hk:k2=k
   .refine .inr ⟨d1,v2,?_,?_,q1⟩
    .unfold wV;rw [List.find?_cons,decide_eq_true hk];rfl
    .unfold j8;simp [hk]
   .have ih:=Iu (k:=k) h2 q2;have a1:wV ((k2,d1) ::kvs) k=wV kvs k:=by unfold wV;rw [List.find?_cons,decide_eq_false hk]
    have a2:j8 ((k2,v2) ::ys) k=j8 ys k:=by unfold j8;simp [hk]
    rw[a1,a2];exact ih
theorem Hx{i:Nat}{x:Str}{e e':Expr}{f g:FD}{ka apos dO:Pos}(hu:X.A.units+1 < cLine)(hN:X.N[i]? =some x)(hv:Gr X.env.scope x)(he:QD X e f)(P8:QD X e' g)
 (hd:(x==("__debug__":Str))=false:=by decide) (uk:(x==("__classdict__":Str))=false:=by decide)
 (ql:attributeBase (.Name x ka) "get" X.env (eval (.Name x ka) X.env)=eval (.Name x ka) X.env:=by rfl)
 (xc:((backTo dO (starEach [e,e'] X.env)).all (fun x=>!x.1) && (backToKw dO (keywordEach [] X.env)).all (fun x=>x.1.isSome)
   && decide (([e,e']:List Expr).length+([]:List Keyword).length+(if([]:List Keyword).isEmpty then 0 else 1) < 30))=true:=by rfl)
 (qk:(apos.endLine==dO.line)=true:=by rfl) (UH:backTo dO (starEach [e,e'] X.env)=[(false,eval e X.env),(false,eval e' X.env)]:=by rfl) :
 PX X cl (.Call (.Attribute (.Name x ka) "get" apos) [e,e'] [] dO) (xQ i f g):=by
 refine⟨(Ds hu (tR hN hv hd uk) he.1 P8.1 ⟨ql,xc,qk,UH⟩).imp fun σ H Q ⟨ρ,S,δ,v,S',E,hf,q⟩=>?_⟩
 unfold xQ at hf;split at hf
 .cases hf
 .rename_i k hk;split at hf
  .cases hf
  .rename_i kvs Nm;obtain⟨kd,S1,e1,e2⟩:=R3.ai hf;obtain⟨e3,rfl⟩:=R3.of_ok e1;obtain⟨dd,S2,e4,e5⟩:=R3.ai e2;obtain⟨e6,rfl⟩:=R3.of_ok e4;split at e5
   .rename_i xk;cases e5;obtain⟨u,u1,u2⟩:=E.val i _ (lY hk);unfold bb at u2;obtain⟨a,a1,rfl⟩:=u2;obtain⟨ys,y1,y2,y3⟩:=E.sw.ob k a _ a1 (zk Nm);refine⟨.ref a,u1,a,rfl, .inl ⟨_, .inl y1⟩,[],ρ.b,down δ, .str xk,E.down,e3,fun v1 H1 s1 r1=>⟨[],ρ.b,down δ,dd,E.down.same s1,e6,fun v2 H2 s2 r2=>?_⟩⟩
    have sA:aO H H2:=s1.trans s2;refine⟨j8 ys (Sum.inr xk),by rw[Rep.str.mp r1];exact uw.k (k:=Sum.inr xk) (sA a _ y1),q _ ρ H2 (Pre.same sA) (E.sw.same sA) ?_⟩
    unfold bb;rcases Iu (k:=Sum.inr xk) y2 y3 with⟨b1,b2⟩ | ⟨d,v',b1,b2,b3⟩
    .rw [b1,b2];exact r2
    .rw [b1,b2];exact b3.same sA
   .cases e5
theorem Gx{ks:List Str}{g:av->R (List D)}{ns:List Int}{δ:DE}{S:aN}{QV:V3->aN->Prop}(e:g (down δ)= .ok (ns.map .int))(h1:ns.length=ks.length)(h2:ks.length<=15)(h:QV (.loc S.length) (S++[.dct (sL ks ns)])):W3 (wQ ks g δ S) QV:=by
 unfold wQ;refine W3.bind (W3.of e ?_);simp only[L2.ints_map];exact W3.wh (decide_eq_true ⟨h1,h2⟩) (W3.ok h)
theorem K1{i k:Nat}{f g:FD}{d:D}{kvs:List (Key × D)}{δ:DE}{S:aN}{QV:V3->aN->Prop}(hk:δ[i]? =some (some (.loc k)))(hS:S[k]? =some (.dct kvs))(e1:f (down δ)= .ok (.str x))(e2:g (down δ)= .ok d)(h:QV (.d ((wV kvs (Sum.inr x)).getD d)) S):W3 (xQ i f g δ S) QV:=by
 unfold xQ;have l1:jM δ i=some k:=by unfold jM;rw [hk]
 have l2:ro S k=some kvs:=by unfold ro;simp only[hS]
 simp only[l1,l2];exact W3.bind (W3.of e1 (W3.bind (W3.of e2 (W3.ok h))))
end
end L3
end
section
namespace L2
open PySem PySem.Spec PyProof.Rows
section
variable {X:Cx}
def oa:List D->R D
 | [.tup ds]=>(match ints? ds with | some ns=> .ok (.int ns.sum) | none=> .no)
 | ds=>JI ds
theorem wR(hc:X.calm=true):cQ X (.builtin "sum") oa:=by
 intro pins s σ H B ds d xs us I hb rx rs hg;unfold oa at hg;split at hg
 .split at hg
  .rename_i es ns e;cases hg;obtain⟨x,rfl,r⟩:=rs.one;obtain⟨a,ys,rfl,l,r⟩:=Rep.tup.mp r;obtain⟨u,rfl,ru⟩:=vals1 rx;cases ru;obtain⟨its,rv,ht,hz⟩:=I.tuple l.sq;rw[dy r e] at rv;obtain⟨ps,rfl,rfl⟩:=fO rv;have hl:s.heap.IsTuple a (intItems ps.toArray):=by
    have ht:s.heap.IsTuple a (ps.map fun p=>Value.int p.1 p.2).toArray:=ht
    simpa [intItems] using ht
   refine PySem.W.ktm_sumG (I.ok.hd hc) hl fun h' tk t' k=>⟨.int _,H,I.kept k,⟨t',rfl⟩,aO.refl H,Rep.int.mpr ?_⟩
   rw[preSum_eq,List.take_of_length_le (by simp)]
  .cases hg
 .exact L_ hc pins s σ H B ds d xs us I hb rx rs hg
end
end L2
end
section
namespace NT
def mx(f:Nat->Nat)(w:List Nat):Nat:=(w.map f).foldl max 0
structure BA (f:Nat->Nat) (M:Nat) (bs:List Int):Prop where
 a:∀(z:Nat) (v:Int),bs[z]? =some v->v= -1\/(0<=v/\v+f z<=M)
def BB(f:Nat->Nat)(M:Nat)(bs:List Int)(n:Nat):Prop:=∃(z:Nat) (v:Int),z < n/\bs[z]? =some v/\0<=v/\(M:Int)<=v+f z
def Up(bs Rh:List Int):Prop:=Rh.length=bs.length/\∀(z:Nat) (v:Int),bs[z]? =some v->∃v',Rh[z]? =some v'/\v<=v'
end NT
namespace NT
open PySem PySem.Spec PyProof.Rows L2 L3
structure Gt where
 k:Str
 w:List Nat
 s:Bool
def nN(z:Nat):D:= .int z
def wN(w:List Nat):D:= .tup (w.map nN)
def gN(g:Gt):D:= .tup [.str g.k,wN g.w, .bl g.s]
def iN(x:Str × Nat):D:= .tup [.str x.1, .int x.2]
def oN(x:Str × List Nat):D:= .tup [.str x.1,wN x.2]
structure Net where
 i:Vt
 g:List Gt
 o:Vu
def Net.d(n:Net):D:= .tup [.lst (n.i.map iN), .lst (n.g.map gN), .lst (n.o.map oN)]
def Net.first(n:Net):Nat:=(n.i.map (·.2)).sum
structure Qn (n:Nat) (w:List Nat):Prop where
 ne:w≠[]
 le:w.length<=3
 lt:∀z∈w,z < n
structure Net.Ok (n:Net):Prop where
 i1:1<=n.i.length
 i6:n.i.length<=6
 iw:∀x∈n.i,1<=x.2/\x.2<=3
 is:∀x∈n.i,cV 0 (.str x.1)
 g60:n.g.length<=60
 gw:∀(p:Nat) (g:Gt),n.g[p]? =some g->Qn (n.first+p) g.w
 gs:∀g∈n.g,cV 0 (.str g.k)
 o1:1<=n.o.length
 o6:n.o.length<=6
 ow:∀x∈n.o,Qn (n.first+n.g.length) x.2
 os:∀x∈n.o,cV 0 (.str x.1)
theorem eq_self{n:Nat}{ds:List D}(h:cV n (.tup ds))(hn:n<=64):kG (.tup ds) (.tup ds)= .ok (.bl true):=by unfold kG;rw [h.eqT hn];rfl
inductive Sm:Nat->D->Prop where
 | int (n:Nat) (i:Int):Sm n (.int i)
 | bl (n:Nat) (b:Bool):Sm n (.bl b)
 | str (n:Nat) (s:Str):Sm n (.str s)
 | lst {n:Nat} {ds:List D} (h:∀d∈ds,Sm n d) (hl:ds.length<=1000000):Sm (n+1) (.lst ds)
 | tup {n:Nat} {ds:List D} (h:∀d∈ds,Sm n d) (hl:ds.length<=1000000):Sm (n+1) (.tup ds)
theorem jh{F G:FS}{δ:av}{d:D}(h:F δ= .ok (.rt d)):eO F G δ= .ok (.rt d):=by unfold eO;rw [h];rfl
theorem Fh{m i:Nat}{v:V3}(h:((hX 0 m).map V3.d)[i]? =some v):i < m/\v= .d (.int i):=by
 rw[List.getElem?_map,hX,List.getElem?_map] at h;cases q:(List.range m)[i]? with
 | none=>rw [q] at h;cases h
 | some j=>
   rw[q] at h;cases h;obtain⟨q1,q2⟩:=List.getElem?_eq_some_iff.mp q;rw[List.getElem_range] at q2;rw[List.length_range] at q1;subst q2;exact⟨q1,by simp⟩
theorem ef{α:Type}{l:List α}{f:α->D}{i:Nat}{v:V3}(h:((l.map f).map V3.d)[i]? =some v):∃x,l[i]? =some x/\v= .d (f x):=by
 rw[List.getElem?_map,List.getElem?_map] at h;cases q:l[i]? with
 | none=>rw [q] at h;cases h
 | some x=>rw [q] at h;cases h;exact⟨x,rfl,rfl⟩
theorem l0{α:Type}{l:List α}{f:α->D}{i:Nat}{v:D}(h:(l.map f)[i]? =some v):∃x,l[i]? =some x/\v=f x:=by
 rw[List.getElem?_map] at h;cases q:l[i]? with
 | none=>rw [q] at h;cases h
 | some x=>rw [q] at h;cases h;exact⟨x,rfl,rfl⟩
theorem fg{α:Type}{t:FT}{c:av->R Bool}{f:FD}{δ:av}(a b:α->D):∀{xs:List α},(∀x∈xs,∃dj,t (a x) δ= .ok dj/\c dj= .ok true/\f dj= .ok (b x))->lC t c f δ (xs.map a)= .ok (xs.map b)
 | [],_=>rfl
 | x ::xs,h=>by
   obtain⟨dj,h1,h2,h3⟩:=h x List.mem_cons_self;have ih:=fg (t:=t) (c:=c) (f:=f) (δ:=δ) a b (xs:=xs) fun y hy=>h y (List.mem_cons_of_mem _ hy)
   rw[List.map_cons];unfold lC;rw[h1,R.aG,h2,R.aG,if_pos rfl,h3,R.aG,ih];rfl
theorem eA{α:Type}{t:FT}{c:av->R Bool}{f:FD}{δ:av}(p:α->Bool)(a b:α->D):∀{xs:List α},(∀x∈xs,∃dj,t (a x) δ= .ok dj/\c dj= .ok (p x)/\(p x=true->f dj= .ok (b x)))->lC t c f δ (xs.map a)= .ok ((xs.filter p).map b)
 | [],_=>rfl
 | x ::xs,h=>by
   obtain⟨dj,h1,h2,h3⟩:=h x List.mem_cons_self;have ih:=eA (t:=t) (c:=c) (f:=f) (δ:=δ) p a b (xs:=xs) fun y hy=>h y (List.mem_cons_of_mem _ hy)
   rw[List.map_cons];unfold lC;rw[h1,R.aG,h2,R.aG];cases e:p x with
   | true=>rw [if_pos rfl,h3 e,R.aG,ih,List.filter_cons,if_pos e];rfl
   | false=>rw [if_neg (by decide),ih,List.filter_cons,if_neg (by rw[e];decide)]
theorem HE{n z:Nat}(h:z < n):Cg n (z:Int)=some z:=by
 unfold Cg;rw[if_pos (by omega),if_pos (by omega)]
 simp
theorem Es{α:Type}{xs:List α}{z:Nat}{x:α}(h:xs[z]? =some x):rS xs (z:Int)=some x:=by
 have hl:=(List.getElem?_eq_some_iff.mp h).1;unfold rS;rw[HE hl];exact h
theorem iA{ds:List D}{z:Nat}{x:D}(h:ds[z]? =some x):bW (.lst ds) (.int z)= .ok x:=wI (Es h)
end NT
end
section
namespace MT
open PySem PySem.Spec PyProof.Rows L2 L3
abbrev M:=Nat->Bool
theorem ML{N:List Str}{F:FZ}{vs:List V3}{δ:DE}{S:aN}{QV:V3->aN->Prop}(e:cz N vs=δ)(h:W3 (F δ S) fun o S1=>∃eK,o= .nx eK/\QV (.d .cn) S1):W3 (nU N F vs S) QV:=by
 subst e;exact W3.bind (h.mono fun _ _ ⟨_,e,q⟩=>by subst e;exact W3.ok q)
def gW:Nat->M->Nat
 | 0,_=>0
 | N+1,f=>(if f 0 then 1 else 0)+2*gW N (fun i=>f (i+1))
theorem fR:∀(N:Nat) (f:M) (i:Nat),(gW N f).testBit i=(decide (i < N) && f i)
 | 0,f,i=>by unfold gW;simp
 | N+1,f,0=>by
   unfold gW;rw[Nat.testBit_zero];cases f 0 <;> simp <;> omega
 | N+1,f,i+1=>by
   unfold gW;rw[Nat.testBit_succ];have:((if f 0=true then 1 else 0)+2*gW N fun i=>f (i+1)) / 2=gW N fun i=>f (i+1):=by split <;> omega
   rw[this,fR N _ i];simp
theorem lF:∀{N:Nat} {f g:M},(∀i,i < N->f i=g i)->gW N f=gW N g
 | 0,_,_,_=>rfl
 | N+1,f,g,h=>by
   unfold gW;rw[h 0 (by omega),lF (N:=N) fun i hi=>h (i+1) (by omega)]
theorem A9(N:Nat)(f g:M):gW N f &&& gW N g=gW N fun i=>f i && g i:=by
 refine Nat.eq_of_testBit_eq fun i=>?_
 rw[Nat.testBit_and,fR,fR,fR];cases decide (i < N) <;> simp
theorem D8(N:Nat)(f g:M):gW N f ||| gW N g=gW N fun i=>f i || g i:=by
 refine Nat.eq_of_testBit_eq fun i=>?_
 rw[Nat.testBit_or,fR,fR,fR];cases decide (i < N) <;> simp
theorem Bh:∀(N:Nat) (f g:M),((gW N fun i=>f i || g i:Nat):Int) - (gW N fun i=>f i && g i:Nat)=(gW N fun i=>f i !=g i:Nat)
 | 0,f,g=>rfl
 | N+1,f,g=>by
   have ih:=Bh N (fun i=>f (i+1)) (fun i=>g (i+1))
   have e:∀h:M,gW (N+1) h=(if h 0 then 1 else 0)+2*gW N (fun i=>h (i+1)):=fun _=>rfl
   rw[e,e,e];generalize gW N (fun i=>f (i+1) || g (i+1))=a at ih ⊢
   generalize gW N (fun i=>f (i+1) && g (i+1))=b at ih ⊢
   generalize gW N (fun i=>f (i+1) !=g (i+1))=c at ih ⊢
   show(((if(f 0 || g 0) then 1 else 0)+2*a:Nat):Int) - ((if(f 0 && g 0) then 1 else 0)+2*b:Nat)=((if(f 0 !=g 0) then 1 else 0)+2*c:Nat)
   cases f 0 <;> cases g 0 <;> simp <;> omega
theorem pF(x y:Nat):Builtin.bitAnd (x:Int) (y:Int)=((x &&& y:Nat):Int):=by
 unfold Builtin.bitAnd;rw[decide_eq_true (by omega:(0:Int)<=x),decide_eq_true (by omega:(0:Int)<=y)]
 simp
theorem Ba(x y:Nat):Builtin.bitOr (x:Int) (y:Int)=((x ||| y:Nat):Int):=by
 unfold Builtin.bitOr Builtin.bitAnd Builtin.bitNot;rw[decide_eq_false (by omega:¬(0:Int)<= -(x:Int) - 1),decide_eq_false (by omega:¬(0:Int)<= -(y:Int) - 1)]
 show -(-(((-(-(x:Int) - 1) - 1).toNat ||| (-(-(y:Int) - 1) - 1).toNat:Nat):Int) - 1) - 1=_
 rw[show(-(-(x:Int) - 1) - 1).toNat=x by omega,show(-(-(y:Int) - 1) - 1).toNat=y by omega]
 omega
def mI(N:Nat)(f:M):D:= .int (gW N f:Nat)
theorem xI{N:Nat}{f g:M}(h:∀i,i < N->f i=g i):mI N f=mI N g:=by unfold mI;rw [lF h]
theorem tU(N:Nat)(f g:M):z6 (mI N f) (mI N g)= .ok (mI N fun i=>f i && g i):=by
 show R.ok (D.int (Builtin.bitAnd (gW N f:Int) (gW N g:Int)))=_;rw[pF,A9];rfl
theorem vN(N:Nat)(f g:M):Fm (mI N f) (mI N g)= .ok (mI N fun i=>f i || g i):=by
 show R.ok (D.int (Builtin.bitOr (gW N f:Int) (gW N g:Int)))=_;rw[Ba,D8];rfl
theorem ym(N:Nat)(f g:M):B_ (mI N f) (mI N g)= .ok (mI N fun i=>f i !=g i):=by
 show R.ok (D.int (Builtin.bitOr (gW N f:Int) (gW N g:Int) - Builtin.bitAnd (gW N f:Int) (gW N g:Int)))=_;rw[Ba,pF,D8,A9,Bh];rfl
def one:M:=fun _=>true
theorem yN(N:Nat)(f:M):B_ (mI N one) (mI N f)= .ok (mI N fun i=>!f i):=by
 rw[ym];have:(fun i=>one i !=f i)=fun i=>!f i:=by funext i;unfold one;simp
 rw[this]
theorem Du(N:Nat)(f:M)(c:Bool):(if c then B_ (mI N one) (mI N f) else .ok (mI N f))= .ok (mI N fun i=>f i !=c):=by
 cases c with
 | true=>
   rw[if_pos rfl,yN];have:(fun i=>!f i)=fun i=>f i !=true:=by funext i;cases f i <;> rfl
   rw[this]
 | false=>
   rw[if_neg (by decide)]
   have:f=fun i=>f i !=false:=by funext i;cases f i <;> rfl
   rw[<-this]
theorem yr{N:Nat}{f:M}:gW N f=0↔∀i,i < N->f i=false:=by
 constructor
 .intro h i hi;have:=fR N f i;rw[h,Nat.zero_testBit,decide_eq_true hi,Bool.true_and] at this;exact this.symm
 .intro h;refine Nat.eq_of_testBit_eq fun i=>?_
  rw[fR,Nat.zero_testBit];by_cases q:i < N
  .rw [h i q];simp
  .rw [decide_eq_false q];rfl
theorem LN(N:Nat)(f:M)(n:Nat):(x_ (mI N f) (.int n)).bind (fun d=>z6 d (.int 1))= .ok (.int (if decide (n < N) && f n then 1 else 0)):=by
 have h1:x_ (mI N f) (.int n)= .ok (.int ((gW N f / 2 ^ n:Nat):Int)):=by
  show R.bH (decide ((0:Int)<=n)) (.ok (D.int ((gW N f:Int) / 2 ^ ((n:Int)).toNat)))=_;rw[cy _ (by omega),Int.toNat_natCast]
  congr 2
 rw[h1,R.aG];show R.ok (D.int (Builtin.bitAnd ((gW N f / 2 ^ n:Nat):Int) ((1:Nat):Int)))=_;rw[pF,Nat.and_one_is_mod,<-fR];congr 2;unfold Nat.testBit;rw[Nat.shiftRight_eq_div_pow,Nat.one_and_eq_mod_two];have:gW N f / 2 ^ n % 2=0\/gW N f / 2 ^ n % 2=1:=by omega
 rcases this with q | q <;> rw[q] <;> rfl
def bI(b:Bool):D:= .int (if b then 1 else 0)
def FW:List Bool->Nat
 | []=>0
 | b ::bs=>(if b then 1 else 0)+2*FW bs
theorem ER:∀bs:List Bool,FW bs=gW bs.length fun i=>bs.getD i false
 | []=>rfl
 | b ::bs=>by
   unfold FW;rw[ER bs];rfl
def nI(n:Nat):D:= .int (n:Int)
def kS:Nat->Str | 0=>"not" | 1=>"and" | 2=>"or" | 3=>"xor" | _=>"vote"
def ar:Nat->Nat | 0=>1 | 4=>3 | _=>2
theorem EI(k:Nat):ar k<=3:=by unfold ar;split <;> omega
def gv:Nat->List Bool->Bool
 | 0,[a]=>!a
 | 1,[a,b]=>a && b
 | 2,[a,b]=>a || b
 | 3,[a,b]=>a !=b
 | 4,[a,b,c]=>(a && b) || (a && c) || (b && c)
 | _,_=>false
def um(ws:List M)(n:Nat):M:=ws.getD n fun _=>false
abbrev Gt:=Nat × List Nat × Bool
def jb(g:Gt):D:= .tup [.str (kS g.1), .tup (g.2.1.map nI), .bl g.2.2]
def BQ(n:Nat)(g:Gt):Prop:=g.1<=4/\g.2.1.length=ar g.1/\∀w∈g.2.1,w < n
def inD(x:Str × Nat):D:= .tup [.str x.1,nI x.2]
def BX(x:Str × List Nat):D:= .tup [.str x.1, .tup (x.2.map nI)]
def ba(ins:Vt)(gs:List Gt)(os:Vu):D:= .tup [.lst (ins.map inD), .lst (gs.map jb), .lst (os.map BX)]
def rq(ins:Vt):Nat:=(ins.map (·.2)).sum
def gF(g:Gt)(ws:List M):M:=fun p=>gv g.1 (g.2.1.map fun n=>um ws n p)
def kg(bad:List Int)(b:M):Nat->List M->List M
 | 0,ws=>ws
 | n+1,ws=>kg bad b n ws++[fun p=>b p !=bad.contains ((kg bad b n ws).length:Int)]
theorem nO(bad:List Int)(b:M):∀n ws,(kg bad b n ws).length=ws.length+n
 | 0,ws=>rfl
 | n+1,ws=>by unfold kg;rw [List.length_append,nO bad b n ws];rfl
def gB(ins:Vt)(bits:List M)(bad:List Int):Nat->List M
 | 0=>[]
 | i+1=>match ins[i]?,bits[i]? with | some x,some b=>kg bad b x.2 (gB ins bits bad i) | _,_=>gB ins bits bad i
theorem lN{ins:Vt}{bits:List M}{bad:List Int}(hb:bits.length=ins.length):∀i,i<=ins.length->(gB ins bits bad i).length=rq (ins.take i)
 | 0,_=>rfl
 | i+1,hi=>by
   have h1:ins[i]? =some ins[i]:=List.getElem?_eq_getElem (by omega)
   have h2:bits[i]? =some bits[i]:=List.getElem?_eq_getElem (by omega)
   unfold gB;rw[h1,h2];show(kg bad bits[i] ins[i].2 (gB ins bits bad i)).length=_;rw[nO,lN hb i (by omega),List.take_add_one,h1]
   unfold rq;simp only[Option.toList_some,List.map_append,List.sum_append,List.map_cons,List.map_nil,List.sum_cons,List.sum_nil];omega
def vB(gs:List Gt)(turned:List Int)(w0:List M):Nat->List M
 | 0=>w0
 | i+1=>match gs[i]? with | some g=>vB gs turned w0 i++[fun p=>gF g (vB gs turned w0 i) p !=turned.contains (i:Int)] | none=>vB gs turned w0 i
theorem p_{gs:List Gt}{turned:List Int}{w0:List M}:∀i,i<=gs.length->(vB gs turned w0 i).length=w0.length+i
 | 0,_=>rfl
 | i+1,hi=>by
   have h1:gs[i]? =some gs[i]:=List.getElem?_eq_getElem (by omega)
   unfold vB;rw[h1];show(vB gs turned w0 i++[_]).length=_;rw[List.length_append,p_ i (by omega)]
   rfl
structure gY (ins:Vt) (gs:List Gt) (os:Vu):Prop where
 hi:ins.length < 100
 hw:∀x∈ins,x.2 < 100
 hg:gs.length < 1000
 g:∀(i:Nat) (x:Gt),gs[i]? =some x->BQ (rq ins+i) x
 ho:os.length < 1000
 o:∀x∈os,x.2.length < 1000/\∀w∈x.2,w < rq ins+gs.length
def Gg(ins:Vt)(gs:List Gt)(bits:List M)(turned bad:List Int):List M:=vB gs turned (gB ins bits bad ins.length) gs.length
theorem tP:∀{l:Vt},(∀x∈l,x.2 < 100)->rq l<=100*l.length
 | [],_=>by simp [rq]
 | x ::l,h=>by
   have ih:=tP (l:=l) fun y hy=>h y (List.mem_cons_of_mem _ hy)
   have:=h x List.mem_cons_self;unfold rq at ih ⊢;rw[List.map_cons,List.sum_cons,List.length_cons];omega
theorem EG{ins:Vt}{gs:List Gt}{bits:List M}{turned bad:List Int}(hb:bits.length=ins.length):(Gg ins gs bits turned bad).length=rq ins+gs.length:=by unfold Gg;rw [p_ _ (Nat.le_refl _),lN hb _ (Nat.le_refl _),List.take_length]
def tell(ws:List M)(x:Str × List Nat):List M:=x.2.map (um ws)
def J6:List Bool->Bool × Bool
 | [a]=>(!a,a)
 | [a,b]=>(!(a || b),a && b)
 | [a,b,c]=>let v:=(a && b) || (a && c) || (b && c);(!v,v)
 | _=>(false,false)
def brk(safe:Bool)(x y:Bool × Bool):Bool:=if safe then(x.1 && y.2) || (x.2 && y.1) else(x.1 !=y.1) || (x.2 !=y.2)
theorem vS(i:Int)(ps:List Int):Iq (.int i) (.tup (ps.map .int))= .ok (.bl (ps.contains i)):=by
 show((match ints? (ps.map D.int) with | some ss=>R.ok (ss.contains i) | none=> .no)).bind (fun b=>R.ok (D.bl b))=_
 rw[L2.ints_map];rfl
theorem pJ{ds:List D}{i:Nat}{v:V3}(h:((cK ds).map V3.d)[i]? =some v):∃d,ds[i]? =some d/\v= .d (.tup [.int i,d]):=by
 rw[List.getElem?_map,cK,List.getElem?_map,List.getElem?_zipIdx] at h;cases q:ds[i]? with
 | none=>rw [q] at h;cases h
 | some d=>
   rw[q] at h;simp at h;exact⟨d,rfl,h.symm⟩
theorem we{c:av->R Bool}{δ:av}{b:Bool}{r:R D}(h:c δ= .ok b)(h2:(if b then f δ else g δ)=r):Kq c f g δ=r:=by unfold Kq;rw [h,R.aG];exact h2
theorem dH(S:aN)(x y:SO):(S++[x]).set S.length y=S++[y]:=by
 rw[List.set_append_right _ _ (Nat.le_refl _),Nat.sub_self];rfl
theorem aY(S:aN)(x:SO):(S++[x])[S.length]? =some x:=by rw[List.getElem?_append_right (Nat.le_refl _),Nat.sub_self];rfl
theorem Kd{N:Nat}{ws:List M}{n:Nat}(h:n < ws.length):bW (.lst (ws.map (mI N))) (nI n)= .ok (mI N (um ws n)):=by
 refine NT.iA ?_;rw[List.getElem?_map,List.getElem?_eq_getElem h];unfold um;rw[List.getD_eq_getElem?_getD,List.getElem?_eq_getElem h];rfl
theorem me{α:Type}{t:FG}{body:FZ}{S:aN}(g:α->V3)(f:α->Option V3)(E:DE->Prop):∀{xs:List α} {δ:DE},E δ->
 (∀x∈xs,∀δ,E δ->∃dj,t (g x) δ=some dj/\W3 (body dj S) fun o S1=>S1=S/\(match f x with | some v=>o= .rt v | none=>∃dM,o= .nx dM/\E dM))->
 W3 (nD t body (xs.map g) δ S) fun o S1=>S1=S/\(match xs.findSome? f with | some v=>o= .rt v | none=>∃dM,o= .nx dM/\E dM)
 | [],δ,h0,_=>W3.ok ⟨rfl,δ,rfl,h0⟩
 | x ::xs,δ,h0,hs=>by
   obtain⟨dj,e1,o,S1,e2,rfl,h2⟩:=hs x List.mem_cons_self δ h0;rw[List.map_cons];unfold nD;rw[e1];refine W3.bind ⟨_,_,e2,?_⟩;rw[List.findSome?_cons];cases hf:f x with
   | some v=>rw [hf] at h2;subst h2;exact W3.ok ⟨rfl,rfl⟩
   | none=>
     rw[hf] at h2;obtain⟨dM,rfl,h2⟩:=h2;exact me g f E h2 fun y hy=>hs y (List.mem_cons_of_mem _ hy)
theorem o8{α:Type}{t:FT}{body:FS}(g:α->D)(f:α->Option D)(E:av->Prop):∀{xs:List α} {δ:av},E δ->
 (∀x∈xs,∀δ,E δ->∃o,((t (g x) δ).bind body)= .ok o/\(match f x with | some v=>o= .rt v | none=>∃dM,o= .nx dM/\E dM))->
 ∃o,oh t body (xs.map g) δ= .ok o/\(match xs.findSome? f with | some v=>o= .rt v | none=>∃dM,o= .nx dM/\E dM)
 | [],δ,h0,_=>⟨_,rfl,δ,rfl,h0⟩
 | x ::xs,δ,h0,hs=>by
   obtain⟨o,e2,h2⟩:=hs x List.mem_cons_self δ h0;rw[List.map_cons];unfold oh;cases e3:t (g x) δ with
   | no=>rw [e3] at e2;cases e2
   | ex _=>rw [e3] at e2;cases e2
   | ok dj=>
     rw[e3,R.aG] at e2;rw[R.aG,e2,R.aG,List.findSome?_cons];cases hf:f x with
     | some v=>rw [hf] at h2;subst h2;exact⟨_,rfl,rfl⟩
     | none=>
       rw[hf] at h2;obtain⟨dM,rfl,h2⟩:=h2;exact o8 g f E h2 fun y hy=>hs y (List.mem_cons_of_mem _ hy)
def iR:List Nat->Nat->Vv
 | _,0=>[[]]
 | ps,s+1=>(List.range ps.length).flatMap fun a=>(iR (ps.drop (a+1)) s).map (ps.getD a 0 ::·)
theorem wD:∀{s:Nat} {ps T:List Nat},T∈iR ps s->T.length=s/\∀x∈T,x∈ps
 | 0,ps,T,h=>by unfold iR at h;rw [List.mem_singleton.mp h];simp
 | s+1,ps,T,h=>by
   unfold iR at h;obtain⟨a,ha,h⟩:=List.mem_flatMap.mp h;obtain⟨R,hR,rfl⟩:=List.mem_map.mp h;rw[List.mem_range] at ha;obtain⟨h1,h2⟩:=wD hR;refine⟨by simp [h1],fun x hx=>?_⟩
   rcases List.mem_cons.mp hx with rfl | hx
   .rw [List.getD_eq_getElem?_getD,List.getElem?_eq_getElem ha];exact List.getElem_mem ha
   .exact List.mem_of_mem_drop (h2 x hx)
theorem zT:∀{l:List Nat} {m:Nat},(∀x∈l,x<=m)->l.sum<=l.length*m
 | [],_,_=>by simp
 | x ::l,m,h=>by
   have:=zT (l:=l) (m:=m) fun y hy=>h y (List.mem_cons_of_mem _ hy)
   have h0:=h x List.mem_cons_self;rw[List.sum_cons,List.length_cons,Nat.add_mul];omega
theorem rZ:∀{s:Nat} {ps:List Nat} {n:Nat},ps.length<=n->(iR ps s).length<=n ^ s
 | 0,ps,n,_=>by unfold iR;simp
 | s+1,ps,n,h=>by
   unfold iR;rw[List.length_flatMap,Nat.pow_succ];refine Nat.le_trans (zT (m:=n ^ s) fun x hx=>?_) ?_
   .obtain⟨a,_,rfl⟩:=List.mem_map.mp hx;rw[List.length_map];exact rZ (by rw[List.length_drop];omega)
   .rw [List.length_map,List.length_range,Nat.mul_comm];exact Nat.mul_le_mul_left _ h
theorem qG{F G:FZ}{δ:DE}{S:aN}{QO:Ou->aN->Prop}(h:W3 (F δ S) fun o S1=>match o with | .nx dj=>W3 (G dj S1) QO | .rt v=>QO (.rt v) S1):W3 (bA F G δ S) QO:=
 W3.bind (h.mono fun o S1 q=>by cases o with | nx dj=>exact q | rt v=>exact W3.ok q)
end MT
end
section
namespace K41
open PySem PySem.Spec PyProof.Rows L2 L3
variable {P:Program} {w:World} {K:W.Frag} {mg:Vw} {base:Heap} {cl:Vx}
def top(i:Nat):Stmt:=PySem.Challenge.pw_bearfaults_k41_whole_faults_borne.main.body.getD i (.Pass ⟨0,0,0,0⟩)
structure Tp (K:W.Frag) (mg:Vw) (cl:Vx):Prop where
 z_enumerate:mg "enumerate"=none
 z_range:mg "range"=none
 z_len:mg "len"=none
 z_tuple:mg "tuple"=none
 z_reversed:mg "reversed"=none
 z_all:mg "all"=none
 z_zip:mg "zip"=none
 z_abs:mg "abs"=none
 z_min:mg "min"=none
 z_int:mg "int"=none
 z_sum:mg "sum"=none
 z_max:mg "max"=none
 C_Bench:xn K (cl 0)
 N_Bench_net:dr K (cl 0) "net"
 N_Bench_many_inputs:dr K (cl 0) "many_inputs"
 N_Bench_full:dr K (cl 0) "full"
 N_Bench_in_masks:dr K (cl 0) "in_masks"
 M_Bench:mg "Bench"=some (.ref (cl 0))
 C_Trial:xn K (cl 1)
 N_Trial_bench:dr K (cl 1) "bench"
 N_Trial_plain:dr K (cl 1) "plain"
 N_Trial_unsure:dr K (cl 1) "unsure"
 M_Trial:mg "Trial"=some (.ref (cl 1))
abbrev lg:Stmt:=top 1
noncomputable abbrev u9:List Str:=["masks"]
noncomputable def zA:{b:List Stmt // aJ lg=b}:=⟨_,by conv=>lhs;whnf⟩
noncomputable def sR:{b:Scope // ax lg=b}:=⟨_,by conv=>lhs;whnf⟩
theorem BL:aR u9 ["masks"] sR.1:=⟨rfl,rfl,rfl,by decide+kernel,rfl,by decide+kernel,by decide+kernel⟩
def u0:FS:=(fA (e2 Fm (e2 Fm (e2 z6 (e2 bW (ae 0) (eC (.int 0))) (e2 bW (ae 0) (eC (.int 1)))) (e2 z6 (e2 bW (ae 0) (eC (.int 0))) (e2 bW (ae 0) (eC (.int 2))))) (e2 z6 (e2 bW (ae 0) (eC (.int 1))) (e2 bW (ae 0) (eC (.int 2))))))
def gZ:List D->R D:=rV u9 u0
theorem B6(T:Tp K mg cl)(h:Def K mg "vote_of" lg):Callee P w K mg base 1 "vote_of" 1 gZ:=by
 obtain⟨f,fd,F,hm⟩:=h;exact⟨f,fd,_,cE (k:=0) zA.2 sR.2 F BL (fun dY A outer s H E hr=>(aT (bu (aw vX (aw vX (aw wH (ay (aa 0) af (fun _ _=>rfl)) (ay (aa 0) af (fun _ _=>rfl))) (aw wH (ay (aa 0) af (fun _ _=>rfl)) (ay (aa 0) af (fun _ _=>rfl)))) (aw wH (ay (aa 0) af (fun _ _=>rfl)) (ay (aa 0) af (fun _ _=>rfl))))))),hm,F.kp,F.binds fun _ _ _ _ _ _ us hl=>match us,hl with | [_],_=>rfl⟩
abbrev iM:Stmt:=top 2
noncomputable abbrev mR:List Str:=["kind","masks","full"]
noncomputable def wA:{b:List Stmt // aJ iM=b}:=⟨_,by conv=>lhs;whnf⟩
noncomputable def pP:{b:Scope // ax iM=b}:=⟨_,by conv=>lhs;whnf⟩
theorem xN:aR mR ["kind","masks","full"] pP.1:=⟨rfl,rfl,rfl,by decide+kernel,rfl,by decide+kernel,by decide+kernel⟩
def rf:FS:=(eO (vU (b2 kG (ae 0) (eC (.str "not"))) (fA (e2 B_ (ae 2) (e2 bW (ae 1) (eC (.int 0))))) pZ) (eO (vU (b2 kG (ae 0) (eC (.str "and"))) (fA (e2 z6 (e2 bW (ae 1) (eC (.int 0))) (e2 bW (ae 1) (eC (.int 1))))) pZ) (eO (vU (b2 kG (ae 0) (eC (.str "or"))) (fA (e2 Fm (e2 bW (ae 1) (eC (.int 0))) (e2 bW (ae 1) (eC (.int 1))))) pZ) (eO (vU (b2 kG (ae 0) (eC (.str "xor"))) (fA (e2 B_ (e2 bW (ae 1) (eC (.int 0))) (e2 bW (ae 1) (eC (.int 1))))) pZ) (fA (aP gZ (ak (ae 1) aI)))))))
def iH:List D->R D:=rV mR rf
theorem ya(T:Tp K mg cl)(h:Def K mg "gate_mask" iM)(jr:Callee P w K mg base 1 "vote_of" 1 gZ):Callee P w K mg base 2 "gate_mask" 3 iH:=by
 obtain⟨f,fd,F,hm⟩:=h;exact⟨f,fd,_,cE (k:=1) wA.2 pP.2 F xN (fun dY A outer s H E hr=>(a_ (fW (bO (kQ hr.units) (aa 0) bz (bC _)) (aT (bu (aw wx (aa 2) (ay (aa 1) af (fun _ _=>rfl))))) eX) (a_ (fW (bO (kQ hr.units) (aa 0) bz (bC _)) (aT (bu (aw wH (ay (aa 1) af (fun _ _=>rfl)) (ay (aa 1) af (fun _ _=>rfl))))) eX) (a_ (fW (bO (kQ hr.units) (aa 0) bz (bC _)) (aT (bu (aw vX (ay (aa 1) af (fun _ _=>rfl)) (ay (aa 1) af (fun _ _=>rfl))))) eX) (a_ (fW (bO (kQ hr.units) (aa 0) bz (bC _)) (aT (bu (aw wx (ay (aa 1) af (fun _ _=>rfl)) (ay (aa 1) af (fun _ _=>rfl))))) eX) (aT (bu (bw jr hr (by decide) rfl (ab (aa 1) ag) (aH bU))))))))),hm,F.kp,F.binds fun _ _ _ _ _ _ us hl=>match us,hl with | [_,_,_],_=>rfl⟩
abbrev eF:Stmt:=top 3
noncomputable abbrev fS:List Str:=["ins","in_masks","full","bad","wires","place","mask","figure"]
noncomputable def qD:{b:List Stmt // aJ eF=b}:=⟨_,by conv=>lhs;whnf⟩
noncomputable def lh:{b:Scope // ax eF=b}:=⟨_,by conv=>lhs;whnf⟩
theorem eH:aR fS ["ins","in_masks","full","bad"] lh.1:=⟨rfl,rfl,rfl,by decide+kernel,rfl,by decide+kernel,by decide+kernel⟩
def gu:FZ:=(mX 4 (xT (Kq (b2 Iq (aP gU (ak (ae 4) aI)) (ae 3)) (e2 B_ (ae 2) (ae 6)) (ae 6))))
def kj:FZ:=(ju (iP (cT (e2 bW (e2 bW (ae 0) (ae 5)) (eC (.int 1))))) (k6 7) gu)
def iZ:FZ:=(bA (cH 4 (p7 (eW aI))) (bA (ju (iP (Bb (ae 1))) (GB 2 (Aj (k6 5) (Aj (k6 6) Ii))) kj) (gA (dU 4))))
def d6:List V3->aN->R3 V3:=nU fS iZ
def CQ:List V3->aN->R3 V3:=pC fS iZ
theorem rJ(T:Tp K mg cl)(h:Def K mg "in_wire_masks" eF):bS P w K mg base cl 1 "in_wire_masks" 4 d6:=by
 obtain⟨f,fd,F,hm⟩:=h;exact⟨f,fd,_,bV (k:=0) qD.2 lh.2 F eH (fun dY A outer s H E hr=>(au (bc eH.nd rfl (Or.inl rfl) (iS (bK ag))) (au (dR PassesOwn.never rfl (b_ (zJ (aa 1) rfl T.z_enumerate)) (l3 rfl (cR (aQ eH.nd rfl (Or.inl rfl)) (cR (aQ eH.nd rfl (Or.inl rfl)) jv))) (aL (dR PassesOwn.never rfl (b_ (br (ay (ay (aa 0) (aa 5) (fun _ _=>rfl)) af (fun _ _=>rfl)) rfl T.z_range)) (aQ eH.nd rfl (Or.inl rfl)) (aL (iX rfl (Or.inl rfl) (r6 (An (bO Gu (bg gJ rfl T.z_len PySem.boot_len (ab (aa 4) ag)) (aa 3) (by with_unfolding_all rfl)) (aw wx (aa 2) (aa 6)) (aa 6)))))))) (aL (cJ (bF 4)))))),hm,F.kp,F.binds fun _ _ _ _ _ _ us hl=>match us,hl with | [_,_,_,_],_=>rfl⟩
abbrev jC:Stmt:=top 4
noncomputable abbrev oY:List Str:=["wires","numbers"]
noncomputable def xK:{b:List Stmt // aJ jC=b}:=⟨_,by conv=>lhs;whnf⟩
noncomputable def mZ:{b:Scope // ax jC=b}:=⟨_,by conv=>lhs;whnf⟩
theorem y8:aR oY ["wires","numbers"] mZ.1:=⟨rfl,rfl,rfl,by decide+kernel,rfl,by decide+kernel,by decide+kernel⟩
def tm:FS:=(fA (aP mM (ak (eNew (d4 (d5 (ae 1)) (aK 0) i_ (e2 bW (ae 1) (ae 0)) ["number"] [0])) aI)))
def fX:List D->R D:=rV oY tm
theorem zD(T:Tp K mg cl)(h:Def K mg "masks_at" jC):Callee P w K mg base 1 "masks_at" 2 fX:=by
 obtain⟨f,fd,F,hm⟩:=h;exact⟨f,fd,_,cE (k:=0) xK.2 mZ.2 F y8 (fun dY A outer s H E hr=>(aT (bu (dk pK rfl T.z_tuple PyProof.Rows.boot_tuple (ab (bE (cO rfl (bG.of (own:=["number"]) (kp:=[0]) (kn:=["wires"]) (sc:=mZ.1) (N:=oY) rfl rfl (by decide+kernel)) (cI (aa 1)) (fun _ _ _=>(aV (show List.Nodup [(Str.ofString "number"),"wires"] from by decide+kernel) rfl (Or.inl rfl))) (fun _ _ _=>dz) (fun _ _ _=>(ay (aa 1) (aa 0) (fun _ _=>rfl))))) ag))))),hm,F.kp,F.binds fun _ _ _ _ _ _ us hl=>match us,hl with | [_,_],_=>rfl⟩
abbrev gy:Stmt:=top 5
noncomputable abbrev ji:List Str:=["net","in_masks","full","turned","bad","wires","place","gate","mask"]
noncomputable def uK:{b:List Stmt // aJ gy=b}:=⟨_,by conv=>lhs;whnf⟩
noncomputable def og:{b:Scope // ax gy=b}:=⟨_,by conv=>lhs;whnf⟩
theorem gx:aR ji ["net","in_masks","full","turned","bad"] og.1:=⟨rfl,rfl,rfl,by decide+kernel,rfl,by decide+kernel,by decide+kernel⟩
def jX:FZ:=(bA (cH 8 (xT (aP iH (ak (e2 bW (ae 7) (eC (.int 0))) (ak (aP fX (ak (ae 5) (ak (e2 bW (ae 7) (eC (.int 1))) aI))) (ak (ae 2) aI)))))) (mX 5 (xP (Kq (b2 Iq (ae 6) (ae 3)) (e2 B_ (ae 2) (ae 8)) (ae 8)))))
def l7:FZ:=(bA (cH 5 (f7 d6 (aM (xP (e2 bW (ae 0) (eC (.int 0)))) (aM (xP (ae 1)) (aM (xP (ae 2)) (aM (xP (ae 4)) di)))))) (bA (ju (iP (gr (e2 bW (ae 0) (eC (.int 1))))) (GB 2 (Aj (k6 6) (Aj (k6 7) Ii))) jX) (gA (dU 5))))
def uF:List V3->aN->R3 V3:=nU ji l7
def iF:List V3->aN->R3 V3:=pC ji l7
theorem wz(T:Tp K mg cl)(h:Def K mg "wire_masks" gy)(ip:Callee P w K mg base 1 "masks_at" 2 fX)(nH:Callee P w K mg base 2 "gate_mask" 3 iH)(fq:bS P w K mg base cl 1 "in_wire_masks" 4 d6):bS P w K mg base cl 3 "wire_masks" 5 uF:=by
 obtain⟨f,fd,F,hm⟩:=h;exact⟨f,fd,_,bV (k:=2) uK.2 og.2 F gx (fun dY A outer s H E hr=>(au (bc gx.nd rfl (Or.inl rfl) (dv fq hr (by decide) rfl (aq (ah (ay (aa 0) af (fun _ _=>rfl))) (aq (ah (aa 1)) (aq (ah (aa 2)) (aq (ah (aa 4)) aU)))) (ao (ao (ao (ao aS)))))) (au (dR PassesOwn.never rfl (b_ (k7 (ay (aa 0) af (fun _ _=>rfl)) rfl T.z_enumerate)) (l3 rfl (cR (aQ gx.nd rfl (Or.inl rfl)) (cR (aQ gx.nd rfl (Or.inl rfl)) jv))) (au (bc gx.nd rfl (Or.inl rfl) (r6 (bw nH hr (by decide) rfl (ab (ay (aa 7) af (fun _ _=>rfl)) (ab (bw ip hr (by decide) rfl (ab (aa 5) (ab (ay (aa 7) af (fun _ _=>rfl)) ag)) (aH (aH bU))) (ab (aa 2) ag))) (aH (aH (aH bU)))))) (aL (iX rfl (Or.inl rfl) (ah (An (bO Gu (aa 6) (aa 3) (by with_unfolding_all rfl)) (aw wx (aa 2) (aa 8)) (aa 8))))))) (aL (cJ (bF 5)))))),hm,F.kp,F.binds fun _ _ _ _ _ _ us hl=>match us,hl with | [_,_,_,_,_],_=>rfl⟩
abbrev iJ:Stmt:=top 6
noncomputable abbrev iI:List Str:=["net","wires"]
noncomputable def vR:{b:List Stmt // aJ iJ=b}:=⟨_,by conv=>lhs;whnf⟩
noncomputable def lW:{b:Scope // ax iJ=b}:=⟨_,by conv=>lhs;whnf⟩
theorem xY:aR iI ["net","wires"] lW.1:=⟨rfl,rfl,rfl,by decide+kernel,rfl,by decide+kernel,by decide+kernel⟩
def mY:FZ:=(gA (p7 (d4 (d5 (e2 bW (ae 0) (eC (.int 2)))) (jA 2 (cG (aK 0) (cG (aK 1) jZ))) i_ (aP fX (ak (ae 2) (ak (ae 1) aI))) ["name","numbers"] [1])))
def vP:List V3->aN->R3 V3:=nU iI mY
def ja:List V3->aN->R3 V3:=pC iI mY
theorem yu(T:Tp K mg cl)(h:Def K mg "out_masks" iJ)(ip:Callee P w K mg base 1 "masks_at" 2 fX):bS P w K mg base cl 2 "out_masks" 2 vP:=by
 obtain⟨f,fd,F,hm⟩:=h;exact⟨f,fd,_,bV (k:=1) vR.2 lW.2 F xY (fun dY A outer s H E hr=>(aL (cJ (iS (cO rfl (bG.of (own:=["name","numbers"]) (kp:=[1]) (kn:=["wires"]) (sc:=lW.1) (N:=iI) rfl rfl (by decide+kernel)) (cI (ay (aa 0) af (fun _ _=>rfl))) (fun _ _ _=>(lD rfl (cU (aV (show List.Nodup [(Str.ofString "name"),"numbers","wires"] from by decide+kernel) rfl (Or.inl rfl)) (cU (aV (show List.Nodup [(Str.ofString "name"),"numbers","wires"] from by decide+kernel) rfl (Or.inl rfl)) jl)))) (fun _ _ _=>dz) (fun _ _ _=>(bw ip hr (by decide) rfl (ab (aa 2) (ab (aa 1) ag)) (aH (aH bU))))))))),hm,F.kp,F.binds fun _ _ _ _ _ _ us hl=>match us,hl with | [_,_],_=>rfl⟩
abbrev lq:Stmt:=top 7
noncomputable abbrev nT:List Str:=["masks","full","ones"]
noncomputable def za:{b:List Stmt // aJ lq=b}:=⟨_,by conv=>lhs;whnf⟩
noncomputable def t9:{b:Scope // ax lq=b}:=⟨_,by conv=>lhs;whnf⟩
theorem vh:aR nT ["masks","full"] t9.1:=⟨rfl,rfl,rfl,by decide+kernel,rfl,by decide+kernel,by decide+kernel⟩
def uU:FS:=(eO (vU (b2 kG (aP gU (ak (ae 0) aI)) (eC (.int 2))) (fA (dX (ak (e2 B_ (ae 1) (e2 Fm (e2 bW (ae 0) (eC (.int 0))) (e2 bW (ae 0) (eC (.int 1))))) (ak (e2 z6 (e2 bW (ae 0) (eC (.int 0))) (e2 bW (ae 0) (eC (.int 1)))) aI)))) pZ) (eO (l_ 2 (Kq (b2 kG (aP gU (ak (ae 0) aI)) (eC (.int 1))) (e2 bW (ae 0) (eC (.int 0))) (aP gZ (ak (ae 0) aI)))) (fA (dX (ak (e2 B_ (ae 1) (ae 2)) (ak (ae 2) aI))))))
def lI:List D->R D:=rV nT uU
theorem Cj(T:Tp K mg cl)(h:Def K mg "reading" lq)(jr:Callee P w K mg base 1 "vote_of" 1 gZ):Callee P w K mg base 2 "reading" 2 lI:=by
 obtain⟨f,fd,F,hm⟩:=h;exact⟨f,fd,_,cE (k:=1) za.2 t9.2 F vh (fun dY A outer s H E hr=>(a_ (fW (bO (kQ hr.units) (bg gJ rfl T.z_len PySem.boot_len (ab (aa 0) ag)) af (bC _)) (aT (bu (bq (ab (aw wx (aa 1) (aw vX (ay (aa 0) af (fun _ _=>rfl)) (ay (aa 0) af (fun _ _=>rfl)))) (ab (aw wH (ay (aa 0) af (fun _ _=>rfl)) (ay (aa 0) af (fun _ _=>rfl))) ag))))) eX) (a_ (dF vh.nd rfl (Or.inl rfl) (An (bO (kQ hr.units) (bg gJ rfl T.z_len PySem.boot_len (ab (aa 0) ag)) af (bC _)) (ay (aa 0) af (fun _ _=>rfl)) (bw jr hr (by decide) rfl (ab (aa 0) ag) (aH bU)))) (aT (bu (bq (ab (aw wx (aa 1) (aa 2)) (ab (aa 2) ag)))))))),hm,F.kp,F.binds fun _ _ _ _ _ _ us hl=>match us,hl with | [_,_],_=>rfl⟩
abbrev mS:Stmt:=top 8
noncomputable abbrev yd:List Str:=["mask","number"]
noncomputable def CL:{b:List Stmt // aJ mS=b}:=⟨_,by conv=>lhs;whnf⟩
noncomputable def vF:{b:Scope // ax mS=b}:=⟨_,by conv=>lhs;whnf⟩
theorem E4:aR yd ["mask","number"] vF.1:=⟨rfl,rfl,rfl,by decide+kernel,rfl,by decide+kernel,by decide+kernel⟩
def yi:FS:=(fA (e2 z6 (e2 x_ (ae 0) (ae 1)) (eC (.int 1))))
def fL:List D->R D:=rV yd yi
theorem C7(T:Tp K mg cl)(h:Def K mg "bit_at" mS):Callee P w K mg base 1 "bit_at" 2 fL:=by
 obtain⟨f,fd,F,hm⟩:=h;exact⟨f,fd,_,cE (k:=0) CL.2 vF.2 F E4 (fun dY A outer s H E hr=>(aT (bu (aw wH (aw Ik (aa 0) (aa 1)) af)))),hm,F.kp,F.binds fun _ _ _ _ _ _ us hl=>match us,hl with | [_,_],_=>rfl⟩
abbrev k8:Stmt:=top 9
noncomputable abbrev ll:List Str:=["masks","number"]
noncomputable def zq:{b:List Stmt // aJ k8=b}:=⟨_,by conv=>lhs;whnf⟩
noncomputable def tw:{b:Scope // ax k8=b}:=⟨_,by conv=>lhs;whnf⟩
theorem B0:aR ll ["masks","number"] tw.1:=⟨rfl,rfl,rfl,by decide+kernel,rfl,by decide+kernel,by decide+kernel⟩
def u6:FS:=(eO (vU (b2 kG (aP fL (ak (e2 bW (ae 0) (eC (.int 0))) (ak (ae 1) aI))) (eC (.int 1))) (fA (eC (.int 0))) pZ) (eO (vU (b2 kG (aP fL (ak (e2 bW (ae 0) (eC (.int 1))) (ak (ae 1) aI))) (eC (.int 1))) (fA (eC (.int 1))) pZ) (fA (eC .cn))))
def lx:List D->R D:=rV ll u6
theorem BI(T:Tp K mg cl)(h:Def K mg "read_at" k8)(j4:Callee P w K mg base 1 "bit_at" 2 fL):Callee P w K mg base 2 "read_at" 2 lx:=by
 obtain⟨f,fd,F,hm⟩:=h;exact⟨f,fd,_,cE (k:=1) zq.2 tw.2 F B0 (fun dY A outer s H E hr=>(a_ (fW (bO (kQ hr.units) (bw j4 hr (by decide) rfl (ab (ay (aa 0) af (fun _ _=>rfl)) (ab (aa 1) ag)) (aH (aH bU))) af (bC _)) (aT (bu af)) eX) (a_ (fW (bO (kQ hr.units) (bw j4 hr (by decide) rfl (ab (ay (aa 0) af (fun _ _=>rfl)) (ab (aa 1) ag)) (aH (aH bU))) af (bC _)) (aT (bu af)) eX) (aT (bu kB))))),hm,F.kp,F.binds fun _ _ _ _ _ _ us hl=>match us,hl with | [_,_],_=>rfl⟩
abbrev gG:Stmt:=top 10
noncomputable abbrev jj:List Str:=["count","inputs","place","longer","bits"]
noncomputable def uP:{b:List Stmt // aJ gG=b}:=⟨_,by conv=>lhs;whnf⟩
noncomputable def n_:{b:Scope // ax gG=b}:=⟨_,by conv=>lhs;whnf⟩
theorem fk:aR jj ["count"] n_.1:=⟨rfl,rfl,rfl,by decide+kernel,rfl,by decide+kernel,by decide+kernel⟩
def nq:FZ:=(bA (mX 3 (xP (e2 kq (ae 4) (dX (ak (eC (.int 0)) aI))))) (mX 3 (xP (e2 kq (ae 4) (dX (ak (eC (.int 1)) aI))))))
def m_:FZ:=(xp 1 (bA (cH 3 (p7 (eW aI))) (bA (ju (iP (d5 (ae 1))) (k6 4) nq) (cH 1 (dU 3)))))
def lU:FZ:=(bA (cH 1 (p7 (eW (ak (dX aI) aI)))) (bA (ju (iP (cT (ae 0))) (k6 2) m_) (gA (dU 1))))
def uD:List V3->aN->R3 V3:=nU jj lU
def iC:List V3->aN->R3 V3:=pC jj lU
theorem wL(T:Tp K mg cl)(h:Def K mg "all_inputs" gG):bS P w K mg base cl 1 "all_inputs" 1 uD:=by
 obtain⟨f,fd,F,hm⟩:=h;exact⟨f,fd,_,bV (k:=0) uP.2 n_.2 F fk (fun dY A outer s H E hr=>(au (bc fk.nd rfl (Or.inl rfl) (iS (bK (ab (bq ag) ag)))) (au (dR PassesOwn.never rfl (b_ (br (aa 0) rfl T.z_range)) (aQ fk.nd rfl (Or.inl rfl)) (rT 1 (au (bc fk.nd rfl (Or.inl rfl) (iS (bK ag))) (au (dR PassesOwn.never rfl (b_ (cI (aa 1))) (aQ fk.nd rfl (Or.inl rfl)) (au (iX rfl (Or.inl rfl) (ah (aw oU (aa 4) (bq (ab af ag))))) (aL (iX rfl (Or.inl rfl) (ah (aw oU (aa 4) (bq (ab af ag)))))))) (aL (bc fk.nd rfl (Or.inl rfl) (bF 3))))))) (aL (cJ (bF 1)))))),hm,F.kp,F.binds fun _ _ _ _ _ _ us hl=>match us,hl with | [_],_=>rfl⟩
abbrev lz:Stmt:=top 11
noncomputable abbrev qE:List Str:=["bits","mask","bit"]
noncomputable def Ak:{b:List Stmt // aJ lz=b}:=⟨_,by conv=>lhs;whnf⟩
noncomputable def sS:{b:Scope // ax lz=b}:=⟨_,by conv=>lhs;whnf⟩
theorem nW:aR qE ["bits"] sS.1:=⟨rfl,rfl,rfl,by decide+kernel,rfl,by decide+kernel,by decide+kernel⟩
def nv:FS:=(l_ 1 (e2 eD (e2 wq (ae 1) (eC (.int 2))) (ae 2)))
def vt:FS:=(eO (l_ 1 (eC (.int 0))) (eO (rM (H_ (ae 0)) (aK 2) nv) (fA (ae 1))))
def g_:List D->R D:=rV qE vt
theorem Cr(T:Tp K mg cl)(h:Def K mg "mask_of" lz):Callee P w K mg base 1 "mask_of" 1 g_:=by
 obtain⟨f,fd,F,hm⟩:=h;exact⟨f,fd,_,cE (k:=0) Ak.2 sS.2 F nW (fun dY A outer s H E hr=>(a_ (dF nW.nd rfl (Or.inl rfl) af) (a_ (iK PassesOwn.never rfl (ES (aa 0) rfl T.z_reversed) (aV nW.nd rfl (Or.inl rfl)) (aT (dF nW.nd rfl (Or.inl rfl) (aw el (aw uW (aa 1) af) (aa 2))))) (aT (bu (aa 1)))))),hm,F.kp,F.binds fun _ _ _ _ _ _ us hl=>match us,hl with | [_],_=>rfl⟩
abbrev lj:Stmt:=top 12
noncomputable abbrev qq:List Str:=["inputs","place"]
noncomputable def Ah:{b:List Stmt // aJ lj=b}:=⟨_,by conv=>lhs;whnf⟩
noncomputable def oK:{b:Scope // ax lj=b}:=⟨_,by conv=>lhs;whnf⟩
theorem BK:aR qq ["inputs","place"] oK.1:=⟨rfl,rfl,rfl,by decide+kernel,rfl,by decide+kernel,by decide+kernel⟩
def vq:FS:=(fA (aP g_ (ak (eNew (d4 (d5 (ae 0)) (aK 0) i_ (e2 bW (ae 0) (ae 1)) ["bits"] [1])) aI)))
def lL:List D->R D:=rV qq vq
theorem BS(T:Tp K mg cl)(h:Def K mg "in_mask" lj)(jq:Callee P w K mg base 1 "mask_of" 1 g_):Callee P w K mg base 2 "in_mask" 2 lL:=by
 obtain⟨f,fd,F,hm⟩:=h;exact⟨f,fd,_,cE (k:=1) Ah.2 oK.2 F BK (fun dY A outer s H E hr=>(aT (bu (bw jq hr (by decide) rfl (ab (bE (cO rfl (bG.of (own:=["bits"]) (kp:=[1]) (kn:=["place"]) (sc:=oK.1) (N:=qq) rfl rfl (by decide+kernel)) (cI (aa 0)) (fun _ _ _=>(aV (show List.Nodup [(Str.ofString "bits"),"place"] from by decide+kernel) rfl (Or.inl rfl))) (fun _ _ _=>dz) (fun _ _ _=>(ay (aa 0) (aa 1) (fun _ _=>rfl))))) ag) (aH bU))))),hm,F.kp,F.binds fun _ _ _ _ _ _ us hl=>match us,hl with | [_,_],_=>rfl⟩
abbrev bZ:Stmt:=inClass (top 13) 0
noncomputable abbrev dh:List Str:=["self","net","inputs"]
noncomputable def pH:{b:List Stmt // aJ bZ=b}:=⟨_,by conv=>lhs;whnf⟩
noncomputable def eQ:{b:Scope // ax bZ=b}:=⟨_,by conv=>lhs;whnf⟩
theorem lB:aR dh ["self","net"] eQ.1:=⟨rfl,rfl,rfl,by decide+kernel,rfl,by decide+kernel,by decide+kernel⟩
def hJ:FZ:=(bA (cH 2 (f7 iC (aM (xP (aP gU (ak (e2 bW (ae 1) (eC (.int 0))) aI))) di))) (bA (wk 0 "net" (dU 0) (xP (ae 1))) (bA (wk 0 "many_inputs" (dU 0) (xP (aP gU (ak (ae 2) aI)))) (bA (wk 0 "full" (dU 0) (xP (aP g_ (ak (eNew (d4 (d5 (ae 2)) (aK 0) i_ (eC (.int 1)) ["bits"] [])) aI)))) (wk 0 "in_masks" (dU 0) (xP (eNew (d4 (cT (aP gU (ak (e2 bW (ae 1) (eC (.int 0))) aI))) (aK 0) i_ (aP lL (ak (ae 1) (ak (ae 0) aI))) ["place"] [2]))))))))
def bM:List V3->aN->R3 V3:=nU dh hJ
def Bp:List V3->aN->R3 V3:=pC dh hJ
theorem ec(T:Tp K mg cl)(h:BN K (cl 0) "__init__" "Bench.__init__" bZ)(jq:Callee P w K mg base 1 "mask_of" 1 g_)(qU:Callee P w K mg base 2 "in_mask" 2 lL)(kW:bS P w K mg base cl 1 "all_inputs" 1 iC):rp P w K mg base cl 3 0 "Bench" 1 bM:=by
 obtain⟨f,fd,F,hm⟩:=h;exact⟨f,fd,_,hm,bV (k:=2) pH.2 eQ.2 F lB (fun dY A outer s H E hr=>(au (bc lB.nd rfl (Or.inr rfl) (dv kW hr (by decide) rfl (aq (ah (bg gJ rfl T.z_len PySem.boot_len (ab (ay (aa 1) af (fun _ _=>rfl)) ag))) aU) (ao aS))) (au (oW T.C_Bench T.N_Bench_net (bF 0) (ah (aa 1))) (au (oW T.C_Bench T.N_Bench_many_inputs (bF 0) (ah (bg gJ rfl T.z_len PySem.boot_len (ab (aa 2) ag)))) (au (oW T.C_Bench T.N_Bench_full (bF 0) (ah (bw jq hr (by decide) rfl (ab (bE (cO rfl (bG.of (own:=["bits"]) (kp:=[]) (kn:=[]) (sc:=eQ.1) (N:=dh) rfl rfl (by decide+kernel)) (cI (aa 2)) (fun _ _ _=>(aV (show List.Nodup [(Str.ofString "bits")] from by decide+kernel) rfl (Or.inl rfl))) (fun _ _ _=>dz) (fun _ _ _=>af))) ag) (aH bU)))) (aL (oW T.C_Bench T.N_Bench_in_masks (bF 0) (ah (bE (cO rfl (bG.of (own:=["place"]) (kp:=[2]) (kn:=["inputs"]) (sc:=eQ.1) (N:=dh) rfl rfl (by decide+kernel)) (br (bg gJ rfl T.z_len PySem.boot_len (ab (ay (aa 1) af (fun _ _=>rfl)) ag)) rfl T.z_range) (fun _ _ _=>(aV (show List.Nodup [(Str.ofString "place"),"inputs"] from by decide+kernel) rfl (Or.inl rfl))) (fun _ _ _=>dz) (fun _ _ _=>(bw qU hr (by decide) rfl (ab (aa 1) (ab (aa 0) ag)) (aH (aH bU)))))))))))))),T.M_Bench,F.binds fun _ _ _ _ _ _ us hl=>match us,hl with | [_,_],_=>rfl⟩
abbrev cL:Stmt:=inClass (top 13) 1
noncomputable abbrev iB:List Str:=["self","turned","bad"]
noncomputable def ue:{b:List Stmt // aJ cL=b}:=⟨_,by conv=>lhs;whnf⟩
noncomputable def nc:{b:Scope // ax cL=b}:=⟨_,by conv=>lhs;whnf⟩
theorem ur:aR iB ["self","turned","bad"] nc.1:=⟨rfl,rfl,rfl,by decide+kernel,rfl,by decide+kernel,by decide+kernel⟩
def kO:FZ:=(gA (f7 ja (aM (mH 0 "net" (dU 0)) (aM (f7 iF (aM (mH 0 "net" (dU 0)) (aM (mH 0 "in_masks" (dU 0)) (aM (mH 0 "full" (dU 0)) (aM (xP (ae 1)) (aM (xP (ae 2)) di)))))) di))))
def t6:List V3->aN->R3 V3:=nU iB kO
def gp:List V3->aN->R3 V3:=pC iB kO
theorem fK(T:Tp K mg cl)(h:oG K (cl 0) "tells" "Bench.tells" cL)(k5:bS P w K mg base cl 3 "wire_masks" 5 iF)(mj:bS P w K mg base cl 2 "out_masks" 2 ja):gH P w K mg base cl 4 0 "tells" 2 t6:=by
 obtain⟨f,fd,F,hm⟩:=h;exact⟨f,fd,_,T.C_Bench,hm,bV (k:=3) ue.2 nc.2 F ur (fun dY A outer s H E hr=>(aL (cJ (dv mj hr (by decide) rfl (aq (fw T.C_Bench T.N_Bench_net (bF 0)) (aq (dv k5 hr (by decide) rfl (aq (fw T.C_Bench T.N_Bench_net (bF 0)) (aq (fw T.C_Bench T.N_Bench_in_masks (bF 0)) (aq (fw T.C_Bench T.N_Bench_full (bF 0)) (aq (ah (aa 1)) (aq (ah (aa 2)) aU))))) (ao (ao (ao (ao (ao aS)))))) aU)) (ao (ao aS)))))),F.binds fun _ _ _ _ _ _ us hl=>match us,hl with | [_,_,_],_=>rfl⟩
abbrev bY:Stmt:=inClass (top 13) 2
noncomputable abbrev d9:List Str:=["self","turned"]
noncomputable def qd:{b:List Stmt // aJ bY=b}:=⟨_,by conv=>lhs;whnf⟩
noncomputable def gz:{b:Scope // ax bY=b}:=⟨_,by conv=>lhs;whnf⟩
theorem qJ:aR d9 ["self","turned"] gz.1:=⟨rfl,rfl,rfl,by decide+kernel,rfl,by decide+kernel,by decide+kernel⟩
def h_:FZ:=(gA (i8 (yh (ko 0 "tells" gp (dU 0) (aM (xP (ae 1)) (aM (xP (dX aI)) di)))) (k6 0) uH (kP lI (aM (xP (ae 0)) (aM (mH 0 "full" (dU 1)) di))) ["masks"] [0]))
def pW:List V3->aN->R3 V3:=nU d9 h_
def bx:List V3->aN->R3 V3:=pC d9 h_
theorem d7(T:Tp K mg cl)(h:oG K (cl 0) "readings" "Bench.readings" bY)(qW:Callee P w K mg base 2 "reading" 2 lI)(j2:gH P w K mg base cl 4 0 "tells" 2 gp):gH P w K mg base cl 5 0 "readings" 1 pW:=by
 obtain⟨f,fd,F,hm⟩:=h;exact⟨f,fd,_,T.C_Bench,hm,bV (k:=4) qd.2 gz.2 F qJ (fun dY A outer s H E hr=>(aL (cJ (nV rfl (bG.of (own:=["masks"]) (kp:=[0]) (kn:=["self"]) (sc:=gz.1) (N:=d9) rfl rfl (by decide+kernel)) (nS (fT j2 hr (by decide) (bF 0) (aq (ah (aa 1)) (aq (ah (bq ag)) aU)) (ao (ao aS)))) (fun _ _ _=>(aQ (show List.Nodup [(Str.ofString "masks"),"self"] from by decide+kernel) rfl (Or.inl rfl))) (fun _ _ _=>g8) (fun _ _ _=>(sV qW hr (by decide) rfl (aq (ah (aa 0)) (aq (fw T.C_Bench T.N_Bench_full (bF 1)) aU)) (ao (ao aS)))))))),F.binds fun _ _ _ _ _ _ us hl=>match us,hl with | [_,_],_=>rfl⟩
abbrev jN:Stmt:=top 14
noncomputable abbrev js:List Str:=["net","bench"]
noncomputable def xw:{b:List Stmt // aJ jN=b}:=⟨_,by conv=>lhs;whnf⟩
noncomputable def mL:{b:Scope // ax jN=b}:=⟨_,by conv=>lhs;whnf⟩
theorem sv:aR js ["net"] mL.1:=⟨rfl,rfl,rfl,by decide+kernel,rfl,by decide+kernel,by decide+kernel⟩
def o9:FZ:=(bA (cH 1 (ua 0 bM (aM (xP (ae 0)) di))) (gA (kP JY (aM (i8 (yh (ko 0 "readings" bx (dU 1) (aM (xP (dX aI)) di))) (k6 0) uH (x2 kG (xP (e2 Fm (e2 bW (ae 0) (eC (.int 0))) (e2 bW (ae 0) (eC (.int 1))))) (mH 0 "full" (dU 1))) ["masks"] [1]) di))))
def xu:List V3->aN->R3 V3:=nU js o9
def m6:List V3->aN->R3 V3:=pC js o9
theorem zj(T:Tp K mg cl)(h:Def K mg "is_sound" jN)(bQ:rp P w K mg base cl 3 0 "Bench" 1 bM)(bj:gH P w K mg base cl 5 0 "readings" 1 bx):bS P w K mg base cl 6 "is_sound" 1 xu:=by
 obtain⟨f,fd,F,hm⟩:=h;exact⟨f,fd,_,bV (k:=5) xw.2 mL.2 F sv (fun dY A outer s H E hr=>(au (bc sv.nd rfl (Or.inr rfl) (pU bQ hr (by decide) rfl (aq (ah (aa 0)) aU) (ao aS))) (aL (cJ (si (L9 rfl) rfl T.z_all PyProof.Rows.boot_all (aq (nV rfl (bG.of (own:=["masks"]) (kp:=[1]) (kn:=["bench"]) (sc:=mL.1) (N:=js) rfl rfl (by decide+kernel)) (nS (fT bj hr (by decide) (bF 1) (aq (ah (bq ag)) aU) (ao aS))) (fun _ _ _=>(aQ (show List.Nodup [(Str.ofString "masks"),"bench"] from by decide+kernel) rfl (Or.inl rfl))) (fun _ _ _=>g8) (fun _ _ _=>(zd (kQ hr.units) (ah (aw vX (ay (aa 0) af (fun _ _=>rfl)) (ay (aa 0) af (fun _ _=>rfl)))) (fw T.C_Bench T.N_Bench_full (bF 1)) (bC _)))) aU)))))),hm,F.kp,F.binds fun _ _ _ _ _ _ us hl=>match us,hl with | [_],_=>rfl⟩
abbrev cA:Stmt:=inClass (top 13) 3
noncomputable abbrev eY:List Str:=["self","masks"]
noncomputable def rL:{b:List Stmt // aJ cA=b}:=⟨_,by conv=>lhs;whnf⟩
noncomputable def iV:{b:Scope // ax cA=b}:=⟨_,by conv=>lhs;whnf⟩
theorem tG:aR eY ["self","masks"] iV.1:=⟨rfl,rfl,rfl,by decide+kernel,rfl,by decide+kernel,by decide+kernel⟩
def jT:FZ:=(gA (i8 (u_ (mH 0 "many_inputs" (dU 0))) (k6 0) uH (xP (aP lx (ak (ae 1) (ak (ae 0) aI)))) ["number"] [1]))
def rG:List V3->aN->R3 V3:=nU eY jT
def fU:List V3->aN->R3 V3:=pC eY jT
theorem e8(T:Tp K mg cl)(h:oG K (cl 0) "column" "Bench.column" cA)(qO:Callee P w K mg base 2 "read_at" 2 lx):gH P w K mg base cl 3 0 "column" 1 rG:=by
 obtain⟨f,fd,F,hm⟩:=h;exact⟨f,fd,_,T.C_Bench,hm,bV (k:=2) rL.2 iV.2 F tG (fun dY A outer s H E hr=>(aL (cJ (nV rfl (bG.of (own:=["number"]) (kp:=[1]) (kn:=["masks"]) (sc:=iV.1) (N:=eY) rfl rfl (by decide+kernel)) (tS (fw T.C_Bench T.N_Bench_many_inputs (bF 0)) rfl T.z_range) (fun _ _ _=>(aQ (show List.Nodup [(Str.ofString "number"),"masks"] from by decide+kernel) rfl (Or.inl rfl))) (fun _ _ _=>g8) (fun _ _ _=>(ah (bw qO hr (by decide) rfl (ab (aa 1) (ab (aa 0) ag)) (aH (aH bU))))))))),F.binds fun _ _ _ _ _ _ us hl=>match us,hl with | [_,_],_=>rfl⟩
abbrev lH:Stmt:=top 15
noncomputable abbrev lO:List Str:=["net","bench"]
noncomputable def ze:{b:List Stmt // aJ lH=b}:=⟨_,by conv=>lhs;whnf⟩
noncomputable def oS:{b:Scope // ax lH=b}:=⟨_,by conv=>lhs;whnf⟩
theorem uZ:aR lO ["net"] oS.1:=⟨rfl,rfl,rfl,by decide+kernel,rfl,by decide+kernel,by decide+kernel⟩
def qm:FZ:=(bA (cH 1 (ua 0 bM (aM (xP (ae 0)) di))) (gA (i8 (yh (ko 0 "readings" bx (dU 1) (aM (xP (dX aI)) di))) (k6 0) uH (ko 0 "column" fU (dU 1) (aM (xP (ae 0)) di)) ["masks"] [1])))
def zi:List V3->aN->R3 V3:=nU lO qm
def oV:List V3->aN->R3 V3:=pC lO qm
theorem BF(T:Tp K mg cl)(h:Def K mg "columns" lH)(bQ:rp P w K mg base cl 3 0 "Bench" 1 bM)(bj:gH P w K mg base cl 5 0 "readings" 1 bx)(i7:gH P w K mg base cl 3 0 "column" 1 fU):bS P w K mg base cl 6 "columns" 1 zi:=by
 obtain⟨f,fd,F,hm⟩:=h;exact⟨f,fd,_,bV (k:=5) ze.2 oS.2 F uZ (fun dY A outer s H E hr=>(au (bc uZ.nd rfl (Or.inr rfl) (pU bQ hr (by decide) rfl (aq (ah (aa 0)) aU) (ao aS))) (aL (cJ (nV rfl (bG.of (own:=["masks"]) (kp:=[1]) (kn:=["bench"]) (sc:=oS.1) (N:=lO) rfl rfl (by decide+kernel)) (nS (fT bj hr (by decide) (bF 1) (aq (ah (bq ag)) aU) (ao aS))) (fun _ _ _=>(aQ (show List.Nodup [(Str.ofString "masks"),"bench"] from by decide+kernel) rfl (Or.inl rfl))) (fun _ _ _=>g8) (fun _ _ _=>(fT i7 hr (by decide) (bF 1) (aq (ah (aa 0)) aU) (ao aS)))))))),hm,F.kp,F.binds fun _ _ _ _ _ _ us hl=>match us,hl with | [_],_=>rfl⟩
abbrev lA:Stmt:=top 17
noncomputable abbrev k_:List Str:=["places","size","found","ahead","place","rest"]
noncomputable def zK:{b:List Stmt // aJ lA=b}:=⟨_,by conv=>lhs;whnf⟩
noncomputable def tY:{b:Scope // ax lA=b}:=⟨_,by conv=>lhs;whnf⟩
theorem lQ:aR k_ ["places","size"] tY.1:=⟨rfl,rfl,rfl,by decide+kernel,rfl,by decide+kernel,by decide+kernel⟩
def nE(self:List D->R D):FS:=(zG 2 (e2 kq (dX (ak (ae 4) aI)) (ae 5)))
def nB(self:List D->R D):FS:=(rM (d5 (aP self (ak (LX (ae 0) (xA (e2 kq (ae 3) (eC (.int 1)))) El) (ak (e2 qH (ae 1) (eC (.int 1))) aI)))) (aK 5) (nE self))
def lM(self:List D->R D):FS:=(eO (vU (b2 kG (ae 1) (eC (.int 0))) (fA (eNew (eW (ak (dX aI) aI)))) pZ) (eO (Ad 2 (eW aI)) (eO (rM (gr (ae 0)) (jA 2 (cG (aK 3) (cG (aK 4) jZ))) (nB self)) (Dx 2 (fA (ae 2))))))
def eJ:Nat->List D->R D
 | 0=>fun _=> .no
 | n+1=>rV k_ (lM (eJ n))
theorem vj(T:Tp K mg cl)(h:Def K mg "choices" lA):∀n,Callee P w K mg base (1+n) "choices" 2 (eJ n)
 | 0=>by
   obtain⟨f,fd,F,hm⟩:=h;exact⟨f,fd,["places","size"],LO,hm,F.kp,F.binds fun _ _ _ _ _ _ us hl=>match us,hl with | [_,_],_=>rfl⟩
 | n+1=>by
   have K_:=vj T h n;obtain⟨f,fd,F,hm⟩:=h;exact⟨f,fd,_,cE (k:=1+n) zK.2 tY.2 F lQ (fun dY A outer s H E hr=>(a_ (fW (bO (kQ hr.units) (aa 1) af (bC _)) (aT (bu (bE (bK (ab (bq ag) ag))))) eX) (a_ (ye lQ.nd rfl (Or.inl rfl) (bK ag)) (a_ (iK PassesOwn.never rfl (k7 (aa 0) rfl T.z_enumerate) (lD rfl (cU (aV lQ.nd rfl (Or.inl rfl)) (cU (aV lQ.nd rfl (Or.inl rfl)) jl))) (aT (iK PassesOwn.never rfl (cI (bw K_ hr (by omega) rfl (ab (JD (aa 0) (C9 (aw oU (aa 3) af)) EW) (ab (aw q_ (aa 1) af) ag)) (aH (aH bU)))) (aV lQ.nd rfl (Or.inl rfl)) (aT (se rfl (Or.inl rfl) (aw oU (bq (ab (aa 4) ag)) (aa 5))))))) (yI 2 (aT (bu (aa 2)))))))),hm,F.kp,F.binds fun _ _ _ _ _ _ us hl=>match us,hl with | [_,_],_=>rfl⟩
abbrev bX:Stmt:=inClass (top 18) 0
noncomputable abbrev ee:List Str:=["self","net"]
noncomputable def p9:{b:List Stmt // aJ bX=b}:=⟨_,by conv=>lhs;whnf⟩
noncomputable def gf:{b:Scope // ax bX=b}:=⟨_,by conv=>lhs;whnf⟩
theorem qp:aR ee ["self","net"] gf.1:=⟨rfl,rfl,rfl,by decide+kernel,rfl,by decide+kernel,by decide+kernel⟩
def ia:FZ:=(bA (wk 1 "bench" (dU 0) (ua 0 bM (aM (xP (ae 1)) di))) (bA (wk 1 "plain" (dU 0) (ko 0 "readings" bx (mH 1 "bench" (dU 0)) (aM (xP (dX aI)) di))) (wk 1 "unsure" (dU 0) (xP (eNew (d4 (gr (e2 bW (ae 1) (eC (.int 1)))) (jA 2 (cG (aK 0) (cG (aK 1) jZ))) (wg (v_ (e2 bW (ae 1) (eC (.int 2))))) (ae 0) ["place","gate"] []))))))
def cC:List V3->aN->R3 V3:=nU ee ia
def A6:List V3->aN->R3 V3:=pC ee ia
theorem d8(T:Tp K mg cl)(h:BN K (cl 1) "__init__" "Trial.__init__" bX)(bQ:rp P w K mg base cl 3 0 "Bench" 1 bM)(bj:gH P w K mg base cl 5 0 "readings" 1 bx):rp P w K mg base cl 6 1 "Trial" 1 cC:=by
 obtain⟨f,fd,F,hm⟩:=h;exact⟨f,fd,_,hm,bV (k:=5) p9.2 gf.2 F qp (fun dY A outer s H E hr=>(au (oW T.C_Trial T.N_Trial_bench (bF 0) (pU bQ hr (by decide) rfl (aq (ah (aa 1)) aU) (ao aS))) (au (oW T.C_Trial T.N_Trial_plain (bF 0) (fT bj hr (by decide) (fw T.C_Trial T.N_Trial_bench (bF 0)) (aq (ah (bq ag)) aU) (ao aS))) (aL (oW T.C_Trial T.N_Trial_unsure (bF 0) (ah (bE (cO rfl (bG.of (own:=["place","gate"]) (kp:=[]) (kn:=[]) (sc:=gf.1) (N:=ee) rfl rfl (by decide+kernel)) (k7 (ay (aa 1) af (fun _ _=>rfl)) rfl T.z_enumerate) (fun _ _ _=>(lD rfl (cU (aV (show List.Nodup [(Str.ofString "place"),"gate"] from by decide+kernel) rfl (Or.inl rfl)) (cU (aV (show List.Nodup [(Str.ofString "place"),"gate"] from by decide+kernel) rfl (Or.inl rfl)) jl)))) (fun _ _ _=>(nk (rX (sd (ay (aa 1) af (fun _ _=>rfl)))))) (fun _ _ _=>(aa 0)))))))))),T.M_Trial,F.binds fun _ _ _ _ _ _ us hl=>match us,hl with | [_,_],_=>rfl⟩
abbrev bN:Stmt:=inClass (top 18) 1
noncomputable abbrev eP:List Str:=["self","turned","level","mask","before","after"]
noncomputable def oO:{b:List Stmt // aJ bN=b}:=⟨_,by conv=>lhs;whnf⟩
noncomputable def jF:{b:Scope // ax bN=b}:=⟨_,by conv=>lhs;whnf⟩
theorem cP:aR eP ["self","turned","level"] jF.1:=⟨rfl,rfl,rfl,by decide+kernel,rfl,by decide+kernel,by decide+kernel⟩
def i9:FZ:=(Dp (bP (b2 kG (ae 2) (eC (.str "safe")))) (cH 3 (xP (e2 Fm (e2 Fm (ae 3) (e2 z6 (e2 bW (ae 4) (eC (.int 0))) (e2 bW (ae 5) (eC (.int 1))))) (e2 z6 (e2 bW (ae 4) (eC (.int 1))) (e2 bW (ae 5) (eC (.int 0))))))) (cH 3 (xP (e2 Fm (e2 Fm (ae 3) (e2 B_ (e2 bW (ae 4) (eC (.int 0))) (e2 bW (ae 5) (eC (.int 0))))) (e2 B_ (e2 bW (ae 4) (eC (.int 1))) (e2 bW (ae 5) (eC (.int 1))))))))
def gC:FZ:=(bA (cH 3 (xP (eC (.int 0)))) (bA (ju (J3 (mH 1 "plain" (dU 0)) (ko 0 "readings" bx (mH 1 "bench" (dU 0)) (aM (xP (ae 1)) di))) (GB 2 (Aj (k6 4) (Aj (k6 5) Ii))) i9) (gA (xP (ae 3)))))
def oX:List V3->aN->R3 V3:=nU eP gC
def cv:List V3->aN->R3 V3:=pC eP gC
theorem dE(T:Tp K mg cl)(h:oG K (cl 1) "breaks_at" "Trial.breaks_at" bN)(bj:gH P w K mg base cl 5 0 "readings" 1 bx):gH P w K mg base cl 6 1 "breaks_at" 2 oX:=by
 obtain⟨f,fd,F,hm⟩:=h;exact⟨f,fd,_,T.C_Trial,hm,bV (k:=5) oO.2 jF.2 F cP (fun dY A outer s H E hr=>(au (bc cP.nd rfl (Or.inl rfl) (ah af)) (au (dR PassesOwn.never rfl (Hn (fw T.C_Trial T.N_Trial_plain (bF 0)) (fT bj hr (by decide) (fw T.C_Trial T.N_Trial_bench (bF 0)) (aq (ah (aa 1)) aU) (ao aS)) rfl T.z_zip) (l3 rfl (cR (aQ cP.nd rfl (Or.inl rfl)) (cR (aQ cP.nd rfl (Or.inl rfl)) jv))) (aL (pG (gq (bO (kQ hr.units) (aa 2) bz (bC _))) (aL (bc cP.nd rfl (Or.inl rfl) (ah (aw vX (aw vX (aa 3) (aw wH (ay (aa 4) af (fun _ _=>rfl)) (ay (aa 5) af (fun _ _=>rfl)))) (aw wH (ay (aa 4) af (fun _ _=>rfl)) (ay (aa 5) af (fun _ _=>rfl))))))) (aL (bc cP.nd rfl (Or.inl rfl) (ah (aw vX (aw vX (aa 3) (aw wx (ay (aa 4) af (fun _ _=>rfl)) (ay (aa 5) af (fun _ _=>rfl)))) (aw wx (ay (aa 4) af (fun _ _=>rfl)) (ay (aa 5) af (fun _ _=>rfl)))))))))) (aL (cJ (ah (aa 3))))))),F.binds fun _ _ _ _ _ _ us hl=>match us,hl with | [_,_,_],_=>rfl⟩
abbrev bJ:Stmt:=inClass (top 13) 4
noncomputable abbrev dI:List Str:=["self","mask"]
noncomputable def oE:{b:List Stmt // aJ bJ=b}:=⟨_,by conv=>lhs;whnf⟩
noncomputable def fY:{b:Scope // ax bJ=b}:=⟨_,by conv=>lhs;whnf⟩
theorem pR:aR dI ["self","mask"] fY.1:=⟨rfl,rfl,rfl,by decide+kernel,rfl,by decide+kernel,by decide+kernel⟩
def gI:FZ:=(gA (i8 (u_ (mH 0 "many_inputs" (dU 0))) (k6 0) (bP (b2 kG (aP fL (ak (ae 1) (ak (ae 0) aI))) (eC (.int 1)))) (xP (ae 0)) ["number"] [1]))
def o5:List V3->aN->R3 V3:=nU dI gI
def cq:List V3->aN->R3 V3:=pC dI gI
theorem dJ(T:Tp K mg cl)(h:oG K (cl 0) "inputs_in" "Bench.inputs_in" bJ)(j4:Callee P w K mg base 1 "bit_at" 2 fL):gH P w K mg base cl 2 0 "inputs_in" 1 o5:=by
 obtain⟨f,fd,F,hm⟩:=h;exact⟨f,fd,_,T.C_Bench,hm,bV (k:=1) oE.2 fY.2 F pR (fun dY A outer s H E hr=>(aL (cJ (nV rfl (bG.of (own:=["number"]) (kp:=[1]) (kn:=["mask"]) (sc:=fY.1) (N:=dI) rfl rfl (by decide+kernel)) (tS (fw T.C_Bench T.N_Bench_many_inputs (bF 0)) rfl T.z_range) (fun _ _ _=>(aQ (show List.Nodup [(Str.ofString "number"),"mask"] from by decide+kernel) rfl (Or.inl rfl))) (fun _ _ _=>(uc (gq (bO (kQ hr.units) (bw j4 hr (by decide) rfl (ab (aa 1) (ab (aa 0) ag)) (aH (aH bU))) af (bC _))))) (fun _ _ _=>(ah (aa 0))))))),F.binds fun _ _ _ _ _ _ us hl=>match us,hl with | [_,_],_=>rfl⟩
abbrev qh:Stmt:=top 19
noncomputable abbrev r9:List Str:=["net","many","level","trial","size","turned","mask"]
noncomputable def Ew:{b:List Stmt // aJ qh=b}:=⟨_,by conv=>lhs;whnf⟩
noncomputable def xM:{b:Scope // ax qh=b}:=⟨_,by conv=>lhs;whnf⟩
theorem pN:aR r9 ["net","many","level"] xM.1:=⟨rfl,rfl,rfl,by decide+kernel,rfl,by decide+kernel,by decide+kernel⟩
def qr:FZ:=(bA (cH 6 (ko 1 "breaks_at" cv (dU 3) (aM (xP (ae 5)) (aM (xP (ae 2)) di)))) (Dp (bP (b2 yR (ae 6) (eC (.int 0)))) (gA (HL (aM (xP (eC (.str "breaks"))) (aM (xP (ae 5)) (aM (OK (ko 0 "inputs_in" cq (mH 1 "bench" (dU 3)) (aM (xP (ae 6)) di)) (xP (eC (.int 0)))) di))))) uC))
def vD:FZ:=(ju (yh (kP (eJ 4) (aM (mH 1 "unsure" (dU 3)) (aM (xP (ae 4)) di)))) (k6 5) qr)
def wj:FZ:=(bA (cH 3 (ua 1 cC (aM (xP (ae 0)) di))) (bA (ju (iP (cT (e2 eD (ae 1) (eC (.int 1))))) (k6 4) vD) (gA (xP (dX (ak (eC (.str "bears")) aI))))))
def Dk:List V3->aN->R3 V3:=nU r9 wj
def sO:List V3->aN->R3 V3:=pC r9 wj
theorem GR(T:Tp K mg cl)(h:Def K mg "bears" qh)(qP:Callee P w K mg base 5 "choices" 2 (eJ 4))(cS:rp P w K mg base cl 6 1 "Trial" 1 cC)(cx:gH P w K mg base cl 6 1 "breaks_at" 2 cv)(cw:gH P w K mg base cl 2 0 "inputs_in" 1 cq):bS P w K mg base cl 8 "bears" 3 Dk:=by
 obtain⟨f,fd,F,hm⟩:=h;exact⟨f,fd,_,bV (k:=7) Ew.2 xM.2 F pN (fun dY A outer s H E hr=>(au (bc pN.nd rfl (Or.inl rfl) (pU cS hr (by decide) rfl (aq (ah (aa 0)) aU) (ao aS))) (au (dR PassesOwn.never rfl (b_ (br (aw el (aa 1) af) rfl T.z_range)) (aQ pN.nd rfl (Or.inl rfl)) (aL (dR PassesOwn.never rfl (nS (sV qP hr (by decide) rfl (aq (fw T.C_Trial T.N_Trial_unsure (bF 3)) (aq (ah (aa 4)) aU)) (ao (ao aS)))) (aQ pN.nd rfl (Or.inl rfl)) (au (bc pN.nd rfl (Or.inl rfl) (fT cx hr (by decide) (bF 3) (aq (ah (aa 5)) (aq (ah (aa 2)) aU)) (ao (ao aS)))) (aL (pG (gq (bO (v7 hr.units) (aa 6) af (bC _))) (aL (cJ (EY (aq (ah bz) (aq (ah (aa 5)) (aq (Mn (fT cw hr (by decide) (fw T.C_Trial T.N_Trial_bench (bF 3)) (aq (ah (aa 6)) aU) (ao aS)) (ah af) (fun _ _=>rfl)) aU)))))) kr)))))) (aL (cJ (ah (bq (ab bz ag)))))))),hm,F.kp,F.binds fun _ _ _ _ _ _ us hl=>match us,hl with | [_,_,_],_=>rfl⟩
abbrev lG:Stmt:=top 20
noncomputable abbrev n0:List Str:=["net","trial","found","place","wrong","none"]
noncomputable def Ae:{b:List Stmt // aJ lG=b}:=⟨_,by conv=>lhs;whnf⟩
noncomputable def t_:{b:Scope // ax lG=b}:=⟨_,by conv=>lhs;whnf⟩
theorem jm:aR n0 ["net"] t_.1:=⟨rfl,rfl,rfl,by decide+kernel,rfl,by decide+kernel,by decide+kernel⟩
def rj:FZ:=(bA (cH 4 (ko 1 "breaks_at" cv (dU 1) (aM (xP (dX (ak (ae 3) aI))) (aM (xP (eC (.str "safe"))) di)))) (bA (cH 5 (x2 B_ (ko 1 "breaks_at" cv (dU 1) (aM (xP (dX (ak (ae 3) aI))) (aM (xP (eC (.str "right"))) di))) (xP (ae 4)))) (mX 2 (HL (aM (xP (ae 3)) (aM (kP gU (aM (ko 0 "inputs_in" cq (mH 1 "bench" (dU 1)) (aM (xP (ae 4)) di)) di)) (aM (kP gU (aM (ko 0 "inputs_in" cq (mH 1 "bench" (dU 1)) (aM (xP (ae 5)) di)) di)) di)))))))
def qt:FZ:=(bA (cH 1 (ua 1 cC (aM (xP (ae 0)) di))) (bA (cH 2 (p7 (eW aI))) (bA (ju (yh (mH 1 "unsure" (dU 1))) (k6 3) rj) (gA (dU 2)))))
def oH:List V3->aN->R3 V3:=nU n0 qt
def tQ:List V3->aN->R3 V3:=pC n0 qt
theorem B4(T:Tp K mg cl)(h:Def K mg "matters" lG)(cS:rp P w K mg base cl 6 1 "Trial" 1 cC)(cx:gH P w K mg base cl 6 1 "breaks_at" 2 cv)(cw:gH P w K mg base cl 2 0 "inputs_in" 1 cq):bS P w K mg base cl 8 "matters" 1 oH:=by
 obtain⟨f,fd,F,hm⟩:=h;exact⟨f,fd,_,bV (k:=7) Ae.2 t_.2 F jm (fun dY A outer s H E hr=>(au (bc jm.nd rfl (Or.inl rfl) (pU cS hr (by decide) rfl (aq (ah (aa 0)) aU) (ao aS))) (au (bc jm.nd rfl (Or.inl rfl) (iS (bK ag))) (au (dR PassesOwn.never rfl (nS (fw T.C_Trial T.N_Trial_unsure (bF 1))) (aQ jm.nd rfl (Or.inl rfl)) (au (bc jm.nd rfl (Or.inl rfl) (fT cx hr (by decide) (bF 1) (aq (ah (bq (ab (aa 3) ag))) (aq (ah bz) aU)) (ao (ao aS)))) (au (bc jm.nd rfl (Or.inl rfl) (LH wx (fT cx hr (by decide) (bF 1) (aq (ah (bq (ab (aa 3) ag))) (aq (ah bz) aU)) (ao (ao aS))) (ah (aa 4)))) (aL (iX rfl (Or.inl rfl) (EY (aq (ah (aa 3)) (aq (si gJ rfl T.z_len PySem.boot_len (aq (fT cw hr (by decide) (fw T.C_Trial T.N_Trial_bench (bF 1)) (aq (ah (aa 4)) aU) (ao aS)) aU)) (aq (si gJ rfl T.z_len PySem.boot_len (aq (fT cw hr (by decide) (fw T.C_Trial T.N_Trial_bench (bF 1)) (aq (ah (aa 5)) aU) (ao aS)) aU)) aU))))))))) (aL (cJ (bF 2))))))),hm,F.kp,F.binds fun _ _ _ _ _ _ us hl=>match us,hl with | [_],_=>rfl⟩
abbrev fP:Stmt:=top 22
noncomputable abbrev fN:List Str:=["script","k"]
noncomputable def sg:{b:List Stmt // aJ fP=b}:=⟨_,by conv=>lhs;whnf⟩
noncomputable def m8:{b:Scope // ax fP=b}:=⟨_,by conv=>lhs;whnf⟩
theorem uO:aR fN ["script","k"] m8.1:=⟨rfl,rfl,rfl,by decide+kernel,rfl,by decide+kernel,by decide+kernel⟩
def kI:FS:=(eO (vU (b2 O4 (ae 1) (aP gU (ak (ae 0) aI))) (fA (e2 bW (ae 0) (ae 1))) pZ) (fA (eC (.int 0))))
def cM:List D->R D:=rV fN kI
theorem uu(T:Tp K mg cl)(h:Def K mg "_law_cell_at" fP):Callee P w K mg base 1 "_law_cell_at" 2 cM:=by
 obtain⟨f,fd,F,hm⟩:=h;exact⟨f,fd,_,cE (k:=0) sg.2 m8.2 F uO (fun dY A outer s H E hr=>(a_ (fW (bO NX (aa 1) (bg gJ rfl T.z_len PySem.boot_len (ab (aa 0) ag)) (bC _)) (aT (bu (ay (aa 0) (aa 1) (fun _ _=>rfl)))) eX) (aT (bu af)))),hm,F.kp,F.binds fun _ _ _ _ _ _ us hl=>match us,hl with | [_,_],_=>rfl⟩
abbrev fI:Stmt:=top 23
noncomputable abbrev iz:List Str:=["cell","many","found","rest","k","one"]
noncomputable def sN:{b:List Stmt // aJ fI=b}:=⟨_,by conv=>lhs;whnf⟩
noncomputable def nu:{b:Scope // ax fI=b}:=⟨_,by conv=>lhs;whnf⟩
theorem dQ:aR iz ["cell","many"] nu.1:=⟨rfl,rfl,rfl,by decide+kernel,rfl,by decide+kernel,by decide+kernel⟩
def iY:FS:=(vU (b2 OD (aP cAbs (ak (ae 0) aI)) (e2 Jr (eC (.int 10)) (eC (.int 18)))) (eO (zG 2 (e2 iO (ae 3) (eC (.int 1009)))) (l_ 3 (e2 qc (ae 3) (eC (.int 1009))))) (eO (l_ 5 (e2 iO (e2 eD (e2 iO (ae 3) (eC (.int 2147483629))) (e2 wq (e2 wq (eC (.int 7919)) (e2 eD (ae 4) (eC (.int 1)))) (e2 eD (ae 4) (eC (.int 3))))) (eC (.int 2147483629)))) (eO (l_ 5 (e2 eD (e2 iO (e2 wq (ae 5) (ae 5)) (eC (.int 2147483587))) (e2 qc (ae 5) (eC (.int 7))))) (zG 2 (e2 qc (e2 iO (e2 wq (ae 5) (eC (.int 48271))) (eC (.int 2147483647))) (eC (.int 16)))))))
def oi:FS:=(eO (Ad 2 (eW aI)) (eO (l_ 3 (aP cAbs (ak (ae 0) aI))) (eO (rM (cT (ae 1)) (aK 4) iY) (Dx 2 (fA (ae 2))))))
def c_:List D->R D:=rV iz oi
theorem uQ(T:Tp K mg cl)(h:Def K mg "_law_numbers" fI):Callee P w K mg base 1 "_law_numbers" 2 c_:=by
 obtain⟨f,fd,F,hm⟩:=h;exact⟨f,fd,_,cE (k:=0) sN.2 nu.2 F dQ (fun dY A outer s H E hr=>(a_ (ye dQ.nd rfl (Or.inl rfl) (bK ag)) (a_ (dF dQ.nd rfl (Or.inl rfl) (bg Io rfl T.z_abs PyProof.Rows.boot_abs (ab (aa 0) ag))) (a_ (iK PassesOwn.never rfl (br (aa 1) rfl T.z_range) (aV dQ.nd rfl (Or.inl rfl)) (aT (fW (bO Oj (bg Io rfl T.z_abs PyProof.Rows.boot_abs (ab (aa 0) ag)) (aw MY af af) (bC _)) (a_ (se rfl (Or.inl rfl) (aw fB (aa 3) af)) (aT (dF dQ.nd rfl (Or.inl rfl) (aw qz (aa 3) af)))) (a_ (dF dQ.nd rfl (Or.inl rfl) (aw fB (aw el (aw fB (aa 3) af) (aw uW (aw uW af (aw el (aa 4) af)) (aw el (aa 4) af))) af)) (a_ (dF dQ.nd rfl (Or.inl rfl) (aw el (aw fB (aw uW (aa 5) (aa 5)) af) (aw qz (aa 5) af))) (aT (se rfl (Or.inl rfl) (aw qz (aw fB (aw uW (aa 5) af) af) af)))))))) (yI 2 (aT (bu (aa 2)))))))),hm,F.kp,F.binds fun _ _ _ _ _ _ us hl=>match us,hl with | [_,_],_=>rfl⟩
abbrev jO:Stmt:=top 24
noncomputable abbrev ub:List Str:=["number"]
noncomputable def yx:{b:List Stmt // aJ jO=b}:=⟨_,by conv=>lhs;whnf⟩
noncomputable def q9:{b:Scope // ax jO=b}:=⟨_,by conv=>lhs;whnf⟩
theorem zB:aR ub ["number"] q9.1:=⟨rfl,rfl,rfl,by decide+kernel,rfl,by decide+kernel,by decide+kernel⟩
def tO:FS:=(fA (e2 bW (eNew (eW (ak (dX (ak (eC (.str "and")) (ak (eC (.int 2)) aI))) (ak (dX (ak (eC (.str "or")) (ak (eC (.int 2)) aI))) (ak (dX (ak (eC (.str "xor")) (ak (eC (.int 2)) aI))) (ak (dX (ak (eC (.str "not")) (ak (eC (.int 1)) aI))) (ak (dX (ak (eC (.str "vote")) (ak (eC (.int 3)) aI))) (ak (dX (ak (eC (.str "and")) (ak (eC (.int 2)) aI))) (ak (dX (ak (eC (.str "xor")) (ak (eC (.int 2)) aI))) aI))))))))) (e2 iO (ae 0) (eC (.int 7)))))
def jY:List D->R D:=rV ub tO
theorem Ab(T:Tp K mg cl)(h:Def K mg "_law_kind" jO):Callee P w K mg base 1 "_law_kind" 1 jY:=by
 obtain⟨f,fd,F,hm⟩:=h;exact⟨f,fd,_,cE (k:=0) yx.2 q9.2 F zB (fun dY A outer s H E hr=>(aT (bu (ay (bE (bK (ab (bq (ab bz (ab af ag))) (ab (bq (ab bz (ab af ag))) (ab (bq (ab bz (ab af ag))) (ab (bq (ab bz (ab af ag))) (ab (bq (ab bz (ab af ag))) (ab (bq (ab bz (ab af ag))) (ab (bq (ab bz (ab af ag))) ag))))))))) (aw fB (aa 0) af) (fun _ _=>rfl))))),hm,F.kp,F.binds fun _ _ _ _ _ _ us hl=>match us,hl with | [_],_=>rfl⟩
abbrev iL:Stmt:=top 25
noncomputable abbrev kf:List Str:=["script","first","many","wires","gates","k","numbers","kind","count","some","j","near"]
noncomputable def wK:{b:List Stmt // aJ iL=b}:=⟨_,by conv=>lhs;whnf⟩
noncomputable def pX:{b:Scope // ax iL=b}:=⟨_,by conv=>lhs;whnf⟩
theorem dc:aR kf ["script","first","many","wires"] pX.1:=⟨rfl,rfl,rfl,by decide+kernel,rfl,by decide+kernel,by decide+kernel⟩
def kK:FZ:=(bA (cH 11 (xP (e2 bW (eNew (eW (ak (e2 iO (e2 qc (e2 bW (ae 6) (e2 eD (eC (.int 1)) (ae 10))) (eC (.int 2))) (aP rA (ak (eC (.int 4)) (ak (ae 3) aI)))) (ak (e2 iO (e2 qc (e2 bW (ae 6) (e2 eD (eC (.int 1)) (ae 10))) (eC (.int 2))) (ae 3)) aI)))) (e2 iO (e2 bW (ae 6) (e2 eD (eC (.int 1)) (ae 10))) (eC (.int 2)))))) (mX 9 (xP (e2 qH (e2 qH (ae 3) (eC (.int 1))) (ae 11)))))
def oq:FZ:=(bA (cH 6 (xP (aP c_ (ak (aP cM (ak (ae 0) (ak (e2 eD (ae 1) (ae 5)) aI))) (ak (eC (.int 6)) aI))))) (bA (JM (xP (aP jY (ak (e2 bW (ae 6) (eC (.int 0))) aI))) (GB 2 (Aj (k6 7) (Aj (k6 8) Ii)))) (bA (cH 9 (p7 (eW aI))) (bA (ju (iP (cT (ae 8))) (k6 10) kK) (bA (mX 4 (xT (dX (ak (ae 7) (ak (aP mM (ak (ae 9) aI)) (ak (e2 kG (e2 iO (e2 bW (ae 6) (eC (.int 4))) (eC (.int 6))) (eC (.int 0))) aI)))))) (cH 3 (xP (e2 eD (ae 3) (eC (.int 1))))))))))
def mV:FZ:=(bA (cH 4 (p7 (eW aI))) (bA (ju (iP (cT (ae 2))) (k6 5) oq) (xp 4 (gA (xP (ae 4))))))
def wY:List V3->aN->R3 V3:=nU kf mV
def jf:List V3->aN->R3 V3:=pC kf mV
theorem xq(T:Tp K mg cl)(h:Def K mg "_law_gates" iL)(d3:Callee P w K mg base 1 "_law_cell_at" 2 cM)(dZ:Callee P w K mg base 1 "_law_numbers" 2 c_)(pj:Callee P w K mg base 1 "_law_kind" 1 jY):bS P w K mg base cl 2 "_law_gates" 4 wY:=by
 obtain⟨f,fd,F,hm⟩:=h;exact⟨f,fd,_,bV (k:=1) wK.2 pX.2 F dc (fun dY A outer s H E hr=>(au (bc dc.nd rfl (Or.inl rfl) (iS (bK ag))) (au (dR PassesOwn.never rfl (b_ (br (aa 2) rfl T.z_range)) (aQ dc.nd rfl (Or.inl rfl)) (au (bc dc.nd rfl (Or.inl rfl) (ah (bw dZ hr (by decide) rfl (ab (bw d3 hr (by decide) rfl (ab (aa 0) (ab (aw el (aa 1) (aa 5)) ag)) (aH (aH bU))) (ab af ag)) (aH (aH bU))))) (au (KG (ah (bw pj hr (by decide) rfl (ab (ay (aa 6) af (fun _ _=>rfl)) ag) (aH bU))) (l3 rfl (cR (aQ dc.nd rfl (Or.inl rfl)) (cR (aQ dc.nd rfl (Or.inl rfl)) jv)))) (au (bc dc.nd rfl (Or.inl rfl) (iS (bK ag))) (au (dR PassesOwn.never rfl (b_ (br (aa 8) rfl T.z_range)) (aQ dc.nd rfl (Or.inl rfl)) (au (bc dc.nd rfl (Or.inl rfl) (ah (ay (bE (bK (ab (aw fB (aw qz (ay (aa 6) (aw el af (aa 10)) (fun _ _=>rfl)) af) (bg (z9 rfl) rfl T.z_min PyProof.Rows.boot_min (ab af (ab (aa 3) ag)))) (ab (aw fB (aw qz (ay (aa 6) (aw el af (aa 10)) (fun _ _=>rfl)) af) (aa 3)) ag)))) (aw fB (ay (aa 6) (aw el af (aa 10)) (fun _ _=>rfl)) af) (fun _ _=>rfl)))) (aL (iX rfl (Or.inl rfl) (ah (aw q_ (aw q_ (aa 3) af) (aa 11))))))) (au (iX rfl (Or.inl rfl) (r6 (bq (ab (aa 7) (ab (dk pK rfl T.z_tuple PyProof.Rows.boot_tuple (ab (aa 9) ag)) (ab (je (kQ hr.units) (aw fB (ay (aa 6) af (fun _ _=>rfl)) af) af (bC _)) ag)))))) (aL (bc dc.nd rfl (Or.inl rfl) (ah (aw el (aa 3) af)))))))))) (rT 4 (aL (cJ (ah (aa 4)))))))),hm,F.kp,F.binds fun _ _ _ _ _ _ us hl=>match us,hl with | [_,_,_,_],_=>rfl⟩
abbrev jV:Stmt:=top 26
noncomputable abbrev hV:List Str:=["net","bits","turned","bad","wires","bit","one","place","gate","some","found"]
noncomputable def yw:{b:List Stmt // aJ jV=b}:=⟨_,by conv=>lhs;whnf⟩
noncomputable def kh:{b:Scope // ax jV=b}:=⟨_,by conv=>lhs;whnf⟩
theorem dn:aR hV ["net","bits","turned","bad"] kh.1:=⟨rfl,rfl,rfl,by decide+kernel,rfl,by decide+kernel,by decide+kernel⟩
def pV:FZ:=(cH 4 (KU (dU 4) (xP (eNew (ED (eW (ak (ae 5) aI)) (e2 bW (ae 6) (eC (.int 1))))))))
def l5:FZ:=(bA (cH 9 (i8 (iP (d5 (e2 bW (ae 8) (eC (.int 1))))) (k6 0) uH (xT (e2 bW (ae 1) (ae 0))) ["wire"] [4])) (bA (cH 10 (wQ ["and","or","xor","not"] (ak (aP rA (ak (ae 9) aI)) (ak (aP Bg (ak (ae 9) aI)) (ak (e2 iO (aP oa (ak (ae 9) aI)) (eC (.int 2))) (ak (e2 qH (eC (.int 1)) (e2 bW (ae 9) (eC (.int 0)))) aI)))))) (bA (cH 5 (xQ 10 (e2 bW (ae 8) (eC (.int 0))) (aP kz (ak (e2 Ku (aP oa (ak (ae 9) aI)) (eC (.int 1))) aI)))) (mX 4 (xP (e2 iO (e2 eD (ae 5) (aP kz (ak (e2 Iq (ae 7) (ae 2)) aI))) (eC (.int 2))))))))
def oZ:FZ:=(bA (cH 4 (p7 (eW aI))) (bA (ju (iP (vK (ae 1) (e2 bW (ae 0) (eC (.int 0))))) (GB 2 (Aj (k6 5) (Aj (k6 6) Ii))) pV) (bA (cH 4 (AV (d4 (gr (ae 4)) (jA 2 (cG (aK 0) (cG (aK 1) jZ))) i_ (e2 iO (e2 eD (ae 1) (aP kz (ak (e2 Iq (ae 0) (ae 2)) aI))) (eC (.int 2))) ["k","bit"] [3]))) (bA (ju (iP (gr (e2 bW (ae 0) (eC (.int 1))))) (GB 2 (Aj (k6 7) (Aj (k6 8) Ii))) l5) (gA (dU 4))))))
def yg:List V3->aN->R3 V3:=nU hV oZ
def ky:List V3->aN->R3 V3:=pC hV oZ
theorem zw(T:Tp K mg cl)(h:Def K mg "_law_told" jV):bS P w K mg base cl 1 "_law_told" 4 yg:=by
 obtain⟨f,fd,F,hm⟩:=h;exact⟨f,fd,_,bV (k:=0) yw.2 kh.2 F dn (fun dY A outer s H E hr=>(au (bc dn.nd rfl (Or.inr rfl) (iS (bK ag))) (au (dR PassesOwn.never rfl (b_ (sY (aa 1) (ay (aa 0) af (fun _ _=>rfl)) rfl T.z_zip)) (l3 rfl (cR (aQ dn.nd rfl (Or.inl rfl)) (cR (aQ dn.nd rfl (Or.inl rfl)) jv))) (aL (bc dn.nd rfl (Or.inr rfl) (Jo (bF 4) (ah (bE (Aw (bK (ab (aa 5) ag)) (ay (aa 6) af (fun _ _=>rfl))))))))) (au (bc dn.nd rfl (Or.inr rfl) (G1 (cO rfl (bG.of (own:=["k","bit"]) (kp:=[3]) (kn:=["bad"]) (sc:=kh.1) (N:=hV) rfl rfl (by decide+kernel)) (k7 (aa 4) rfl T.z_enumerate) (fun _ _ _=>(lD rfl (cU (aV (show List.Nodup [(Str.ofString "k"),"bit","bad"] from by decide+kernel) rfl (Or.inl rfl)) (cU (aV (show List.Nodup [(Str.ofString "k"),"bit","bad"] from by decide+kernel) rfl (Or.inl rfl)) jl)))) (fun _ _ _=>dz) (fun _ _ _=>(aw fB (aw el (aa 1) (dk qy rfl T.z_int PyProof.Rows.boot_int (ab (je Gu (aa 0) (aa 2) (by with_unfolding_all rfl)) ag))) af))))) (au (dR PassesOwn.never rfl (b_ (k7 (ay (aa 0) af (fun _ _=>rfl)) rfl T.z_enumerate)) (l3 rfl (cR (aQ dn.nd rfl (Or.inl rfl)) (cR (aQ dn.nd rfl (Or.inl rfl)) jv))) (au (l4 rfl dn.nd rfl rfl (bG.of (own:=["wire"]) (kp:=[4]) (kn:=["wires"]) (sc:=kh.1) (N:=hV) rfl rfl (by decide+kernel)) (b_ (cI (ay (aa 8) af (fun _ _=>rfl)))) (fun _ _ _=>(aQ (show List.Nodup [(Str.ofString "wire"),"wires"] from by decide+kernel) rfl (Or.inl rfl))) (fun _ _ _=>g8) (fun _ _ _=>(r6 (ay (aa 1) (aa 0) (fun _ _=>rfl))))) (au (bc dn.nd rfl (Or.inl rfl) (DS (pS bz (bg (z9 rfl) rfl T.z_min PyProof.Rows.boot_min (ab (aa 9) ag)) (pS bz (bg (Jb rfl) rfl T.z_max PyProof.Rows.boot_max (ab (aa 9) ag)) (pS bz (aw fB (bg (wR rfl) rfl T.z_sum PyProof.Rows.boot_sum (ab (aa 9) ag)) af) (pS bz (aw q_ af (ay (aa 9) af (fun _ _=>rfl))) HP)))) rfl rfl (by simp) (by decide))) (au (bc dn.nd rfl (Or.inl rfl) (Hx (LP hr) rfl (Or.inl rfl) (ay (aa 8) af (fun _ _=>rfl)) (dk qy rfl T.z_int PyProof.Rows.boot_int (ab (je JT (bg (wR rfl) rfl T.z_sum PyProof.Rows.boot_sum (ab (aa 9) ag)) af (bC _)) ag)))) (aL (iX rfl (Or.inr (Or.inl rfl)) (ah (aw fB (aw el (aa 5) (dk qy rfl T.z_int PyProof.Rows.boot_int (ab (je Gu (aa 7) (aa 2) (by with_unfolding_all rfl)) ag))) af)))))))) (aL (cJ (bF 4)))))))),hm,F.kp,F.binds fun _ _ _ _ _ _ us hl=>match us,hl with | [_,_,_,_],_=>rfl⟩
abbrev jz:Stmt:=top 27
noncomputable abbrev sE:List Str:=["bits"]
noncomputable def x9:{b:List Stmt // aJ jz=b}:=⟨_,by conv=>lhs;whnf⟩
noncomputable def rh:{b:Scope // ax jz=b}:=⟨_,by conv=>lhs;whnf⟩
theorem yU:aR sE ["bits"] rh.1:=⟨rfl,rfl,rfl,by decide+kernel,rfl,by decide+kernel,by decide+kernel⟩
def zo:FS:=(eO (vU (CO (b2 kG (aP gU (ak (ae 0) aI)) (eC (.int 2))) (b2 yR (e2 bW (ae 0) (eC (.int 0))) (e2 bW (ae 0) (eC (.int 1))))) (fA (eC .cn)) pZ) (fA (aP kz (ak (e2 Ku (e2 wq (eC (.int 2)) (aP oa (ak (ae 0) aI))) (aP gU (ak (ae 0) aI))) aI))))
def l9:List D->R D:=rV sE zo
theorem Af(T:Tp K mg cl)(h:Def K mg "_law_read" jz):Callee P w K mg base 1 "_law_read" 1 l9:=by
 obtain⟨f,fd,F,hm⟩:=h;exact⟨f,fd,_,cE (k:=0) x9.2 rh.2 F yU (fun dY A outer s H E hr=>(a_ (fW (rW (xJ (bO (kQ hr.units) (bg gJ rfl T.z_len PySem.boot_len (ab (aa 0) ag)) af (bC _)) (vf (bO (v7 hr.units) (ay (aa 0) af (fun _ _=>rfl)) (ay (aa 0) af (fun _ _=>rfl)) (bC _))))) (aT (bu kB)) eX) (aT (bu (dk qy rfl T.z_int PyProof.Rows.boot_int (ab (je JT (aw uW af (bg (wR rfl) rfl T.z_sum PyProof.Rows.boot_sum (ab (aa 0) ag))) (bg gJ rfl T.z_len PySem.boot_len (ab (aa 0) ag)) (bC _)) ag)))))),hm,F.kp,F.binds fun _ _ _ _ _ _ us hl=>match us,hl with | [_],_=>rfl⟩
abbrev jW:Stmt:=top 28
noncomputable abbrev jJ:List Str:=["net","bits","turned","bad","wires"]
noncomputable def xZ:{b:List Stmt // aJ jW=b}:=⟨_,by conv=>lhs;whnf⟩
noncomputable def nj:{b:Scope // ax jW=b}:=⟨_,by conv=>lhs;whnf⟩
theorem so:aR jJ ["net","bits","turned","bad"] nj.1:=⟨rfl,rfl,rfl,by decide+kernel,rfl,by decide+kernel,by decide+kernel⟩
def oM:FZ:=(bA (cH 4 (f7 ky (aM (xP (ae 0)) (aM (xP (ae 1)) (aM (xP (ae 2)) (aM (xP (ae 3)) di)))))) (gA (xP (eNew (d4 (d5 (e2 bW (ae 0) (eC (.int 2)))) (jA 2 (cG (aK 0) (cG (aK 1) jZ))) i_ (aP mM (ak (eNew (d4 (d5 (ae 1)) (aK 0) i_ (e2 bW (ae 1) (ae 0)) ["wire"] [2])) aI)) ["name","wired"] [4])))))
def yA:List V3->aN->R3 V3:=nU jJ oM
def kl:List V3->aN->R3 V3:=pC jJ oM
theorem zp(T:Tp K mg cl)(h:Def K mg "_law_outs" jW)(nL:bS P w K mg base cl 1 "_law_told" 4 ky):bS P w K mg base cl 2 "_law_outs" 4 yA:=by
 obtain⟨f,fd,F,hm⟩:=h;exact⟨f,fd,_,bV (k:=1) xZ.2 nj.2 F so (fun dY A outer s H E hr=>(au (bc so.nd rfl (Or.inr rfl) (dv nL hr (by decide) rfl (aq (ah (aa 0)) (aq (ah (aa 1)) (aq (ah (aa 2)) (aq (ah (aa 3)) aU)))) (ao (ao (ao (ao aS)))))) (aL (cJ (ah (bE (cO rfl (bG.of (own:=["name","wired"]) (kp:=[4]) (kn:=["wires"]) (sc:=nj.1) (N:=jJ) rfl rfl (by decide+kernel)) (cI (ay (aa 0) af (fun _ _=>rfl))) (fun _ _ _=>(lD rfl (cU (aV (show List.Nodup [(Str.ofString "name"),"wired","wires"] from by decide+kernel) rfl (Or.inl rfl)) (cU (aV (show List.Nodup [(Str.ofString "name"),"wired","wires"] from by decide+kernel) rfl (Or.inl rfl)) jl)))) (fun _ _ _=>dz) (fun _ _ _=>(dk pK rfl T.z_tuple PyProof.Rows.boot_tuple (ab (bE (cO rfl (bG.of (own:=["wire"]) (kp:=[2]) (kn:=["wires"]) rfl rfl rfl) (cI (aa 1)) (fun _ _ _=>(aV (show List.Nodup [(Str.ofString "wire"),"wires"] from by decide+kernel) rfl (Or.inl rfl))) (fun _ _ _=>dz) (fun _ _ _=>(ay (aa 1) (aa 0) (fun _ _=>rfl))))) ag)))))))))),hm,F.kp,F.binds fun _ _ _ _ _ _ us hl=>match us,hl with | [_,_,_,_],_=>rfl⟩
abbrev jQ:Stmt:=top 29
noncomputable abbrev md:List Str:=["net","number","many"]
noncomputable def xH:{b:List Stmt // aJ jQ=b}:=⟨_,by conv=>lhs;whnf⟩
noncomputable def ng:{b:Scope // ax jQ=b}:=⟨_,by conv=>lhs;whnf⟩
theorem sf:aR md ["net","number"] ng.1:=⟨rfl,rfl,rfl,by decide+kernel,rfl,by decide+kernel,by decide+kernel⟩
def tJ:FS:=(eO (l_ 2 (aP gU (ak (e2 bW (ae 0) (eC (.int 0))) aI))) (fA (aP mM (ak (eNew (d4 (cT (ae 2)) (aK 0) i_ (e2 z6 (e2 x_ (ae 1) (e2 qH (e2 qH (ae 2) (eC (.int 1))) (ae 0))) (eC (.int 1))) ["k"] [1,2])) aI))))
def g9:List D->R D:=rV md tJ
theorem yZ(T:Tp K mg cl)(h:Def K mg "_law_bits" jQ):Callee P w K mg base 1 "_law_bits" 2 g9:=by
 obtain⟨f,fd,F,hm⟩:=h;exact⟨f,fd,_,cE (k:=0) xH.2 ng.2 F sf (fun dY A outer s H E hr=>(a_ (dF sf.nd rfl (Or.inr rfl) (bg gJ rfl T.z_len PySem.boot_len (ab (ay (aa 0) af (fun _ _=>rfl)) ag))) (aT (bu (dk pK rfl T.z_tuple PyProof.Rows.boot_tuple (ab (bE (cO rfl (bG.of (own:=["k"]) (kp:=[1,2]) (kn:=["number","many"]) (sc:=ng.1) (N:=md) rfl rfl (by decide+kernel)) (br (aa 2) rfl T.z_range) (fun _ _ _=>(aV (show List.Nodup [(Str.ofString "k"),"number","many"] from by decide+kernel) rfl (Or.inl rfl))) (fun _ _ _=>dz) (fun _ _ _=>(aw wH (aw Ik (aa 1) (aw q_ (aw q_ (aa 2) af) (aa 0))) af)))) ag)))))),hm,F.kp,F.binds fun _ _ _ _ _ _ us hl=>match us,hl with | [_,_],_=>rfl⟩
abbrev fD:Stmt:=top 30
noncomputable abbrev fM:List Str:=["net","turned","found","number"]
noncomputable def tq:{b:List Stmt // aJ fD=b}:=⟨_,by conv=>lhs;whnf⟩
noncomputable def jS:{b:Scope // ax fD=b}:=⟨_,by conv=>lhs;whnf⟩
theorem kJ:aR fM ["net","turned"] jS.1:=⟨rfl,rfl,rfl,by decide+kernel,rfl,by decide+kernel,by decide+kernel⟩
def mD:FZ:=(mX 2 (i8 (yh (f7 kl (aM (xP (ae 0)) (aM (xP (aP g9 (ak (ae 0) (ak (ae 3) aI)))) (aM (xP (ae 1)) (aM (xP (dX aI)) di)))))) (k6 0) uH (xP (aP l9 (ak (ae 0) aI))) ["bits"] []))
def kF:FZ:=(bA (cH 2 (p7 (eW aI))) (bA (ju (iP (cT (e2 IX (eC (.int 1)) (aP gU (ak (e2 bW (ae 0) (eC (.int 0))) aI))))) (k6 3) mD) (gA (dU 2))))
def tK:List V3->aN->R3 V3:=nU fM kF
def dt:List V3->aN->R3 V3:=pC fM kF
theorem uE(T:Tp K mg cl)(h:Def K mg "_law_columns" fD)(pd:Callee P w K mg base 1 "_law_bits" 2 g9)(pz:Callee P w K mg base 1 "_law_read" 1 l9)(nM:bS P w K mg base cl 2 "_law_outs" 4 kl):bS P w K mg base cl 3 "_law_columns" 2 tK:=by
 obtain⟨f,fd,F,hm⟩:=h;exact⟨f,fd,_,bV (k:=2) tq.2 jS.2 F kJ (fun dY A outer s H E hr=>(au (bc kJ.nd rfl (Or.inl rfl) (iS (bK ag))) (au (dR PassesOwn.never rfl (b_ (br (aw Md af (bg gJ rfl T.z_len PySem.boot_len (ab (ay (aa 0) af (fun _ _=>rfl)) ag))) rfl T.z_range)) (aQ kJ.nd rfl (Or.inl rfl)) (aL (iX rfl (Or.inl rfl) (nV rfl (bG.of (own:=["bits"]) (kp:=[]) (kn:=[]) (sc:=jS.1) (N:=fM) rfl rfl (by decide+kernel)) (nS (dv nM hr (by decide) rfl (aq (ah (aa 0)) (aq (ah (bw pd hr (by decide) rfl (ab (aa 0) (ab (aa 3) ag)) (aH (aH bU)))) (aq (ah (aa 1)) (aq (ah (bq ag)) aU)))) (ao (ao (ao (ao aS)))))) (fun _ _ _=>(aQ (show List.Nodup [(Str.ofString "bits")] from by decide+kernel) rfl (Or.inl rfl))) (fun _ _ _=>g8) (fun _ _ _=>(ah (bw pz hr (by decide) rfl (ab (aa 0) ag) (aH bU)))))))) (aL (cJ (bF 2)))))),hm,F.kp,F.binds fun _ _ _ _ _ _ us hl=>match us,hl with | [_,_],_=>rfl⟩
abbrev gn:Stmt:=top 31
noncomputable abbrev p8:List Str:=["plain","other","level","number","one","two"]
noncomputable def uG:{b:List Stmt // aJ gn=b}:=⟨_,by conv=>lhs;whnf⟩
noncomputable def oy:{b:Scope // ax gn=b}:=⟨_,by conv=>lhs;whnf⟩
theorem jd:aR p8 ["plain","other","level"] oy.1:=⟨rfl,rfl,rfl,by decide+kernel,rfl,by decide+kernel,by decide+kernel⟩
def jw:FS:=(vU (CO (b2 yR (ae 5) (ae 4)) (Il (b2 kG (ae 2) (eC (.str "right"))) (b2 vY (ae 5) (eC .cn)))) (fA (ae 3)) pZ)
def jP:FS:=(rM (vK (e2 bW (ae 0) (ae 3)) (e2 bW (ae 1) (ae 3))) (jA 2 (cG (aK 4) (cG (aK 5) jZ))) jw)
def pE:FS:=(eO (rM (cT (aP gU (ak (ae 0) aI))) (aK 3) jP) (fA (eC .cn)))
def gh:List D->R D:=rV p8 pE
theorem vW(T:Tp K mg cl)(h:Def K mg "_law_breaks" gn):Callee P w K mg base 1 "_law_breaks" 3 gh:=by
 obtain⟨f,fd,F,hm⟩:=h;exact⟨f,fd,_,cE (k:=0) uG.2 oy.2 F jd (fun dY A outer s H E hr=>(a_ (iK PassesOwn.never rfl (br (bg gJ rfl T.z_len PySem.boot_len (ab (aa 0) ag)) rfl T.z_range) (aV jd.nd rfl (Or.inl rfl)) (aT (iK PassesOwn.never rfl (sY (ay (aa 0) (aa 3) (fun _ _=>rfl)) (ay (aa 1) (aa 3) (fun _ _=>rfl)) rfl T.z_zip) (lD rfl (cU (aV jd.nd rfl (Or.inl rfl)) (cU (aV jd.nd rfl (Or.inl rfl)) jl))) (aT (fW (rW (xJ (bO (v7 hr.units) (aa 5) (aa 4) (bC _)) (vf (rW (AS (bO (kQ hr.units) (aa 2) bz (bC _)) (xF (bO Bi (aa 5) kB (bC _)))))))) (aT (bu (aa 3))) eX))))) (aT (bu kB)))),hm,F.kp,F.binds fun _ _ _ _ _ _ us hl=>match us,hl with | [_,_,_],_=>rfl⟩
abbrev jD:Stmt:=top 32
noncomputable abbrev jU:List Str:=["places","many","found","layer","turn","wider","one"]
noncomputable def xr:{b:List Stmt // aJ jD=b}:=⟨_,by conv=>lhs;whnf⟩
noncomputable def mO:{b:Scope // ax jD=b}:=⟨_,by conv=>lhs;whnf⟩
theorem eB:aR jU ["places","many"] mO.1:=⟨rfl,rfl,rfl,by decide+kernel,rfl,by decide+kernel,by decide+kernel⟩
def mf:FS:=(l_ 5 (e2 kq (ae 5) (eNew (d4 (d5 (ae 0)) (aK 0) (Il (b2 kG (ae 1) (dX aI)) (b2 Ku (ae 0) (e2 bW (ae 1) (IV (eC (.int 1)))))) (e2 kq (ae 1) (dX (ak (ae 0) aI))) ["place"] [6]))))
def l8:FS:=(eO (l_ 5 (eNew (eW aI))) (eO (rM (d5 (ae 3)) (aK 6) mf) (eO (l_ 2 (e2 kq (ae 2) (ae 5))) (l_ 3 (ae 5)))))
def sQ:FS:=(eO (l_ 2 (eNew (eW (ak (dX aI) aI)))) (eO (l_ 3 (eNew (eW (ak (dX aI) aI)))) (eO (rM (cT (ae 1)) (aK 4) l8) (fA (ae 2)))))
def jG:List D->R D:=rV jU sQ
theorem yY(T:Tp K mg cl)(h:Def K mg "_law_sets" jD):Callee P w K mg base 1 "_law_sets" 2 jG:=by
 obtain⟨f,fd,F,hm⟩:=h;exact⟨f,fd,_,cE (k:=0) xr.2 mO.2 F eB (fun dY A outer s H E hr=>(a_ (dF eB.nd rfl (Or.inl rfl) (bE (bK (ab (bq ag) ag)))) (a_ (dF eB.nd rfl (Or.inl rfl) (bE (bK (ab (bq ag) ag)))) (a_ (iK PassesOwn.never rfl (br (aa 1) rfl T.z_range) (aV eB.nd rfl (Or.inl rfl)) (a_ (dF eB.nd rfl (Or.inl rfl) (bE (bK ag))) (a_ (iK PassesOwn.never rfl (cI (aa 3)) (aV eB.nd rfl (Or.inr rfl)) (aT (dF eB.nd rfl (Or.inl rfl) (aw oU (aa 5) (bE (cO rfl (bG.of (own:=["place"]) (kp:=[6]) (kn:=["one"]) (sc:=mO.1) (N:=jU) rfl rfl (by decide+kernel)) (cI (aa 0)) (fun _ _ _=>(aV (show List.Nodup [(Str.ofString "place"),"one"] from by decide+kernel) rfl (Or.inl rfl))) (fun _ _ _=>(nk (rW (AS (bO (kQ hr.units) (aa 1) (bq ag) (bC _)) (xF (bO JT (aa 0) (ay (aa 1) (GD af) (fun _ _=>rfl)) (bC _))))))) (fun _ _ _=>(aw oU (aa 1) (bq (ab (aa 0) ag)))))))))) (a_ (dF eB.nd rfl (Or.inl rfl) (aw oU (aa 2) (aa 5))) (aT (dF eB.nd rfl (Or.inl rfl) (aa 5))))))) (aT (bu (aa 2))))))),hm,F.kp,F.binds fun _ _ _ _ _ _ us hl=>match us,hl with | [_,_],_=>rfl⟩
abbrev lr:Stmt:=top 33
noncomputable abbrev jk:List Str:=["script","head","ins","k","wires","gates","outs","numbers","width","last"]
noncomputable def zO:{b:List Stmt // aJ lr=b}:=⟨_,by conv=>lhs;whnf⟩
noncomputable def lZ:{b:Scope // ax lr=b}:=⟨_,by conv=>lhs;whnf⟩
theorem dg:aR jk ["script"] lZ.1:=⟨rfl,rfl,rfl,by decide+kernel,rfl,by decide+kernel,by decide+kernel⟩
def q8:FZ:=(mX 2 (xP (dX (ak (e2 eD (e2 bW (eNew (eW (ak (eC (.str "a")) (ak (eC (.str "ab")) (ak (eC (.str "long")) aI))))) (ae 3)) (e2 bW (eNew (eW (ak (eC (.str "")) (ak (eC (.str "x")) aI)))) (e2 iO (e2 bW (ae 1) (eC (.int 1))) (eC (.int 2))))) (ak (e2 eD (eC (.int 1)) (e2 iO (e2 bW (ae 1) (e2 eD (eC (.int 2)) (ae 3))) (eC (.int 3)))) aI)))))
def mT:FZ:=(bA (cH 7 (xP (aP c_ (ak (aP cM (ak (ae 0) (ak (e2 eD (eC (.int 9)) (ae 3)) aI))) (ak (eC (.int 4)) aI))))) (bA (cH 8 (xP (e2 eD (eC (.int 1)) (e2 iO (e2 bW (ae 7) (eC (.int 0))) (eC (.int 3)))))) (bA (cH 9 (i8 (iP (cT (ae 8))) (k6 0) uH (xP (e2 qH (e2 qH (ae 1) (eC (.int 1))) (e2 iO (e2 bW (ae 2) (e2 eD (eC (.int 1)) (ae 0))) (aP rA (ak (ae 1) (ak (eC (.int 4)) aI)))))) ["j"] [4,7])) (bA (Dp (bP (b2 kG (e2 iO (e2 qc (e2 bW (ae 7) (eC (.int 0))) (eC (.int 3))) (eC (.int 3))) (eC (.int 0)))) (cH 9 (xP (eNew (ED (eW (ak (e2 bW (ae 9) (eC (.int 0))) aI)) (ae 8))))) uC) (mX 6 (xP (dX (ak (e2 bW (eNew (eW (ak (eC (.str "b")) (ak (eC (.str "long")) aI)))) (ae 3)) (ak (aP mM (ak (ae 9) aI)) aI)))))))))
def qC:FZ:=(bA (cH 1 (xP (aP c_ (ak (aP cM (ak (ae 0) (ak (eC (.int 0)) aI))) (ak (eC (.int 12)) aI))))) (bA (cH 2 (p7 (eW aI))) (bA (ju (iP (cT (e2 eD (eC (.int 1)) (e2 iO (e2 bW (ae 1) (eC (.int 0))) (eC (.int 3)))))) (k6 3) q8) (xp 2 (bA (cH 4 (xP (aP oa (ak (eNew (d4 (d5 (ae 2)) (aK 0) i_ (e2 bW (ae 0) (eC (.int 1))) ["one"] [])) aI)))) (bA (cH 5 (f7 jf (aM (xP (ae 0)) (aM (xP (eC (.int 1))) (aM (xP (e2 eD (eC (.int 1)) (e2 iO (e2 bW (ae 1) (eC (.int 5))) (eC (.int 7))))) (aM (xP (ae 4)) di)))))) (bA (cH 4 (xP (e2 eD (ae 4) (aP gU (ak (ae 5) aI))))) (bA (cH 6 (p7 (eW aI))) (bA (ju (iP (cT (e2 eD (eC (.int 1)) (e2 iO (e2 bW (ae 1) (eC (.int 6))) (eC (.int 2)))))) (k6 3) mT) (xp 6 (gA (xP (dX (ak (ae 2) (ak (ae 5) (ak (ae 6) aI))))))))))))))))
def zf:List V3->aN->R3 V3:=nU jk qC
def lX:List V3->aN->R3 V3:=pC jk qC
theorem B8(T:Tp K mg cl)(h:Def K mg "_law_net" lr)(d3:Callee P w K mg base 1 "_law_cell_at" 2 cM)(dZ:Callee P w K mg base 1 "_law_numbers" 2 c_)(mq:bS P w K mg base cl 2 "_law_gates" 4 jf):bS P w K mg base cl 3 "_law_net" 1 zf:=by
 obtain⟨f,fd,F,hm⟩:=h;exact⟨f,fd,_,bV (k:=2) zO.2 lZ.2 F dg (fun dY A outer s H E hr=>(au (bc dg.nd rfl (Or.inl rfl) (ah (bw dZ hr (by decide) rfl (ab (bw d3 hr (by decide) rfl (ab (aa 0) (ab af ag)) (aH (aH bU))) (ab af ag)) (aH (aH bU))))) (au (bc dg.nd rfl (Or.inl rfl) (iS (bK ag))) (au (dR PassesOwn.never rfl (b_ (br (aw el af (aw fB (ay (aa 1) af (fun _ _=>rfl)) af)) rfl T.z_range)) (aQ dg.nd rfl (Or.inl rfl)) (aL (iX rfl (Or.inl rfl) (ah (bq (ab (aw el (ay (bE (bK (ab bz (ab bz (ab bz ag))))) (aa 3) (fun _ _=>rfl)) (ay (bE (bK (ab bz (ab bz ag)))) (aw fB (ay (aa 1) af (fun _ _=>rfl)) af) (fun _ _=>rfl))) (ab (aw el af (aw fB (ay (aa 1) (aw el af (aa 3)) (fun _ _=>rfl)) af)) ag))))))) (rT 2 (au (bc dg.nd rfl (Or.inr rfl) (ah (bg (wR rfl) rfl T.z_sum PyProof.Rows.boot_sum (ab (bE (cO rfl (bG.of (own:=["one"]) (kp:=[]) (kn:=[]) (sc:=lZ.1) (N:=jk) rfl rfl (by decide+kernel)) (cI (aa 2)) (fun _ _ _=>(aV (show List.Nodup [(Str.ofString "one")] from by decide+kernel) rfl (Or.inl rfl))) (fun _ _ _=>dz) (fun _ _ _=>(ay (aa 0) af (fun _ _=>rfl))))) ag)))) (au (bc dg.nd rfl (Or.inl rfl) (dv mq hr (by decide) rfl (aq (ah (aa 0)) (aq (ah af) (aq (ah (aw el af (aw fB (ay (aa 1) af (fun _ _=>rfl)) af))) (aq (ah (aa 4)) aU)))) (ao (ao (ao (ao aS)))))) (au (bc dg.nd rfl (Or.inr rfl) (ah (aw el (aa 4) (bg gJ rfl T.z_len PySem.boot_len (ab (aa 5) ag))))) (au (bc dg.nd rfl (Or.inl rfl) (iS (bK ag))) (au (dR PassesOwn.never rfl (b_ (br (aw el af (aw fB (ay (aa 1) af (fun _ _=>rfl)) af)) rfl T.z_range)) (aQ dg.nd rfl (Or.inl rfl)) (au (bc dg.nd rfl (Or.inr rfl) (ah (bw dZ hr (by decide) rfl (ab (bw d3 hr (by decide) rfl (ab (aa 0) (ab (aw el af (aa 3)) ag)) (aH (aH bU))) (ab af ag)) (aH (aH bU))))) (au (bc dg.nd rfl (Or.inl rfl) (ah (aw el af (aw fB (ay (aa 7) af (fun _ _=>rfl)) af)))) (au (l4 rfl dg.nd rfl rfl (bG.of (own:=["j"]) (kp:=[4,7]) (kn:=["wires","numbers"]) (sc:=lZ.1) (N:=jk) rfl rfl (by decide+kernel)) (b_ (br (aa 8) rfl T.z_range)) (fun _ _ _=>(aQ (show List.Nodup [(Str.ofString "j"),"wires","numbers"] from by decide+kernel) rfl (Or.inl rfl))) (fun _ _ _=>g8) (fun _ _ _=>(ah (aw q_ (aw q_ (aa 1) af) (aw fB (ay (aa 2) (aw el af (aa 0)) (fun _ _=>rfl)) (bg (z9 rfl) rfl T.z_min PyProof.Rows.boot_min (ab (aa 1) (ab af ag)))))))) (au (pG (gq (bO (kQ hr.units) (aw fB (aw qz (ay (aa 7) af (fun _ _=>rfl)) af) af) af (bC _))) (aL (bc dg.nd rfl (Or.inl rfl) (ah (bE (Aw (bK (ab (ay (aa 9) af (fun _ _=>rfl)) ag)) (aa 8)))))) kr) (aL (iX rfl (Or.inl rfl) (ah (bq (ab (ay (bE (bK (ab bz (ab bz ag)))) (aa 3) (fun _ _=>rfl)) (ab (dk pK rfl T.z_tuple PyProof.Rows.boot_tuple (ab (aa 9) ag)) ag))))))))))) (rT 6 (aL (cJ (ah (bq (ab (aa 2) (ab (aa 5) (ab (aa 6) ag)))))))))))))))))),hm,F.kp,F.binds fun _ _ _ _ _ _ us hl=>match us,hl with | [_],_=>rfl⟩
abbrev lJ:Stmt:=top 34
noncomputable abbrev lP:List Str:=["net","plain","many","level","places","turned","number"]
noncomputable def zt:{b:List Stmt // aJ lJ=b}:=⟨_,by conv=>lhs;whnf⟩
noncomputable def oR:{b:Scope // ax lJ=b}:=⟨_,by conv=>lhs;whnf⟩
theorem nX:aR lP ["net","plain","many","level"] oR.1:=⟨rfl,rfl,rfl,by decide+kernel,rfl,by decide+kernel,by decide+kernel⟩
def rm:FZ:=(bA (cH 6 (kP gh (aM (xP (ae 1)) (aM (f7 dt (aM (xP (ae 0)) (aM (xP (ae 5)) di))) (aM (xP (ae 3)) di))))) (Dp (bP (b2 vY (ae 6) (eC .cn))) (gA (xP (dX (ak (eC (.str "breaks")) (ak (ae 5) (ak (ae 6) aI)))))) uC))
def qw:FZ:=(bA (cH 4 (i8 (iP (cT (aP gU (ak (e2 bW (ae 0) (eC (.int 1))) aI)))) (k6 0) (bP (wg (v_ (e2 bW (e2 bW (e2 bW (ae 1) (eC (.int 1))) (ae 0)) (eC (.int 2)))))) (xP (ae 0)) ["k"] [0])) (bA (ju (iP (d5 (aP jG (ak (ae 4) (ak (ae 2) aI))))) (k6 5) rm) (gA (xP (dX (ak (eC (.str "bears")) aI))))))
def y9:List V3->aN->R3 V3:=nU lP qw
def oB:List V3->aN->R3 V3:=pC lP qw
theorem Cq(T:Tp K mg cl)(h:Def K mg "_law_due" lJ)(o_:Callee P w K mg base 1 "_law_sets" 2 jG)(ml:Callee P w K mg base 1 "_law_breaks" 3 gh)(du:bS P w K mg base cl 3 "_law_columns" 2 dt):bS P w K mg base cl 4 "_law_due" 4 y9:=by
 obtain⟨f,fd,F,hm⟩:=h;exact⟨f,fd,_,bV (k:=3) zt.2 oR.2 F nX (fun dY A outer s H E hr=>(au (l4 rfl nX.nd rfl rfl (bG.of (own:=["k"]) (kp:=[0]) (kn:=["net"]) (sc:=oR.1) (N:=lP) rfl rfl (by decide+kernel)) (b_ (br (bg gJ rfl T.z_len PySem.boot_len (ab (ay (aa 0) af (fun _ _=>rfl)) ag)) rfl T.z_range)) (fun _ _ _=>(aQ (show List.Nodup [(Str.ofString "k"),"net"] from by decide+kernel) rfl (Or.inl rfl))) (fun _ _ _=>(uc (gq (rX (sd (ay (ay (ay (aa 1) af (fun _ _=>rfl)) (aa 0) (fun _ _=>rfl)) af (fun _ _=>rfl))))))) (fun _ _ _=>(ah (aa 0)))) (au (dR PassesOwn.never rfl (b_ (cI (bw o_ hr (by decide) rfl (ab (aa 4) (ab (aa 2) ag)) (aH (aH bU))))) (aQ nX.nd rfl (Or.inl rfl)) (au (bc nX.nd rfl (Or.inl rfl) (sV ml hr (by decide) rfl (aq (ah (aa 1)) (aq (dv du hr (by decide) rfl (aq (ah (aa 0)) (aq (ah (aa 5)) aU)) (ao (ao aS))) (aq (ah (aa 3)) aU))) (ao (ao (ao aS))))) (aL (pG (gq (bO Bi (aa 6) kB (bC _))) (aL (cJ (ah (bq (ab bz (ab (aa 5) (ab (aa 6) ag))))))) kr)))) (aL (cJ (ah (bq (ab bz ag)))))))),hm,F.kp,F.binds fun _ _ _ _ _ _ us hl=>match us,hl with | [_,_,_,_],_=>rfl⟩
abbrev fJ:Stmt:=top 35
noncomputable abbrev dW:List Str:=["net","plain","found","place","other","wrong","none","one","two","odd"]
noncomputable def tV:{b:List Stmt // aJ fJ=b}:=⟨_,by conv=>lhs;whnf⟩
noncomputable def eZ:{b:Scope // ax fJ=b}:=⟨_,by conv=>lhs;whnf⟩
theorem cf:aR dW ["net","plain"] eZ.1:=⟨rfl,rfl,rfl,by decide+kernel,rfl,by decide+kernel,by decide+kernel⟩
def i3:FZ:=(bA (cH 9 (i8 (iP (cT (aP gU (ak (ae 7) aI)))) (k6 0) (bP (b2 yR (e2 bW (ae 2) (ae 0)) (e2 bW (ae 1) (ae 0)))) (xP (e2 bW (ae 2) (ae 0))) ["k"] [7,8])) (bA (cH 5 (xP (e2 eD (ae 5) (aP kz (ak (e2 yR (eNew (d4 (d5 (ae 9)) (aK 0) (b2 vY (ae 0) (eC .cn)) (ae 0) ["bit"] [])) (eNew (eW aI))) aI))))) (cH 6 (xP (e2 eD (ae 6) (aP kz (ak (Df (e2 yR (ae 9) (eNew (eW aI))) (e2 kG (eNew (d4 (d5 (ae 9)) (aK 0) (b2 vY (ae 0) (eC .cn)) (ae 0) ["bit"] [])) (eNew (eW aI)))) aI)))))))
def iU:FZ:=(Dp (bP (wg (v_ (e2 bW (e2 bW (e2 bW (ae 0) (eC (.int 1))) (ae 3)) (eC (.int 2)))))) (bA (cH 4 (f7 dt (aM (xP (ae 0)) (aM (xP (dX (ak (ae 3) aI))) di)))) (bA (cH 5 (xP (eC (.int 0)))) (bA (cH 6 (xP (eC (.int 0)))) (bA (ju (iP (vK (ae 1) (ae 4))) (GB 2 (Aj (k6 7) (Aj (k6 8) Ii))) i3) (mX 2 (xP (dX (ak (ae 3) (ak (ae 5) (ak (ae 6) aI)))))))))) uC)
def kD:FZ:=(bA (cH 2 (p7 (eW aI))) (bA (ju (iP (cT (aP gU (ak (e2 bW (ae 0) (eC (.int 1))) aI)))) (k6 3) iU) (gA (dU 2))))
def tF:List V3->aN->R3 V3:=nU dW kD
def jB:List V3->aN->R3 V3:=pC dW kD
theorem uJ(T:Tp K mg cl)(h:Def K mg "_law_matters" fJ)(du:bS P w K mg base cl 3 "_law_columns" 2 dt):bS P w K mg base cl 4 "_law_matters" 2 tF:=by
 obtain⟨f,fd,F,hm⟩:=h;exact⟨f,fd,_,bV (k:=3) tV.2 eZ.2 F cf (fun dY A outer s H E hr=>(au (bc cf.nd rfl (Or.inl rfl) (iS (bK ag))) (au (dR PassesOwn.never rfl (b_ (br (bg gJ rfl T.z_len PySem.boot_len (ab (ay (aa 0) af (fun _ _=>rfl)) ag)) rfl T.z_range)) (aQ cf.nd rfl (Or.inl rfl)) (aL (pG (gq (rX (sd (ay (ay (ay (aa 0) af (fun _ _=>rfl)) (aa 3) (fun _ _=>rfl)) af (fun _ _=>rfl))))) (au (bc cf.nd rfl (Or.inl rfl) (dv du hr (by decide) rfl (aq (ah (aa 0)) (aq (ah (bq (ab (aa 3) ag))) aU)) (ao (ao aS)))) (au (bc cf.nd rfl (Or.inl rfl) (ah af)) (au (bc cf.nd rfl (Or.inl rfl) (ah af)) (au (dR PassesOwn.never rfl (b_ (sY (aa 1) (aa 4) rfl T.z_zip)) (l3 rfl (cR (aQ cf.nd rfl (Or.inr rfl)) (cR (aQ cf.nd rfl (Or.inr rfl)) jv))) (au (l4 rfl cf.nd rfl rfl (bG.of (own:=["k"]) (kp:=[7,8]) (kn:=["one","two"]) (sc:=eZ.1) (N:=dW) rfl rfl (by decide+kernel)) (b_ (br (bg gJ rfl T.z_len PySem.boot_len (ab (aa 7) ag)) rfl T.z_range)) (fun _ _ _=>(aQ (show List.Nodup [(Str.ofString "k"),"one","two"] from by decide+kernel) rfl (Or.inl rfl))) (fun _ _ _=>(uc (gq (bO (v7 hr.units) (ay (aa 2) (aa 0) (fun _ _=>rfl)) (ay (aa 1) (aa 0) (fun _ _=>rfl)) (bC _))))) (fun _ _ _=>(ah (ay (aa 2) (aa 0) (fun _ _=>rfl))))) (au (bc cf.nd rfl (Or.inl rfl) (ah (aw el (aa 5) (dk qy rfl T.z_int PyProof.Rows.boot_int (ab (je (v7 hr.units) (bE (cO rfl (bG.of (own:=["bit"]) (kp:=[]) (kn:=[]) (sc:=eZ.1) (N:=dW) rfl rfl (by decide+kernel)) (cI (aa 9)) (fun _ _ _=>(aV (show List.Nodup [(Str.ofString "bit")] from by decide+kernel) rfl (Or.inl rfl))) (fun _ _ _=>(nk (bO Bi (aa 0) kB (bC _)))) (fun _ _ _=>(aa 0)))) (bE (bK ag)) (bC _)) ag))))) (aL (bc cf.nd rfl (Or.inl rfl) (ah (aw el (aa 6) (dk qy rfl T.z_int PyProof.Rows.boot_int (ab (Hj (je (v7 hr.units) (aa 9) (bE (bK ag)) (bC _)) (HM (je (kQ hr.units) (bE (cO rfl (bG.of (own:=["bit"]) (kp:=[]) (kn:=[]) (sc:=eZ.1) (N:=dW) rfl rfl (by decide+kernel)) (cI (aa 9)) (fun _ _ _=>(aV (show List.Nodup [(Str.ofString "bit")] from by decide+kernel) rfl (Or.inl rfl))) (fun _ _ _=>(nk (bO Bi (aa 0) kB (bC _)))) (fun _ _ _=>(aa 0)))) (bE (bK ag)) (bC _)))) ag))))))))) (aL (iX rfl (Or.inl rfl) (ah (bq (ab (aa 3) (ab (aa 5) (ab (aa 6) ag))))))))))) kr))) (aL (cJ (bF 2)))))),hm,F.kp,F.binds fun _ _ _ _ _ _ us hl=>match us,hl with | [_,_],_=>rfl⟩
abbrev A8:Stmt:=top 36
noncomputable abbrev pM:List Str:=["script","net","plain","sound","many","level"]
noncomputable def Kb:{b:List Stmt // aJ A8=b}:=⟨_,by conv=>lhs;whnf⟩
noncomputable def wM:{b:Scope // ax A8=b}:=⟨_,by conv=>lhs;whnf⟩
theorem vy:aR pM ["script"] wM.1:=⟨rfl,rfl,rfl,by decide+kernel,rfl,by decide+kernel,by decide+kernel⟩
def AI:FZ:=(Dp (MO yR (f7 sO (aM (xP (ae 1)) (aM (xP (ae 4)) (aM (xP (ae 5)) di)))) (f7 oB (aM (xP (ae 1)) (aM (xP (ae 2)) (aM (xP (ae 4)) (aM (xP (ae 5)) di)))))) (gA (xP (eC (.bl false)))) uC)
def AQ:FZ:=(ju (iP (d5 (eNew (eW (ak (eC (.str "right")) (ak (eC (.str "safe")) aI)))))) (k6 5) AI)
def vz:FZ:=(bA (cH 1 (f7 lX (aM (xP (ae 0)) di))) (bA (cH 2 (f7 dt (aM (xP (ae 1)) (aM (xP (dX aI)) di)))) (bA (cH 3 (xP (e2 kG (eNew (d4 (d5 (ae 2)) (aK 0) (b2 Ce (eC .cn) (ae 0)) (ae 0) ["row"] [])) (eNew (eW aI))))) (bA (Dp (MO yR (f7 m6 (aM (xP (ae 1)) di)) (xP (ae 3))) (gA (xP (eC (.bl false)))) uC) (bA (Dp (MO yR (f7 oV (aM (xP (ae 1)) di)) (xP (eNew (d4 (cT (aP gU (ak (e2 bW (ae 1) (eC (.int 2))) aI))) (aK 0) i_ (eNew (d4 (d5 (ae 1)) (aK 0) i_ (e2 bW (ae 0) (ae 1)) ["row"] [0])) ["k"] [2])))) (gA (xP (eC (.bl false)))) uC) (bA (Dp (bP (wg (v_ (ae 3)))) (gA (xP (eC (.bl true)))) uC) (bA (ju (iP (cT (eC (.int 4)))) (k6 4) AQ) (gA (J_ (x2 kG (f7 tQ (aM (xP (ae 1)) di)) (f7 jB (aM (xP (ae 1)) (aM (xP (ae 2)) di)))) (x2 kG (xP (ae 1)) (f7 lX (aM (xP (ae 0)) di))))))))))))
def OC:List V3->aN->R3 V3:=nU pM vz
def Ob:List V3->aN->R3 V3:=pC pM vz
def Bd:List D->R D:=NA pM vz
structure Cf (K:W.Frag) (mg:Vw) (cl:Vx):Prop where
 C_Bench:xn K (cl 0)
 N_Bench_net:dr K (cl 0) "net"
 N_Bench_many_inputs:dr K (cl 0) "many_inputs"
 N_Bench_full:dr K (cl 0) "full"
 N_Bench_in_masks:dr K (cl 0) "in_masks"
 M_Bench:mg "Bench"=some (.ref (cl 0))
 C_Trial:xn K (cl 1)
 N_Trial_bench:dr K (cl 1) "bench"
 N_Trial_plain:dr K (cl 1) "plain"
 N_Trial_unsure:dr K (cl 1) "unsure"
 M_Trial:mg "Trial"=some (.ref (cl 1))
 ei:BN K (cl 0) "__init__" "Bench.__init__" bZ
 fQ:oG K (cl 0) "tells" "Bench.tells" cL
 eh:oG K (cl 0) "readings" "Bench.readings" bY
 fj:oG K (cl 0) "column" "Bench.column" cA
 eg:BN K (cl 1) "__init__" "Trial.__init__" bX
 dN:oG K (cl 1) "breaks_at" "Trial.breaks_at" bN
 dP:oG K (cl 0) "inputs_in" "Bench.inputs_in" bJ
theorem LZ{K:W.Frag}{h:Heap}{mg:Vw}(X:K.In h)(G:h.Ns mainGlobals mg){C0:Addr}{C1:Addr}{f0:Addr}{Tt TX:Option Addr}{Tv:Array (Option Value)}{UE Th Uw TM Rp Uh:Value}{f1:Addr}{UA Uc:Option Addr}{T5:Array (Option Value)}{Tx Us Ub T8 Ri T7:Value}{f2:Addr}{T9 T6:Option Addr}{Lw:Array (Option Value)}{Uk Tq Uv S9 Rj UG:Value}{f3:Addr}{TV Tz:Option Addr}{Uq:Array (Option Value)}{Tf Uy TR UM Rq Ut:Value}{f4:Addr}{Tu Ux:Option Addr}{Tg:Array (Option Value)}{TZ UK Td UC Rm TH:Value}{f5:Addr}{Tb T4:Option Addr}{Te:Array (Option Value)}{UL Tj Tr S_ Rf TC:Value}{f6:Addr}{TN UN:Option Addr}{Ui:Array (Option Value)}{Um UB Ue To Rk Ud:Value}(Px:PySem.W.nsIn K mainGlobals "Bench"=some (some (.ref C0)))(Pc:PySem.W.plainGet K C0 Str.empty=true)(Ld:PySem.W.hasDictIn K C0=true)(Pt:PySem.W.plainOver K C0=true)(P4:PySem.W.findIn K (.ref C0) "__setattr__"=some (some (.builtin "object.__setattr__")))(Pe:PySem.W.makesIn K C0=true)(Pr:PySem.W.keepIn K (.ref C0)=true)(Ap:PySem.W.findIn K (.ref C0) "net"=some none)(j1:PySem.W.findIn K (.ref C0) "many_inputs"=some none)(xg:PySem.W.findIn K (.ref C0) "full"=some none)(nG:PySem.W.findIn K (.ref C0) "in_masks"=some none)(Pw:PySem.W.nsIn K mainGlobals "Trial"=some (some (.ref C1)))(Py:PySem.W.plainGet K C1 Str.empty=true)(Pk:PySem.W.hasDictIn K C1=true)(Pq:PySem.W.plainOver K C1=true)(Qe:PySem.W.findIn K (.ref C1) "__setattr__"=some (some (.builtin "object.__setattr__")))(P7:PySem.W.makesIn K C1=true)(Pg:PySem.W.keepIn K (.ref C1)=true)(uj:PySem.W.findIn K (.ref C1) "bench"=some none)(ug:PySem.W.findIn K (.ref C1) "plain"=some none)(qY:PySem.W.findIn K (.ref C1) "unsure"=some none)(ik:PySem.W.findIn K (.ref C0) "__init__"=some (some (.ref f0)))(iq:PySem.W.isFn K (.ref f0)=true)(ic:K.lookup f0=some ⟨UE,Tt, .func (PySem.W.fnOf "__init__" "Bench.__init__" (fV bZ) (aJ bZ) (ax bZ) .none Th Uw TM TX Rp Uh),Tv⟩)(ec:PySem.W.codeIn K Rp "Bench.__init__"=true)(il:PySem.W.keepIn K (.ref f0)=true)(kY:PySem.W.findIn K (.ref C0) "tells"=some (some (.ref f1)))(kT:PySem.W.isFn K (.ref f1)=true)(kR:K.lookup f1=some ⟨Tx,UA, .func (PySem.W.fnOf "tells" "Bench.tells" (fV cL) (aJ cL) (ax cL) .none Us Ub T8 Uc Ri T7),T5⟩)(fK:PySem.W.codeIn K Ri "Bench.tells"=true)(iG:PySem.W.keepIn K (.ref f1)=true)(ib:PySem.W.findIn K (.ref C0) "readings"=some (some (.ref f2)))(ie:PySem.W.isFn K (.ref f2)=true)(ij:K.lookup f2=some ⟨Uk,T9, .func (PySem.W.fnOf "readings" "Bench.readings" (fV bY) (aJ bY) (ax bY) .none Tq Uv S9 T6 Rj UG),Lw⟩)(d7:PySem.W.codeIn K Rj "Bench.readings"=true)(fm:PySem.W.keepIn K (.ref f2)=true)(j0:PySem.W.findIn K (.ref C0) "column"=some (some (.ref f3)))(j3:PySem.W.isFn K (.ref f3)=true)(j5:K.lookup f3=some ⟨Tf,TV, .func (PySem.W.fnOf "column" "Bench.column" (fV cA) (aJ cA) (ax cA) .none Uy TR UM Tz Rq Ut),Uq⟩)(e8:PySem.W.codeIn K Rq "Bench.column"=true)(gO:PySem.W.keepIn K (.ref f3)=true)(iy:PySem.W.findIn K (.ref C1) "__init__"=some (some (.ref f4)))(iu:PySem.W.isFn K (.ref f4)=true)(ix:K.lookup f4=some ⟨TZ,Tu, .func (PySem.W.fnOf "__init__" "Trial.__init__" (fV bX) (aJ bX) (ax bX) .none UK Td UC Ux Rm TH),Tg⟩)(d8:PySem.W.codeIn K Rm "Trial.__init__"=true)(ig:PySem.W.keepIn K (.ref f4)=true)(gR:PySem.W.findIn K (.ref C1) "breaks_at"=some (some (.ref f5)))(gS:PySem.W.isFn K (.ref f5)=true)(gP:K.lookup f5=some ⟨UL,Tb, .func (PySem.W.fnOf "breaks_at" "Trial.breaks_at" (fV bN) (aJ bN) (ax bN) .none Tj Tr S_ T4 Rf TC),Te⟩)(dE:PySem.W.codeIn K Rf "Trial.breaks_at"=true)(eU:PySem.W.keepIn K (.ref f5)=true)(gM:PySem.W.findIn K (.ref C0) "inputs_in"=some (some (.ref f6)))(gL:PySem.W.isFn K (.ref f6)=true)(gQ:K.lookup f6=some ⟨Um,TN, .func (PySem.W.fnOf "inputs_in" "Bench.inputs_in" (fV bJ) (aJ bJ) (ax bJ) .none UB Ue To UN Rk Ud),Ui⟩)(dJ:PySem.W.codeIn K Rk "Bench.inputs_in"=true)(eT:PySem.W.keepIn K (.ref f6)=true):∃cl,Cf K mg cl:=by
 exact⟨fun n=>if n=0 then C0 else C1,⟨Pc,Ld,Pt,P4⟩,Ap,j1,xg,nG,PySem.W.mg_of X G Px,⟨Py,Pk,Pq,Qe⟩,uj,ug,qY,PySem.W.mg_of X G Pw,⟨_,_,mW (st:=bZ) ic ec il,⟨Pe,ik,iq,Pr⟩⟩,⟨_,_,mW (st:=cL) kR fK iG,⟨kY,kT,iG⟩⟩,⟨_,_,mW (st:=bY) ij d7 fm,⟨ib,ie,fm⟩⟩,⟨_,_,mW (st:=cA) j5 e8 gO,⟨j0,j3,gO⟩⟩,⟨_,_,mW (st:=bX) ix d8 ig,⟨P7,iy,iu,Pg⟩⟩,⟨_,_,mW (st:=bN) gP dE eU,⟨gR,gS,eU⟩⟩,⟨_,_,mW (st:=bJ) gQ dJ eT,⟨gM,gL,eT⟩⟩⟩
theorem KR{K:W.Frag}{mg:Vw}{f:Addr}{fd:FuncData}{cl:Vx}(T:Tp K mg cl)(qZ:Def K mg "vote_of" lg)(nJ:Def K mg "gate_mask" iM)(i5:Def K mg "in_wire_masks" eF)(pk:Def K mg "masks_at" jC)(mh:Def K mg "wire_masks" gy)(nF:Def K mg "out_masks" iJ)(qX:Def K mg "reading" lq)(uh:Def K mg "bit_at" mS)(qL:Def K mg "read_at" k8)(mi:Def K mg "all_inputs" gG)(qT:Def K mg "mask_of" lz)(qQ:Def K mg "in_mask" lj)(ei:BN K (cl 0) "__init__" "Bench.__init__" bZ)(fQ:oG K (cl 0) "tells" "Bench.tells" cL)(eh:oG K (cl 0) "readings" "Bench.readings" bY)(pq:Def K mg "is_sound" jN)(fj:oG K (cl 0) "column" "Bench.column" cA)(qM:Def K mg "columns" lH)(qV:Def K mg "choices" lA)(eg:BN K (cl 1) "__init__" "Trial.__init__" bX)(dN:oG K (cl 1) "breaks_at" "Trial.breaks_at" bN)(dP:oG K (cl 0) "inputs_in" "Bench.inputs_in" bJ)(w_:Def K mg "bears" qh)(qR:Def K mg "matters" lG)(k3:Def K mg "_law_cell_at" fP)(kZ:Def K mg "_law_numbers" fI)(pA:Def K mg "_law_kind" jO)(nK:Def K mg "_law_gates" iL)(pe:Def K mg "_law_told" jV)(ph:Def K mg "_law_read" jz)(px:Def K mg "_law_outs" jW)(pf:Def K mg "_law_bits" jQ)(kU:Def K mg "_law_columns" fD)(mr:Def K mg "_law_breaks" gn)(pB:Def K mg "_law_sets" jD)(qN:Def K mg "_law_net" lr)(qS:Def K mg "_law_due" lJ)(k4:Def K mg "_law_matters" fJ)(F:Bj K "law" "law" A8 f fd):jg P w K mg base uI 9 f fd ["script"] (C2 K 1 Bd):=by
 have jr:=B6 (P:=P) (w:=w) (base:=base) T qZ;have nH:=ya (P:=P) (w:=w) (base:=base) T nJ jr;have fq:=rJ (P:=P) (w:=w) (base:=base) T i5;have XP_in_wire_masks:=fq.p;have ip:=zD (P:=P) (w:=w) (base:=base) T pk;have XK_wire_masks:=wz (P:=P) (w:=w) (base:=base) T mh ip nH fq;have k5:=XK_wire_masks.p;have XK_out_masks:=yu (P:=P) (w:=w) (base:=base) T nF ip;have mj:=XK_out_masks.p;have qW:=Cj (P:=P) (w:=w) (base:=base) T qX jr;have j4:=C7 (P:=P) (w:=w) (base:=base) T uh;have qO:=BI (P:=P) (w:=w) (base:=base) T qL j4;have XK_all_inputs:=wL (P:=P) (w:=w) (base:=base) T mi;have kW:=XK_all_inputs.p;have jq:=Cr (P:=P) (w:=w) (base:=base) T qT;have qU:=BS (P:=P) (w:=w) (base:=base) T qQ jq;have bQ:=ec (P:=P) (w:=w) (base:=base) T ei jq qU kW;have XK_Bench_tells:=fK (P:=P) (w:=w) (base:=base) T fQ k5 mj;have j2:=XK_Bench_tells.p;have XK_Bench_readings:=d7 (P:=P) (w:=w) (base:=base) T eh qW j2;have bj:=XK_Bench_readings.p;have XK_is_sound:=zj (P:=P) (w:=w) (base:=base) T pq bQ bj;have XP_is_sound:=XK_is_sound.p;have XK_Bench_column:=e8 (P:=P) (w:=w) (base:=base) T fj qO;have i7:=XK_Bench_column.p;have XK_columns:=BF (P:=P) (w:=w) (base:=base) T qM bQ bj i7;have XP_columns:=XK_columns.p;have qP:=vj (P:=P) (w:=w) (base:=base) T qV 4;have cS:=d8 (P:=P) (w:=w) (base:=base) T eg bQ bj;have XK_Trial_breaks_at:=dE (P:=P) (w:=w) (base:=base) T dN bj;have cx:=XK_Trial_breaks_at.p;have XK_Bench_inputs_in:=dJ (P:=P) (w:=w) (base:=base) T dP j4;have cw:=XK_Bench_inputs_in.p;have XK_bears:=GR (P:=P) (w:=w) (base:=base) T w_ qP cS cx cw;have XP_bears:=XK_bears.p;have XK_matters:=B4 (P:=P) (w:=w) (base:=base) T qR cS cx cw;have XP_matters:=XK_matters.p;have d3:=uu (P:=P) (w:=w) (base:=base) T k3;have dZ:=uQ (P:=P) (w:=w) (base:=base) T kZ;have pj:=Ab (P:=P) (w:=w) (base:=base) T pA;have XK_law_gates:=xq (P:=P) (w:=w) (base:=base) T nK d3 dZ pj;have mq:=XK_law_gates.p;have XK_law_told:=zw (P:=P) (w:=w) (base:=base) T pe;have nL:=XK_law_told.p;have pz:=Af (P:=P) (w:=w) (base:=base) T ph;have XK_law_outs:=zp (P:=P) (w:=w) (base:=base) T px nL;have nM:=XK_law_outs.p;have pd:=yZ (P:=P) (w:=w) (base:=base) T pf;have XK_law_columns:=uE (P:=P) (w:=w) (base:=base) T kU pd pz nM;have du:=XK_law_columns.p;have ml:=vW (P:=P) (w:=w) (base:=base) T mr;have o_:=yY (P:=P) (w:=w) (base:=base) T pB;have XK_law_net:=B8 (P:=P) (w:=w) (base:=base) T qN d3 dZ mq;have XP_law_net:=XK_law_net.p;have XK_law_due:=Cq (P:=P) (w:=w) (base:=base) T qS o_ ml du;have XP_law_due:=XK_law_due.p;have XK_law_matters:=uJ (P:=P) (w:=w) (base:=base) T k4 du;have XP_law_matters:=XK_law_matters.p;exact(bV (cl:=cl) (N:=pM) (F:=vz) (k:=8) Kb.2 wM.2 F vy (fun dY A outer s H E hr=>(au (bc vy.nd rfl (Or.inl rfl) (dv XP_law_net hr (by decide) rfl (aq (ah (aa 0)) aU) (ao aS))) (au (bc vy.nd rfl (Or.inr rfl) (dv du hr (by decide) rfl (aq (ah (aa 1)) (aq (ah (bq ag)) aU)) (ao (ao aS)))) (au (bc vy.nd rfl (Or.inl rfl) (ah (je (kQ hr.units) (bE (cO rfl (bG.of (own:=["row"]) (kp:=[]) (kn:=[]) (sc:=wM.1) (N:=pM) rfl rfl (by decide+kernel)) (cI (aa 2)) (fun _ _ _=>(aV (show List.Nodup [(Str.ofString "row")] from by decide+kernel) rfl (Or.inl rfl))) (fun _ _ _=>(nk (bO MQ kB (aa 0) (by with_unfolding_all rfl)))) (fun _ _ _=>(aa 0)))) (bE (bK ag)) (bC _)))) (au (pG (wU (v7 hr.units) (dv XP_is_sound hr (by decide) rfl (aq (ah (aa 1)) aU) (ao aS)) (ah (aa 3)) (bC _)) (aL (cJ (ah v8))) kr) (au (pG (wU (v7 hr.units) (dv XP_columns hr (by decide) rfl (aq (ah (aa 1)) aU) (ao aS)) (ah (bE (cO rfl (bG.of (own:=["k"]) (kp:=[2]) (kn:=["plain"]) (sc:=wM.1) (N:=pM) rfl rfl (by decide+kernel)) (br (bg gJ rfl T.z_len PySem.boot_len (ab (ay (aa 1) af (fun _ _=>rfl)) ag)) rfl T.z_range) (fun _ _ _=>(aV (show List.Nodup [(Str.ofString "k"),"plain"] from by decide+kernel) rfl (Or.inr rfl))) (fun _ _ _=>dz) (fun _ _ _=>(bE (cO rfl (bG.of (own:=["row"]) (kp:=[0]) (kn:=["k"]) rfl rfl rfl) (cI (aa 1)) (fun _ _ _=>(aV (show List.Nodup [(Str.ofString "row"),"k"] from by decide+kernel) rfl (Or.inl rfl))) (fun _ _ _=>dz) (fun _ _ _=>(ay (aa 0) (aa 1) (fun _ _=>rfl))))))))) (bC _)) (aL (cJ (ah v8))) kr) (au (pG (gq (rX (sd (aa 3)))) (aL (cJ (ah v8))) kr) (au (dR PassesOwn.never rfl (b_ (br af rfl T.z_range)) (aQ vy.nd rfl (Or.inl rfl)) (aL (dR PassesOwn.never rfl (b_ (cI (bE (bK (ab bz (ab bz ag)))))) (aQ vy.nd rfl (Or.inl rfl)) (aL (pG (wU (v7 hr.units) (dv XP_bears hr (by decide) rfl (aq (ah (aa 1)) (aq (ah (aa 4)) (aq (ah (aa 5)) aU))) (ao (ao (ao aS)))) (dv XP_law_due hr (by decide) rfl (aq (ah (aa 1)) (aq (ah (aa 2)) (aq (ah (aa 4)) (aq (ah (aa 5)) aU)))) (ao (ao (ao (ao aS))))) (bC _)) (aL (cJ (ah v8))) kr))))) (aL (cJ (Km (zd (kQ hr.units) (dv XP_matters hr (by decide) rfl (aq (ah (aa 1)) aU) (ao aS)) (dv XP_law_matters hr (by decide) rfl (aq (ah (aa 1)) (aq (ah (aa 2)) aU)) (ao (ao aS))) (bC _)) (JC (zd (kQ hr.units) (ah (aa 1)) (dv XP_law_net hr (by decide) rfl (aq (ah (aa 0)) aU) (ao aS)) (bC _))))))))))))))).imp fun _ _ _ _ h=>IK h
end K41
end
section
namespace K41
open PySem PySem.Spec PyProof.Rows L2 L3
theorem MB(ds:List D):∀n,rK n (.lst ds)=true:=fun _=>rfl
end K41
end
section
namespace K41
open PySem PySem.Spec PyProof.Rows L2 L3 MT
theorem zS{a:D}{r:List D}:bW (.tup (a ::r)) (.int 0)= .ok a:=tL (by rw[o4 (by omega) (by simp)];rfl)
theorem CK{a b:D}{r:List D}:bW (.tup (a ::b ::r)) (.int 1)= .ok b:=tL (by rw[o4 (by omega) (by simp)];rfl)
theorem Qm{a b c:D}{r:List D}:bW (.tup (a ::b ::c ::r)) (.int 2)= .ok c:=tL (by rw[o4 (by omega) (by simp)];rfl)
theorem Be{N:Nat}{a b c:M}:gZ [.tup [mI N a,mI N b,mI N c]]= .ok (mI N fun p=>(a p && b p) || (a p && c p) || (b p && c p)):=by
 unfold gZ u0;refine cN (cm ?_);exact aj (aj (aj (aj rfl rfl zS) (aj rfl rfl CK) (tU N a b)) (aj (aj rfl rfl zS) (aj rfl rfl Qm) (tU N a c)) (vN N _ _)) (aj (aj rfl rfl CK) (aj rfl rfl Qm) (tU N b c)) (vN N _ _)
theorem L1(k j:Nat)(hk:k<=4)(hj:j<=4):kG (.str (kS k)) (.str (kS j))= .ok (.bl (decide (k=j))):=by
 show R.ok (D.bl (kS k==kS j))=_;congr 2
 revert hk hj
 have:∀a∈List.range 5,∀b∈List.range 5,(kS a==kS b)=decide (a=b):=by decide+kernel
 intro hk hj;exact this k (by rw[List.mem_range];omega) j (by rw[List.mem_range];omega)
theorem Hs{N kd:Nat}{xs:List M}(hk:kd<=4)(hx:xs.length=ar kd):iH [.str (kS kd), .tup (xs.map (mI N)),mI N one]= .ok (mI N fun p=>gv kd (xs.map (· p))):=by
 unfold iH rf;have q:∀j,j<=4->b2 kG (ae 0) (eC (.str (kS j))) (dq mR [.str (kS kd), .tup (xs.map (mI N)),mI N one])= .ok (decide (kd=j)):=fun j hj=>eE (a:= .str (kS kd)) (b:= .str (kS j)) rfl rfl (L1 kd j hk hj)
 have q0:=q 0 (by omega)
 have q1:=q 1 (by omega)
 have q2:=q 2 (by omega)
 have q3:=q 3 (by omega)
 match kd,hk,xs,hx with
 | 0,_,[a],_=>
   refine cN (NT.jh (mP q0 (cm (aj (a:=mI N one) (b:=mI N a) rfl (aj rfl rfl zS) (yN N a)))))
 | 1,_,[a,b],_=>
   refine cN (bp (gg q0 rfl) (NT.jh (mP q1 (cm (aj (aj rfl rfl zS) (aj rfl rfl CK) (tU N a b))))))
 | 2,_,[a,b],_=>
   refine cN (bp (gg q0 rfl) (bp (gg q1 rfl) (NT.jh (mP q2 (cm (aj (aj rfl rfl zS) (aj rfl rfl CK) (vN N a b)))))))
 | 3,_,[a,b],_=>
   refine cN (bp (gg q0 rfl) (bp (gg q1 rfl) (bp (gg q2 rfl) (NT.jh (mP q3 (cm (aj (aj rfl rfl zS) (aj rfl rfl CK) (ym N a b))))))))
 | 4,_,[a,b,c],_=>
   refine cN (bp (gg q0 rfl) (bp (gg q1 rfl) (bp (gg q2 rfl) (bp (gg q3 rfl) (cm (aA (ds:=[.tup [mI N a,mI N b,mI N c]]) rfl Be))))))
theorem Iz{N:Nat}{ws:List M}{ns:List Nat}(hn:∀n∈ns,n < ws.length)(hl:ns.length < 1000):fX [.lst (ws.map (mI N)), .tup (ns.map nI)]= .ok (.tup ((ns.map (um ws)).map (mI N))):=by
 have hz:sizeLine=16777216:=sizeLine_eq;unfold fX tm;refine cN (cm (aA (ds:=[.lst ((ns.map (um ws)).map (mI N))]) (az (dA (cX (ds:=ns.map nI) (zX rfl) (by rw[List.length_map];omega) ?_)) rfl) rfl))
 rw[List.map_map];exact NT.fg nI _ fun n Qh=>⟨[.val (nI n), .val (.lst (ws.map (mI N)))],rfl,rfl,aj (a:= .lst (ws.map (mI N))) (b:=nI n) rfl rfl (Kd (hn n Qh))⟩
def zY(N:Nat)(S:aN)(Fq mF PL:D)(a5 a6 a7:Option V3):DE:=[some (.d Fq),some (.d mF),some (.d (mI N one)),some (.d PL),some (.loc S.length),a5,a6,a7]
theorem Dq{N:Nat}{S:aN}{Fq mF:D}{bad:List Int}{a5 a7:Option V3}{b:M}{ws:List M}(hl:ws.length < 10000) :
 W3 (gu (zY N S Fq mF (.tup (bad.map .int)) a5 (some (.d (mI N b))) a7) (S++[.lst (ws.map (mI N))])) fun o S1=>o= .nx (zY N S Fq mF (.tup (bad.map .int)) a5 (some (.d (mI N b))) a7)/\S1=S++[SO.lst ((ws++[fun p=>b p !=bad.contains (ws.length:Int)]).map (mI N))]:=by
 have hz:sizeLine=16777216:=sizeLine_eq;unfold gu;refine my (k:=S.length) rfl ⟨_,aY _ _⟩ (NB (d:=mI N fun p=>b p !=bad.contains (ws.length:Int)) ?_ rfl ⟨_,_,rfl,aY _ _,by rw[List.length_map];omega,rfl,?_⟩)
 .have h4:(f9 (S++[.lst (ws.map (mI N))]) (zY N S Fq mF (.tup (bad.map .int)) a5 (some (.d (mI N b))) a7))[4]? =some (.val (.lst (ws.map (mI N)))):=by
   unfold f9 zY;show some (match res (S++[.lst (ws.map (mI N))]) (.loc S.length) with | some d=>Sl.val d | none=> .un)=_
   unfold res;rw[aY]
  refine we (b:=bad.contains (ws.length:Int)) (eE (a:= .int ws.length) (b:= .tup (bad.map .int)) (aA (ds:=[.lst (ws.map (mI N))]) (az (by unfold ae;rw [h4]) rfl) (by rw[o7,List.length_map])) rfl (vS _ _)) ?_
  rw[<-Du];rfl
 .rw [dH,List.map_append];rfl
theorem yM{N:Nat}{S:aN}{bD:D}{ins:Vt}{bits:List M}{bad:List Int}(hB:bD= .lst (bits.map (mI N))\/bD= .tup (bits.map (mI N)))(hb:bits.length=ins.length)(hi:ins.length < 100)(hw:∀x∈ins,x.2 < 100){Q:V3->aN->Prop}
 (h:Q (.loc S.length) (S++[.lst ((gB ins bits bad ins.length).map (mI N))])) :
 W3 (d6 [.d (.lst (ins.map inD)), .d bD, .d (mI N one), .d (.tup (bad.map .int))] S) Q:=by
 have hz:sizeLine=16777216:=sizeLine_eq;unfold d6;refine uz rfl ?_;simp only[cz,fS,List.map,List.length,List.replicate,List.cons_append,List.nil_append,Nat.reduceAdd,Nat.reduceSub];unfold iZ;refine aX (bB (by simp) (mB (ds:=[]) rfl ⟨_,rfl,?_⟩))
 simp only[List.set];refine aX (fF (j6 (ds:=cK (bits.map (mI N))) (by rcases hB with rfl | rfl <;> rfl) ?_))
 have big:∀i,i<=ins.length->(gB ins bits bad i).length<=100*i:=by
  intro i hi'
  induction i with
  | zero=>simp [gB]
  | succ i ih=>
    have ih:=ih (by omega)
    have h1:ins[i]? =some ins[i]:=List.getElem?_eq_getElem (by omega)
    have h2:bits[i]? =some bits[i]:=List.getElem?_eq_getElem (by omega)
    unfold gB;rw[h1,h2];show(kg bad bits[i] ins[i].2 (gB ins bits bad i)).length<=_;rw[nO];have:=hw ins[i] (List.getElem_mem _);omega
 refine(cb (fun i δ S2=>(∃a b c,δ=zY N S (.lst (ins.map inD)) bD (.tup (bad.map .int)) a b c)/\S2=S++[SO.lst ((gB ins bits bad i).map (mI N))])
  ⟨⟨_,_,_,rfl⟩,rfl⟩ ?_).mono fun o S2 ⟨dM,gb,⟨a,b,c,hδ⟩,hS⟩=>⟨dM,gb,?_⟩
 .rintro i v δ S2 hv ⟨⟨a,b,c,rfl⟩,rfl⟩;obtain⟨d,hd,rfl⟩:=pJ hv;rw[List.getElem?_map] at hd;have hib:i < bits.length:=by
   have:=(List.getElem?_eq_some_iff.mp hv).1;simpa [cK] using this
  have h1:ins[i]? =some ins[i]:=List.getElem?_eq_getElem (by omega)
  have h2:bits[i]? =some bits[i]:=List.getElem?_eq_getElem hib;rw[h2] at hd;cases hd;refine⟨zY N S (.lst (ins.map inD)) bD (.tup (bad.map .int)) (some (.d (.int i))) (some (.d (mI N bits[i]))) c,rfl,?_⟩;unfold kj;have hwi:=hw ins[i] (List.getElem_mem _);refine fF (j6 (c0 (n:=ins[i].2) ?_ (by omega)) ?_)
  .refine aj (a:=inD ins[i]) (b:= .int 1) (aj (a:= .lst (ins.map inD)) (b:= .int i) rfl rfl (wI ?_)) rfl rfl;rw[o4 (by omega) (by rw[List.length_map,Int.toNat_natCast];omega)]
   simp
  refine(cb (fun j δ S3=>(∃c,δ=zY N S (.lst (ins.map inD)) bD (.tup (bad.map .int)) (some (.d (.int i))) (some (.d (mI N bits[i]))) c)/\S3=S++[SO.lst ((kg bad bits[i] j (gB ins bits bad i)).map (mI N))])
   ⟨⟨_,rfl⟩,rfl⟩ ?_).mono fun o S3 ⟨Nj,e3,⟨c3,FQ⟩,Ly⟩=>⟨Nj,e3,⟨_,_,c3,FQ⟩,?_⟩
  .rintro j v δ S3 hv ⟨⟨c3,rfl⟩,rfl⟩;refine⟨_,rfl,?_⟩;have hj:j < ins[i].2:=by
    have:=(List.getElem?_eq_some_iff.mp hv).1
    rwa [List.length_map,hX,List.length_map,List.length_range] at this
   refine(Dq ?_).mono fun o S4 ⟨e4,e5⟩=>⟨_,e4,⟨_,rfl⟩,e5⟩
   rw[nO];have:=big i (by omega)
   omega
  .rw [Ly,List.length_map,hX,List.length_map,List.length_range];show _=S++[SO.lst ((match ins[i]?,bits[i]? with | some x,some b=>kg bad b x.2 (gB ins bits bad i) | _,_=>gB ins bits bad i).map (mI N))]
   rw[h1,h2]
 have hlen:((cK (bits.map (mI N))).map V3.d).length=ins.length:=by simp [cK,hb]
 rw[hlen] at hS;subst hδ hS;exact eR (w_var rfl ⟨_,rfl,h⟩)
section
variable {N:Nat} {ins:Vt} {gs:List Gt} {os:Vu} {bits:List M} {turned bad:List Int}
def yc(N:Nat)(S:aN)(nt mF tD bD:D)(a6 a7 a8:Option V3):DE:=[some (.d nt),some (.d mF),some (.d (mI N one)),some (.d tD),some (.d bD),some (.loc S.length),a6,a7,a8]
theorem Cs{S:aN}{nt mF bD:D}{a8:Option V3}{g:Gt}{i:Nat}{ws:List M}(hg:BQ ws.length g)(hl:ws.length < 20000) :
 W3 (jX (yc N S nt mF (.tup (turned.map .int)) bD (some (.d (.int i))) (some (.d (jb g))) a8) (S++[.lst (ws.map (mI N))])) fun o S1=>(∃c,o= .nx (yc N S nt mF (.tup (turned.map .int)) bD (some (.d (.int i))) (some (.d (jb g))) c))/\S1=S++[SO.lst ((ws++[fun p=>gF g ws p !=turned.contains (i:Int)]).map (mI N))]:=by
 have hz:sizeLine=16777216:=sizeLine_eq;have ha:=EI g.1;unfold jX;refine aX (bB (by unfold yc;simp only[List.length_cons,List.length_nil];omega) (NB (d:=mI N (gF g ws)) ?_ rfl ⟨_,rfl,?_⟩))
 .have h5:(f9 (S++[.lst (ws.map (mI N))]) (yc N S nt mF (.tup (turned.map .int)) bD (some (.d (.int i))) (some (.d (jb g))) a8))[5]? =some (.val (.lst (ws.map (mI N)))):=by
   unfold f9 yc;show some (match res (S++[.lst (ws.map (mI N))]) (.loc S.length) with | some d=>Sl.val d | none=> .un)=_
   unfold res;rw[aY]
  refine(aA (ds:=[.str (kS g.1), .tup ((g.2.1.map (um ws)).map (mI N)),mI N one]) (az (aj (a:=jb g) (b:= .int 0) rfl rfl rfl) (az ?_ (az rfl rfl))) (Hs hg.1 (by rw[List.length_map];exact hg.2.1))).trans ?_
  .exact aA (ds:=[.lst (ws.map (mI N)), .tup (g.2.1.map nI)]) (az (by unfold ae;rw [h5]) (az (aj (a:=jb g) (b:= .int 1) rfl rfl rfl) rfl)) (Iz hg.2.2 (by rw[hg.2.1];omega))
  .have:(fun p=>gv g.1 ((g.2.1.map (um ws)).map (· p)))=gF g ws:=by funext p;unfold gF;rw [List.map_map];rfl
   rw[this]
 .show W3 (mX 5 _ (yc N S nt mF (.tup (turned.map .int)) bD (some (.d (.int i))) (some (.d (jb g))) (some (.d (mI N (gF g ws))))) _) _;refine my (k:=S.length) rfl ⟨_,aY _ _⟩ (cB (d:=mI N fun p=>gF g ws p !=turned.contains (i:Int)) ?_ ⟨_,_,rfl,aY _ _,by rw[List.length_map];omega,⟨_,rfl⟩,?_⟩)
  .refine we (b:=turned.contains (i:Int)) (eE (a:= .int i) (b:= .tup (turned.map .int)) rfl rfl (vS _ _)) ?_;rw[<-Du];rfl
  .rw [dH,List.map_append];rfl
theorem DN{S:aN}{bD:D}(hB:bD= .lst (bits.map (mI N))\/bD= .tup (bits.map (mI N)))(NO:gY ins gs os)(hb:bits.length=ins.length)(hS:j9 S){Q:V3->aN->Prop}(h:Q (.d (.lst ((Gg ins gs bits turned bad).map (mI N)))) S) :
 W3 (iF [.d (ba ins gs os), .d bD, .d (mI N one), .d (.tup (turned.map .int)), .d (.tup (bad.map .int))] S) Q:=by
 have hz:sizeLine=16777216:=sizeLine_eq;unfold iF;refine f_ hS (uz rfl ?_);simp only[cz,ji,List.map,List.length,List.replicate,List.cons_append,List.nil_append,Nat.reduceAdd,Nat.reduceSub];unfold l7;refine aX <| bB (by simp) <| eM <| aD <| cB (d:= .lst (ins.map inD)) rfl <| aD <| cB (d:=bD) rfl <| aD <| cB (d:=mI N one) rfl <| aD <| cB (d:= .tup (bad.map .int)) rfl <| cg <| yM hB hb NO.hi NO.hw ⟨_,rfl,?_⟩
 simp only[List.set];have hwd:=tP NO.hw;have hN:=NO.hi;have hG:=NO.hg;refine aX (fF (j6 (ds:=cK (gs.map jb)) rfl ?_));refine(cb (fun i δ S2=>(∃a b c,δ=yc N S (ba ins gs os) bD (.tup (turned.map .int)) (.tup (bad.map .int)) a b c)/\S2=S++[SO.lst ((vB gs turned (gB ins bits bad ins.length) i).map (mI N))])
  ⟨⟨_,_,_,rfl⟩,rfl⟩ ?_).mono fun o S2 ⟨dM,gb,⟨a,b,c,hδ⟩,rR⟩=>⟨dM,gb,?_⟩
 .rintro i v δ S2 hv ⟨⟨a,b,c,rfl⟩,rfl⟩;obtain⟨d,hd,rfl⟩:=pJ hv;rw[List.getElem?_map] at hd;cases q:gs[i]? with
  | none=>rw [q] at hd;cases hd
  | some g=>
    rw[q] at hd;cases hd;have hi:i < gs.length:=(List.getElem?_eq_some_iff.mp q).1;have hl:(vB gs turned (gB ins bits bad ins.length) i).length=rq ins+i:=by rw[p_ _ (by omega),lN hb _ (Nat.le_refl _),List.take_length]
    refine⟨yc N S (ba ins gs os) bD (.tup (turned.map .int)) (.tup (bad.map .int)) (some (.d (.int i))) (some (.d (jb g))) c,rfl,?_⟩;refine(Cs (by rw[hl];exact NO.g i g q) (by rw[hl];omega)).mono fun o S4 ⟨⟨c4,e4⟩,e5⟩=>⟨_,e4,⟨_,_,_,rfl⟩,?_⟩
    rw[e5];show _=S++[SO.lst ((match gs[i]? with | some g=>vB gs turned (gB ins bits bad ins.length) i++[fun p=>gF g (vB gs turned (gB ins bits bad ins.length) i) p !=turned.contains (i:Int)] | none=>vB gs turned (gB ins bits bad ins.length) i).map (mI N))]
    rw[q]
 have hlen:((cK (gs.map jb)).map V3.d).length=gs.length:=by simp [cK]
 rw[hlen] at rR;subst hδ rR;exact eR (w_var rfl ⟨_,rfl,by unfold fH;exact decide_eq_true (Nat.le_refl _),⟨_,rfl⟩,_,by unfold res;rw [aY];rfl,h⟩)
def oA(N:Nat)(os:Vu)(ws:List M):List D:=os.map fun x=> .tup ((tell ws x).map (mI N))
theorem GG{S:aN}{ws:List M}(hO:os.length < 1000)(ho:∀x∈os,x.2.length < 1000/\∀w∈x.2,w < ws.length)(hS:j9 S){Q:V3->aN->Prop}(h:Q (.d (.lst (oA N os ws))) S) :
 W3 (ja [.d (ba ins gs os), .d (.lst (ws.map (mI N)))] S) Q:=by
 have hz:sizeLine=16777216:=sizeLine_eq;unfold ja;refine f_ hS (uz rfl ?_);simp only[cz,iI,List.map,List.length,List.replicate,List.cons_append,List.nil_append,Nat.reduceAdd,Nat.reduceSub];unfold mY;refine eR (mB (ds:=oA N os ws) ?_ ⟨_,rfl,by unfold fH;exact decide_eq_true (Nat.le_refl _),⟨_,rfl⟩,_,by unfold res;rw [aY],h⟩)
 refine cX (ds:=os.map BX) (jI (aj (a:=ba ins gs os) (b:= .int 2) rfl rfl rfl)) (by rw[List.length_map];omega) ?_
 unfold oA;refine NT.fg BX _ fun(x:Str × List Nat) hx=>⟨[.val (.str x.1), .val (.tup (x.2.map nI)), .val (.lst (ws.map (mI N)))],rfl,rfl,?_⟩
 exact aA (ds:=[.lst (ws.map (mI N)), .tup (x.2.map nI)]) rfl (Iz (ho x hx).2 (ho x hx).1)
end
end K41
end
section
namespace K41
open PySem PySem.Spec PyProof.Rows L2 L3 MT
def r0(xs:List M):M:=fun p=>(J6 (xs.map (· p))).1
def r1(xs:List M):M:=fun p=>(J6 (xs.map (· p))).2
theorem tT{n:Nat}{ds:List D}{δ:av}{j:Int}(h:ae 0 δ= .ok (.tup ds))(hl:ds.length=n):b2 kG (aP gU (ak (ae 0) aI)) (eC (.int j)) δ= .ok (decide ((n:Int)=j)):=by
 refine eE (a:= .int n) (b:= .int j) (aA (ds:=[.tup ds]) (az h rfl) ?_) rfl ?_
 .show R.ok (D.int ds.length)=_;rw[hl]
 .show R.ok (D.bl ((n:Int)==j))=_;congr 2
theorem z_{N:Nat}{xs:List M}(h:1<=xs.length/\xs.length<=3):lI [.tup (xs.map (mI N)),mI N one]= .ok (.tup [mI N (r0 xs),mI N (r1 xs)]):=by
 have hz:sizeLine=16777216:=sizeLine_eq;unfold lI uU
 match xs,h with
 | [a],_=>
   refine cN (bp (gg (tT (n:=1) rfl rfl) rfl) (bp (eu (d:=mI N a) (we (tT (n:=1) rfl rfl) (aj (a:= .tup [mI N a]) (b:= .int 0) rfl rfl zS)) (by simp [dq,nT])) (cm ?_)))
   exact cZ (az (aj (a:=mI N one) (b:=mI N a) rfl rfl (yN N a)) (az rfl rfl)) (by simp;omega)
 | [a,b],_=>
   refine cN (NT.jh (mP (tT (n:=2) rfl rfl) (cm ?_)));exact cZ (az (aj (a:=mI N one) (b:=mI N fun p=>a p || b p) rfl (aj (aj rfl rfl zS) (aj rfl rfl CK) (vN N a b)) (yN N _)) (az (aj (aj rfl rfl zS) (aj rfl rfl CK) (tU N a b)) rfl)) (by simp;omega)
 | [a,b,c],_=>
   refine cN (bp (gg (tT (n:=3) rfl rfl) rfl) (bp (eu (d:=mI N fun p=>(a p && b p) || (a p && c p) || (b p && c p)) (we (tT (n:=3) rfl rfl) (aA (ds:=[.tup [mI N a,mI N b,mI N c]]) rfl Be)) (by simp [dq,nT])) (cm ?_)))
   exact cZ (az (aj (a:=mI N one) (b:=mI N fun p=>(a p && b p) || (a p && c p) || (b p && c p)) rfl rfl (yN N _)) (az rfl rfl)) (by simp;omega)
theorem zg{N n:Nat}{f:M}:fL [mI N f, .int n]= .ok (.int (if decide (n < N) && f n then 1 else 0)):=by
 unfold fL yi;refine cN (cm ?_);have h:=LN N f n;show(R.bind (R.bind (R.ok (mI N f)) fun d=>R.bind (R.ok (D.int n)) fun e=>x_ d e) fun d=>R.bind (R.ok (D.int 1)) fun e=>z6 d e)=_
 exact h
theorem t4{bs:List Bool}(hl:bs.length < 100000):g_ [.lst (bs.map bI)]= .ok (.int (FW bs)):=by
 unfold g_ vt;refine cN (bp (eu (d:= .int 0) rfl (by simp [dq,qE])) ?_)
 obtain⟨dj,e1,a2,FL⟩:=jn (t:=aK 2) (body:=nv) (ds:=(bs.map bI).reverse)
  (fun i δ=>∃a2,δ=[.val (.lst (bs.map bI)), .val (.int (FW (bs.drop (bs.length - i)))),a2]) (δ:=[.val (.lst (bs.map bI)), .val (.int 0), .un]) ⟨.un,by simp [FW]⟩ (by
    rintro i d δ hd ⟨a2,rfl⟩;have hi:i < bs.length:=by
     have:=(List.getElem?_eq_some_iff.mp hd).1
     rwa [List.length_reverse,List.length_map] at this
    rw[List.getElem?_reverse (by rw[List.length_map];exact hi),List.length_map,List.getElem?_map,List.getElem?_eq_getElem (by omega:bs.length - 1 - i < bs.length)] at hd
    cases hd;have hdr:bs.drop (bs.length - (i+1))=bs[bs.length - 1 - i] ::bs.drop (bs.length - i):=by
     rw[show bs.length - (i+1)=bs.length - 1 - i by omega,List.drop_eq_getElem_cons (by omega:bs.length - 1 - i < bs.length),show bs.length - 1 - i+1=bs.length - i by omega]
    refine⟨_,?_,⟨.val (bI bs[bs.length - 1 - i]),rfl⟩⟩;have hm:(FW (bs.drop (bs.length - (i+1))):Int)=(FW (bs.drop (bs.length - i)):Int)*2+(if bs[bs.length - 1 - i] then 1 else 0):=by
     rw[hdr];show(((if bs[bs.length - 1 - i] then 1 else 0)+2*FW (bs.drop (bs.length - i)):Nat):Int)=_
     cases bs[bs.length - 1 - i] <;> simp <;> omega
    rw[hm];generalize (FW (bs.drop (bs.length - i)):Int)=m;generalize bs[bs.length - 1 - i]=x;generalize D.lst (bs.map bI)=y;rw[show aK 2 (bI x) [.val y, .val (.int m),a2]= .ok [.val y, .val (.int m), .val (bI x)] from rfl,R.aG]
    unfold nv;exact eu (aj (a:= .int (m*2)) (b:=bI x) (aj (a:= .int m) (b:= .int 2) rfl rfl (cy _ (.inr ⟨by omega,by omega⟩))) rfl rfl) (by simp))
 refine bp (jc (ds:=(bs.map bI).reverse) rfl e1) ?_;rw[List.length_reverse,List.length_map,Nat.sub_self,List.drop_zero] at FL;subst FL;exact cm rfl
def cW:Nat->List (List Bool)
 | 0=>[[]]
 | c+1=>(cW c).flatMap fun b=>[b++[false],b++[true]]
theorem d_:∀c,(cW c).length=2 ^ c
 | 0=>rfl
 | c+1=>by
   unfold cW;rw[List.length_flatMap];have:(cW c).map (fun b=>[b++[false],b++[true]].length)=(cW c).map fun _=>2:=rfl
   rw[this,List.map_const',List.sum_replicate_nat,d_ c];omega
theorem qI:∀c,∀b∈cW c,b.length=c
 | 0,b,h=>by unfold cW at h;rw [List.mem_singleton.mp h];rfl
 | c+1,b,h=>by
   unfold cW at h;obtain⟨a,ha,hb⟩:=List.mem_flatMap.mp h;have:=qI c a ha;simp only[List.mem_cons,List.not_mem_nil,or_false] at hb;rcases hb with rfl | rfl <;> simp [this]
def gT(b:List Bool):D:= .tup (b.map bI)
def aE(c:Nat)(TK:Option V3)(a2 a3 a4:Option V3):DE:=[some (.d (nI c)),TK,a2,a3,a4]
theorem uv{c:Nat}{S:aN}(hc:c<=10)(hS:j9 S){Q:V3->aN->Prop}(h:Q (.d (.lst ((cW c).map gT))) S):W3 (iC [.d (nI c)] S) Q:=by
 have hz:sizeLine=16777216:=sizeLine_eq;unfold iC;refine f_ hS (uz rfl ?_);simp only[cz,jj,List.map,List.length,List.replicate,List.cons_append,List.nil_append,Nat.reduceAdd,Nat.reduceSub];unfold lU;refine aX <| bB (by simp) <| mB (ds:=(cW 0).map gT) rfl ⟨_,rfl,?_⟩
 simp only[List.set];refine aX <| fF <| j6 (c0 (n:=c) rfl (by omega)) ?_
 refine(cb (fun i δ S2=>∃(T:aN) (a2 a3 a4:Option V3),S2=S++T++[.lst ((cW i).map gT)]/\δ=aE c (some (.loc (S++T).length)) a2 a3 a4)
  ⟨[],none,none,none,by simp,by simp [aE]⟩ ?_).mono fun o S2 ⟨dM,gb,T,a2,a3,a4,rR,hδ⟩=>⟨dM,gb,?_⟩
 .rintro i v δ S2 hv ⟨T,a2,a3,a4,rfl,rfl⟩;have hi:i < c:=by
   have:=(List.getElem?_eq_some_iff.mp hv).1
   rwa [List.length_map,hX,List.length_map,List.length_range] at this
  have hpow:(cW i).length<=1024:=by
   rw[d_];exact Nat.pow_le_pow_right (by omega) (by omega:i<=10)
  refine⟨aE c (some (.loc (S++T).length)) (some v) a3 a4,rfl,?_⟩;unfold m_ aE;refine Bf (i:=1) rfl (aY _ _) ?_;rw[dH];simp only[List.set];refine aX <| bB (by simp) <| mB (ds:=[]) rfl ⟨_,rfl,?_⟩
  simp only[List.set];generalize hU:S++T++[SO.ki]=U;refine aX <| fF <| j6 (ds:=(cW i).map gT) rfl ?_
  refine(cb (fun j δ S3=>(∃b4,δ=[some (.d (nI c)),some (.d (.lst ((cW i).map gT))),some v,some (.loc U.length),b4])/\S3=U++[.lst ((((cW i).take j).flatMap fun b=>[b++[false],b++[true]]).map gT)])
   ⟨⟨_,rfl⟩,by simp⟩ ?_).mono fun o S3 ⟨Nj,e3,⟨b4,FQ⟩,Ly⟩=>⟨Nj,e3,?_⟩
  .rintro j v3 δ S3 hv3 ⟨⟨b4,rfl⟩,rfl⟩;obtain⟨b,hb,rfl⟩:=NT.ef hv3;have hj:=(List.getElem?_eq_some_iff.mp hb).1;have hbl:=qI i b (List.mem_of_getElem? hb);refine⟨[some (.d (nI c)),some (.d (.lst ((cW i).map gT))),some v,some (.loc U.length),some (.d (gT b))],rfl,?_⟩;unfold nq;generalize hL:((((cW i).take j).flatMap fun b=>[b++[false],b++[true]]).map gT)=L
   have hLl:L.length<=2048:=by
    rw[<-hL,List.length_map,List.length_flatMap];have:((cW i).take j).map (fun b=>[b++[false],b++[true]].length)=((cW i).take j).map fun _=>2:=rfl
    rw[this,List.map_const',List.sum_replicate_nat,List.length_take];omega
   have add:∀(x:Bool) (δ:av),ae 4 δ= .ok (gT b)->e2 kq (ae 4) (dX (ak (eC (bI x)) aI)) δ= .ok (gT (b++[x])):=fun x δ h4=>by
    refine aj (a:=gT b) (b:= .tup [bI x]) h4 (cZ rfl (by simp;omega)) ?_
    show R.bH (decide ((b.map bI).length+[bI x].length<=sizeLine)) _=_;rw[cy _ (by rw[List.length_map];simp;omega)]
    unfold gT;rw[List.map_append];rfl
   refine aX <| my (k:=U.length) rfl ⟨_,aY _ _⟩ <| cB (d:=gT (b++[false])) (add false _ rfl) ⟨_,_,rfl,aY _ _,by omega,_,rfl,?_⟩
   rw[dH];refine my (k:=U.length) rfl ⟨_,aY _ _⟩ <| cB (d:=gT (b++[true])) (add true _ rfl) ⟨_,_,rfl,aY _ _,by rw[List.length_append];simp;omega,_,rfl,⟨_,rfl⟩,?_⟩
   rw[dH,List.take_add_one,hb,List.flatMap_append,List.map_append,hL];simp
  rw[List.length_map,List.length_map,List.take_length] at Ly;subst FQ Ly;refine bB (by simp) <| w_var (v:= .loc U.length) rfl ⟨_,rfl,T++[SO.ki],some v,some (.loc U.length),b4,?_,?_⟩
  .rw [<-hU,List.append_assoc S];rfl
  .rw [<-hU,List.append_assoc S];rfl
 have hlen:((hX 0 c).map V3.d).length=c:=by simp [hX]
 rw[hlen] at rR;subst hδ rR;unfold aE;refine eR (w_var rfl ⟨_,rfl,by unfold fH;exact decide_eq_true (by rw[List.length_append];omega),⟨T++[.lst ((cW c).map gT)],by rw[List.append_assoc]⟩,_,by unfold res;rw [aY],h⟩)
end K41
end
section
namespace K41
open PySem PySem.Spec PyProof.Rows L2 L3 MT
def Lq(c j:Nat):M:=fun p=>((cW c).getD p []).getD j false
def fG(c:Nat):List M:=(List.range c).map (Lq c)
theorem Kp{b:List Bool}{j:Nat}(h:j < b.length):bW (gT b) (.int j)= .ok (bI (b.getD j false)):=by
 refine tL ?_;rw[o4 (by omega) (by rw[List.length_map,Int.toNat_natCast];exact h)]
 rw[List.getD_eq_getElem?_getD,List.getElem?_eq_getElem h];simp
theorem zy{c j:Nat}(hc:c<=10)(hj:j < c):lL [.lst ((cW c).map gT), .int j]= .ok (mI (2 ^ c) (Lq c j)):=by
 have hz:sizeLine=16777216:=sizeLine_eq;have hp:2 ^ c<=1024:=Nat.pow_le_pow_right (by omega) hc
 unfold lL vq;refine cN (cm (aA (ds:=[.lst (((cW c).map fun b=>b.getD j false).map bI)]) (az (dA (cX (ds:=(cW c).map gT) rfl (by rw[List.length_map,d_];omega) ?_)) rfl) ?_))
 .rw [List.map_map];exact NT.fg gT _ fun b hb=>⟨[.val (gT b), .val (.int j)],rfl,rfl,aj (a:=gT b) (b:= .int j) rfl rfl (Kp (by rw[qI c b hb];exact hj))⟩
 .rw [t4 (by rw[List.length_map,d_];omega),ER,List.length_map,d_]
  unfold mI;congr 3;refine lF fun p PV=>?_
  unfold Lq;rw[List.getD_eq_getElem?_getD,List.getElem?_map,List.getD_eq_getElem?_getD (l:=cW c),List.getElem?_eq_getElem (by rw[d_];exact PV)]
  rfl
section
variable {c:Nat} {ins:Vt} {gs:List Gt} {os:Vu}
abbrev BO:=Str.ofString "net"
abbrev uV:=Str.ofString "many_inputs"
abbrev vd:=Str.ofString "full"
abbrev qu:=Str.ofString "in_masks"
def cD(c:Nat)(nt:D):List (Str × V3):=[(BO, .d nt),(uV, .d (nI (2 ^ c))),(vd, .d (mI (2 ^ c) one)),(qu, .d (.lst ((fG c).map (mI (2 ^ c)))))]
theorem vZ{S:aN}(hc:ins.length=c)(uq:c<=10)(hS:j9 (S++[.ins 0 []])){Q:V3->aN->Prop}(h:Q (.d .cn) (S++[.ins 0 (cD c (ba ins gs os))])) :
 W3 (bM [.loc S.length, .d (ba ins gs os)] (S++[.ins 0 []])) Q:=by
 have hz:sizeLine=16777216:=sizeLine_eq;have hp:2 ^ c<=1024:=Nat.pow_le_pow_right (by omega) uq
 unfold bM;refine ML rfl ?_;simp only[cz,dh,List.map,List.length,List.replicate,List.cons_append,List.nil_append,Nat.reduceAdd,Nat.reduceSub];unfold hJ;refine aX <| bB (by simp) <| eM <| aD <| cB (d:=nI c) (aA (ds:=[.lst (ins.map inD)]) rfl (by rw[o7,List.length_map,hc];rfl)) <| cg <| uv uq hS ⟨_,rfl,?_⟩
 simp only[List.set];refine aX <| jt (k:=S.length) <| cB (d:=ba ins gs os) rfl <| w_var (v:= .loc S.length) rfl ⟨_,rfl,aY _ _,by simp,_,rfl,?_⟩
 rw[dH];refine aX <| jt (k:=S.length) <| cB (d:=nI (2 ^ c)) (aA (ds:=[.lst ((cW c).map gT)]) rfl (by rw[o7,List.length_map,d_];rfl)) <| w_var (v:= .loc S.length) rfl ⟨_,rfl,aY _ _,by unfold yt;simp,_,rfl,?_⟩
 rw[dH];refine aX <| jt (k:=S.length) <| cB (d:=mI (2 ^ c) one) (aA (ds:=[.lst (((cW c).map fun _=>true).map bI)]) (az (dA (cX (ds:=(cW c).map gT) rfl (by rw[List.length_map,d_];omega) ?_)) rfl) ?_) <| w_var (v:= .loc S.length) rfl ⟨_,rfl,aY _ _,?_,_,rfl,?_⟩
 .rw [List.map_map];exact NT.fg gT _ fun b hb=>⟨[.val (gT b)],rfl,rfl,rfl⟩
 .rw [t4 (by rw[List.length_map,d_];omega),ER,List.length_map,d_]
  unfold mI;congr 3;refine lF fun p PV=>?_
  rw[List.getD_eq_getElem?_getD,List.getElem?_map,List.getElem?_eq_getElem (by rw[d_];exact PV)]
  rfl
 .exact(by decide:2 < 1000)
 rw[dH];refine jt (k:=S.length) <| cB (d:= .lst ((fG c).map (mI (2 ^ c)))) (dA (cX (ds:=hX 0 c) (c0 (n:=c) (aA (ds:=[.lst (ins.map inD)]) rfl (by rw[o7,List.length_map,hc])) (by omega)) (by simp [hX];omega) ?_)) <| w_var (v:= .loc S.length) rfl ⟨_,rfl,aY _ _,?_,_,rfl,?_⟩
 .unfold fG;rw[List.map_map];unfold hX;refine NT.fg (fun i:Nat=>D.int (0+(i:Int))) _ fun j hj=>⟨[.val (.int (0+(j:Int))), .val (.lst ((cW c).map gT))],rfl,rfl,aA (ds:=[.lst ((cW c).map gT), .int j]) ?_ (zy uq (List.mem_range.mp hj))⟩
  rw[Int.zero_add];rfl
 .exact(by decide:3 < 1000)
 rw[dH];exact h
end
end K41
end
section
namespace K41
open PySem PySem.Spec PyProof.Rows L2 L3 MT
section
variable {c:Nat} {ins:Vt} {gs:List Gt} {os:Vu} {S:aN} {k:Nat} {turned bad:List Int}
theorem RQ:(uV==BO)=false:=by decide+kernel
theorem Sg:(vd==BO)=false:=by decide+kernel
theorem R4:(vd==uV)=false:=by decide+kernel
theorem SQ:(qu==BO)=false:=by decide+kernel
theorem SJ:(qu==uV)=false:=by decide+kernel
theorem Sn:(qu==vd)=false:=by decide+kernel
theorem D9{nt:D}:(cD c nt).lookup BO=some (.d nt):=by unfold cD;rw [List.lookup_cons,beq_self_eq_true]
theorem Bu{nt:D}:(cD c nt).lookup uV=some (.d (nI (2 ^ c))):=by unfold cD;rw [List.lookup_cons,RQ,List.lookup_cons,beq_self_eq_true]
theorem w6{nt:D}:(cD c nt).lookup vd=some (.d (mI (2 ^ c) one)):=by unfold cD;rw [List.lookup_cons,Sg,List.lookup_cons,R4,List.lookup_cons,beq_self_eq_true]
theorem Em{nt:D}:(cD c nt).lookup qu=some (.d (.lst ((fG c).map (mI (2 ^ c))))):=by unfold cD;rw [List.lookup_cons,SQ,List.lookup_cons,SJ,List.lookup_cons,Sn,List.lookup_cons,beq_self_eq_true]
theorem DW:(fG c).length=c:=by unfold fG;simp
abbrev Wd(c:Nat)(ins:Vt)(gs:List Gt)(turned bad:List Int):List M:=Gg ins gs (fG c) turned bad
theorem wX(m:Str)(nt:D)(h1:(m==BO)=false)(h2:(m==uV)=false)(h3:(m==vd)=false)(h4:(m==qu)=false):(cD c nt).lookup m=none:=by unfold cD;rw [List.lookup_cons,h1,List.lookup_cons,h2,List.lookup_cons,h3,List.lookup_cons,h4];rfl
theorem E9(NO:gY ins gs os)(hc:ins.length=c)(hS:j9 S)(hb:S[k]? =some (.ins 0 (cD c (ba ins gs os)))){Q:V3->aN->Prop}(h:Q (.d (.lst (oA (2 ^ c) os (Wd c ins gs turned bad)))) S) :
 W3 (gp [.loc k, .d (.tup (turned.map .int)), .d (.tup (bad.map .int))] S) Q:=by
 have hz:sizeLine=16777216:=sizeLine_eq;unfold gp;refine f_ hS (uz rfl ?_);simp only[cz,iB,List.map,List.length,List.replicate,List.cons_append,List.nil_append,Nat.reduceAdd,Nat.reduceSub];unfold kO;have hl:(fG c).length=ins.length:=by rw[DW,hc]
 refine eR <| eM <| aD <| w_fld (k:=k) <| w_var (v:= .loc k) rfl ⟨_,_,rfl,hb,D9,?_⟩
 refine aD <| eM <| aD <| w_fld (k:=k) <| w_var (v:= .loc k) rfl ⟨_,_,rfl,hb,D9,?_⟩
 refine aD <| w_fld (k:=k) <| w_var (v:= .loc k) rfl ⟨_,_,rfl,hb,Em,?_⟩
 refine aD <| w_fld (k:=k) <| w_var (v:= .loc k) rfl ⟨_,_,rfl,hb,w6,?_⟩
 refine aD <| cB (d:= .tup (turned.map .int)) rfl <| aD <| cB (d:= .tup (bad.map .int)) rfl <| cg ?_
 refine DN (.inl rfl) NO hl hS (cg ?_);refine GG NO.ho (fun x hx=>⟨(NO.o x hx).1,fun w hw=>by rw[EG hl];exact(NO.o x hx).2 w hw⟩) hS ?_
 exact⟨_,rfl,by unfold fH;rfl,⟨[],by simp⟩,_,by unfold res;rfl,h⟩
def y7(N:Nat)(os:Vu)(ws:List M):List D:=os.map fun x=> .tup [mI N (r0 (tell ws x)),mI N (r1 (tell ws x))]
theorem ku(NO:gY ins gs os)(hc:ins.length=c)(ho:∀x∈os,1<=x.2.length/\x.2.length<=3)(hS:j9 S)(hb:S[k]? =some (.ins 0 (cD c (ba ins gs os)))){Q:V3->aN->Prop}(h:Q (.d (.lst (y7 (2 ^ c) os (Wd c ins gs turned [])))) S) :
 W3 (bx [.loc k, .d (.tup (turned.map .int))] S) Q:=by
 have hz:sizeLine=16777216:=sizeLine_eq;have hO:=NO.ho;unfold bx;refine f_ hS (uz rfl ?_);simp only[cz,d9,List.map,List.length,List.replicate,List.cons_append,List.nil_append,Nat.reduceAdd,Nat.reduceSub];unfold h_;refine eR <| iE (fun j ds S2=>S2=S/\ds=(y7 (2 ^ c) os (Wd c ins gs turned [])).take j) ?_
 refine nQ <| iW (k:=k) <| w_var (v:= .loc k) rfl ⟨_,rfl,hb,wX _ _ (by decide+kernel) (by decide+kernel) (by decide+kernel) (by decide+kernel),?_⟩
 refine aD <| cB (d:= .tup (turned.map .int)) rfl <| aD <| cB (d:= .tup (([]:List Int).map .int)) rfl <| cg ?_
 refine E9 NO hc hS hb ⟨_,rfl,?_,⟨rfl,by simp⟩,?_,?_⟩
 .rw [List.length_map,oA,List.length_map];omega
 .rintro j v ds S2 hv ⟨rfl,rfl⟩;rw[oA] at hv;obtain⟨x,hx,rfl⟩:=NT.ef hv;refine⟨[some (.d (.tup ((tell (Wd c ins gs turned []) x).map (mI (2 ^ c))))),some (.loc k)],rfl,t5 ?_⟩;rw[if_pos rfl];refine nY <| aD <| cB (d:= .tup ((tell (Wd c ins gs turned []) x).map (mI (2 ^ c)))) rfl <| aD <| w_fld (k:=k) <| w_var (v:= .loc k) rfl ⟨_,_,rfl,hb,w6,cg ⟨[.tup ((tell (Wd c ins gs turned []) x).map (mI (2 ^ c))),mI (2 ^ c) one],_,rfl,z_ ?_,_,rfl,rfl,?_⟩⟩
  .unfold tell;rw [List.length_map];exact ho x (List.mem_of_getElem? hx)
  .unfold y7;rw[List.take_add_one,List.getElem?_map,hx];rfl
 .rintro ds S2 ⟨rfl,rfl⟩;rw[List.length_map,oA,List.length_map,List.take_of_length_le (by rw[y7,List.length_map];exact Nat.le_refl _)]
  exact⟨_,rfl,by unfold fH;rfl,⟨[],by simp⟩,_,by unfold res;rfl,h⟩
theorem lV{nt:D}{f:M}(hc:c<=10)(hS:j9 S)(hb:S[k]? =some (.ins 0 (cD c nt))){Q:V3->aN->Prop}(h:Q (.d (.lst (((List.range (2 ^ c)).filter f).map nI))) S) :
 W3 (cq [.loc k, .d (mI (2 ^ c) f)] S) Q:=by
 have hz:sizeLine=16777216:=sizeLine_eq;have hp:2 ^ c<=1024:=Nat.pow_le_pow_right (by omega) hc
 unfold cq;refine f_ hS (uz rfl ?_);simp only[cz,dI,List.map,List.length,List.replicate,List.cons_append,List.nil_append,Nat.reduceAdd,Nat.reduceSub];unfold gI;refine eR <| iE (fun j ds S2=>S2=S/\ds=((List.range j).filter f).map nI) ?_
 refine D4 <| w_fld (k:=k) <| w_var (v:= .loc k) rfl ⟨_,_,rfl,hb,Bu,2 ^ c,rfl,by omega,?_⟩
 have hlen:((hX 0 (2 ^ c)).map V3.d).length=2 ^ c:=by simp [hX]
 rw[hlen];refine⟨by omega,⟨rfl,rfl⟩,?_,?_⟩
 .rintro j v ds S2 hv ⟨rfl,rfl⟩;obtain⟨hj,rfl⟩:=NT.Fh hv;refine⟨[some (.d (.int j)),some (.d (mI (2 ^ c) f))],rfl,sZ (b:=f j) ?_ ?_⟩
  .refine eE (a:= .int (if decide (j < 2 ^ c) && f j then 1 else 0)) (b:= .int 1) (aA (ds:=[mI (2 ^ c) f, .int j]) rfl zg) rfl ?_
   rw[decide_eq_true hj,Bool.true_and];cases f j <;> rfl
  .rw [List.range_succ,List.filter_append,List.map_append];cases hf:f j with
   | true=>rw [if_pos rfl];exact cB (d:=nI j) rfl ⟨_,rfl,rfl,by simp [hf]⟩
   | false=>rw [if_neg (by decide)];exact⟨rfl,by simp [hf]⟩
 .rintro ds S2 ⟨rfl,rfl⟩;exact⟨_,rfl,by unfold fH;rfl,⟨[],by simp⟩,_,by unfold res;rfl,h⟩
end
end K41
end
section
namespace K41
open PySem PySem.Spec PyProof.Rows L2 L3 MT
theorem fu(n:Nat):hX 0 n=(List.range n).map nI:=by
 unfold hX;refine List.map_congr_left fun i _=>?_
 show D.int (0+(i:Int))=D.int (i:Int);rw[Int.zero_add]
def bt(T:List Nat):D:= .tup (T.map nI)
theorem He{ps:List Nat}{a:Nat}(ha:a < ps.length):Mm (.lst (ps.map nI)) (some ((a+1:Nat):Int)) none= .ok (.lst ((ps.drop (a+1)).map nI)):=by
 show R.ok (D.lst (L2.cutD (ps.map nI) (some ((a+1:Nat):Int)) none))=_;congr 2;unfold L2.cutD;rw[List.length_map,HT.GL,HT.Eg,Nat.min_eq_left (by omega),<-List.map_drop,<-List.map_take,List.take_of_length_le (by rw[List.length_drop];omega)]
theorem Dc{ds es:List D}(h:ds.length+es.length<=sizeLine):kq (.tup ds) (.tup es)= .ok (.tup (ds++es)):=cy _ h
theorem s_:∀(n s:Nat) (ps:List Nat),s<=n->n<=3->ps.length<=100->eJ (n+1) [.lst (ps.map nI), .int s]= .ok (.lst ((iR ps s).map bt))
 | n,0,ps,_,_,_=>by
   show rV k_ (lM (eJ n)) _=_;unfold lM;exact cN (NT.jh (mP (eE (a:= .int 0) (b:= .int 0) rfl rfl rfl) (cm rfl)))
 | 0,s+1,ps,h,_,_=>by omega
 | n+1,s+1,ps,h,hn,hp=>by
   have hz:sizeLine=16777216:=sizeLine_eq;show rV k_ (lM (eJ (n+1))) _=_;unfold lM;have hcl:(iR ps (s+1)).length<=100 ^ (s+1):=rZ hp;have hpow:∀m,m<=3->(100:Nat) ^ m<=1000000:=fun m hm=>Nat.pow_le_pow_right (by omega) hm
   refine cN (bp (gg (eE (a:= .int (s+1:Nat)) (b:= .int 0) (k:=false) rfl rfl ?_) rfl) ?_)
   .show R.ok (D.bl (((s+1:Nat):Int)==0))=_;congr 2
   refine bp (AJ (ds:=[]) rfl (by simp [dq,k_])) ?_
   let F:Nat->Vv:=fun i=>(List.range i).flatMap fun a=>(iR (ps.drop (a+1)) s).map (ps.getD a 0 ::·)
   have hF:∀i,i<=ps.length->(F i).length<=i*100 ^ s:=fun i hi=>by
    show((List.range i).flatMap fun a=>(iR (ps.drop (a+1)) s).map (ps.getD a 0 ::·)).length<=_
    rw[List.length_flatMap];refine Nat.le_trans (zT (m:=100 ^ s) fun x hx=>?_) (by rw[List.length_map,List.length_range];exact Nat.le_refl _)
    obtain⟨a,_,rfl⟩:=List.mem_map.mp hx;rw[List.length_map];exact rZ (by rw[List.length_drop];omega)
   have hFs:∀i,F (i+1)=F i++(iR (ps.drop (i+1)) s).map (ps.getD i 0 ::·):=fun i=>by
    show(List.range (i+1)).flatMap _=_;rw[List.range_succ,List.flatMap_append];simp [F]
   obtain⟨dj,e1,a3,a4,a5,FL⟩:=jn (t:=jA 2 (cG (aK 3) (cG (aK 4) jZ))) (body:=nB (eJ (n+1))) (ds:=cK (ps.map nI))
    (fun i δ=>∃a3 a4 a5,δ=[.val (.lst (ps.map nI)), .val (.int (s+1:Nat)), .bld ((F i).map bt),a3,a4,a5]) (δ:=[.val (.lst (ps.map nI)), .val (.int (s+1:Nat)), .bld [], .un, .un, .un]) ⟨.un, .un, .un,by simp [F]⟩ (by
      rintro i d δ hd ⟨a3,a4,a5,rfl⟩;have hv:((cK (ps.map nI)).map V3.d)[i]? =some (.d d):=by rw[List.getElem?_map,hd];rfl
      obtain⟨d0,Ld,ed⟩:=pJ hv;cases ed;obtain⟨x,hx,rfl⟩:=NT.l0 Ld;have hil:=(List.getElem?_eq_some_iff.mp hx).1;have hxd:ps.getD i 0=x:=by rw[List.getD_eq_getElem?_getD,hx];rfl
      have hFi:=hF i (by omega)
      have hFb:i*100 ^ s<=100*100 ^ s:=Nat.mul_le_mul_right _ (by omega)
      have hp2:=hpow (s+1) (by omega)
      rw[Nat.pow_succ,Nat.mul_comm] at hp2;rw[show jA 2 (cG (aK 3) (cG (aK 4) jZ)) (.tup [.int i,nI x]) [.val (.lst (ps.map nI)), .val (.int (s+1:Nat)), .bld ((F i).map bt),a3,a4,a5]= .ok [.val (.lst (ps.map nI)), .val (.int (s+1:Nat)), .bld ((F i).map bt), .val (.int i), .val (nI x),a5] from rfl,R.aG]
      unfold nB;have ihc:=s_ n s (ps.drop (i+1)) (by omega) (by omega) (by rw[List.length_drop];omega)
      have hdl:(iR (ps.drop (i+1)) s).length<=100 ^ s:=rZ (by rw[List.length_drop];omega)
      obtain⟨dM,gb,c5,CS⟩:=jn (t:=aK 5) (body:=nE (eJ (n+1))) (ds:=(iR (ps.drop (i+1)) s).map bt)
       (fun j δ=>∃c5,δ=[.val (.lst (ps.map nI)), .val (.int (s+1:Nat)), .bld ((F i++((iR (ps.drop (i+1)) s).take j).map (x ::·)).map bt), .val (.int i), .val (nI x),c5]) (δ:=[.val (.lst (ps.map nI)), .val (.int (s+1:Nat)), .bld ((F i).map bt), .val (.int i), .val (nI x),a5]) ⟨a5,by simp⟩ (by
         rintro j d δ hd ⟨c5,rfl⟩;obtain⟨T,hT,rfl⟩:=NT.l0 hd;have hjl:=(List.getElem?_eq_some_iff.mp hT).1;have hTl:=(wD (List.mem_of_getElem? hT)).1;refine⟨[.val (.lst (ps.map nI)), .val (.int (s+1:Nat)), .bld ((F i++((iR (ps.drop (i+1)) s).take (j+1)).map (x ::·)).map bt), .val (.int i), .val (nI x), .val (bt T)],?_,⟨_,rfl⟩⟩
         generalize hL:(F i++((iR (ps.drop (i+1)) s).take j).map (x ::·)).map bt=L
         have hLl:L.length < sizeLine:=by
          rw[<-hL,List.length_map,List.length_append,List.length_map,List.length_take];omega
         rw[show aK 5 (bt T) [.val (.lst (ps.map nI)), .val (.int (s+1:Nat)), .bld L, .val (.int i), .val (nI x),c5]= .ok [.val (.lst (ps.map nI)), .val (.int (s+1:Nat)), .bld L, .val (.int i), .val (nI x), .val (bt T)] from rfl,R.aG]
         unfold nE;rw[wZ (d:=bt (x ::T)) (ds:=L) (aj (a:= .tup [nI x]) (b:=bt T) (cZ rfl (by simp;omega)) rfl (Dc (by rw[List.length_map];simp;omega))) rfl hLl,<-hL,List.take_add_one,hT]
         simp [bt])
      refine⟨_,jc (ds:=(iR (ps.drop (i+1)) s).map bt) (jI (aA (ds:=[.lst ((ps.drop (i+1)).map nI), .int s]) (az (I0 (d:= .lst (ps.map nI)) (lo:=some ((i+1:Nat):Int)) (hi:=none) rfl (E8 (aj (a:= .int i) (b:= .int 1) rfl rfl rfl)) rfl (He hil)) (az (aj (a:= .int (s+1:Nat)) (b:= .int 1) rfl rfl ?_) rfl)) ihc)) gb,?_⟩
      .show R.ok (D.int (((s+1:Nat):Int) - 1))=_;congr 2;omega
      .rw [List.length_map,List.take_length] at CS;refine⟨.val (.int i), .val (nI x),c5,?_⟩;rw[CS,hFs,hxd])
   refine bp (jc (ds:=cK (ps.map nI)) rfl e1) ?_;have hlen:(cK (ps.map nI)).length=ps.length:=by simp [cK]
   rw[hlen] at FL;subst FL;exact cm rfl
end K41
end
section
namespace K41
open PySem PySem.Spec PyProof.Rows L2 L3 MT
section
variable {c:Nat} {ins:Vt} {gs:List Gt} {os:Vu} {S:aN} {k:Nat} {turned:List Int} {safe:Bool}
abbrev oQ:=Str.ofString "bench"
abbrev tZ:=Str.ofString "plain"
abbrev qb:=Str.ofString "unsure"
def lS(gs:List Gt):List Nat:=(List.range gs.length).filter fun i=>match gs[i]? with | some g=>!g.2.2 | none=>false
def gK(c:Nat)(ins:Vt)(gs:List Gt)(os:Vu)(b:Nat):List (Str × V3):=[(oQ, .loc b),(tZ, .d (.lst (y7 (2 ^ c) os (Wd c ins gs [] [])))),(qb, .d (.lst ((lS gs).map nI)))]
theorem RU:(tZ==oQ)=false:=by decide+kernel
theorem R1:(qb==oQ)=false:=by decide+kernel
theorem RV:(qb==tZ)=false:=by decide+kernel
theorem pY{b:Nat}:(gK c ins gs os b).lookup oQ=some (.loc b):=by unfold gK;rw [List.lookup_cons,beq_self_eq_true]
theorem Ea{b:Nat}:(gK c ins gs os b).lookup tZ=some (.d (.lst (y7 (2 ^ c) os (Wd c ins gs [] [])))):=by unfold gK;rw [List.lookup_cons,RU,List.lookup_cons,beq_self_eq_true]
theorem DY{b:Nat}:(gK c ins gs os b).lookup qb=some (.d (.lst ((lS gs).map nI))):=by unfold gK;rw [List.lookup_cons,R1,List.lookup_cons,RV,List.lookup_cons,beq_self_eq_true]
theorem EN{b:Nat}(m:Str)(h1:(m==oQ)=false)(h2:(m==tZ)=false)(h3:(m==qb)=false):(gK c ins gs os b).lookup m=none:=by unfold gK;rw [List.lookup_cons,h1,List.lookup_cons,h2,List.lookup_cons,h3];rfl
def TS(S:aN)(c:Nat)(ins:Vt)(gs:List Gt)(os:Vu):aN:=S++[.ins 1 (gK c ins gs os (S.length+1)), .ins 0 (cD c (ba ins gs os))]
mutual
theorem zM{n m:Nat}(h:n<=m):∀v:V3,m7 n v=true->m7 m v=true
 | .d _,_=>by unfold m7;rfl
 | .loc k,q=>by
   unfold m7 at q ⊢;exact decide_eq_true (Nat.lt_of_lt_of_le (of_decide_eq_true q) h)
 | .lst vs,q=>by unfold m7 at q ⊢;exact kx h vs q
 | .tup vs,q=>by unfold m7 at q ⊢;exact kx h vs q
theorem kx{n m:Nat}(h:n<=m):∀vs:List V3,g6 n vs=true->g6 m vs=true
 | [],_=>by unfold g6;rfl
 | v ::vs,q=>by
   unfold g6 at q ⊢;rw[Bool.and_eq_true] at q ⊢;exact⟨zM h v q.1,kx h vs q.2⟩
end
theorem nP{n m:Nat}(h:n<=m)(o:SO)(q:rK n o=true):rK m o=true:=by
 cases o with
 | ins k fs=>exact kx h _ q
 | _=>rfl
theorem j9.push{S:aN}(hS:j9 S){x:SO}(hx:∀n,rK n x=true):j9 (S++[x]):=fun o ho=>by
 rcases List.mem_append.mp ho with q | q
 .exact nP (by simp) o (hS o q)
 .rw [List.mem_singleton.mp q];exact hx _
theorem G4{S:aN}(hS:j9 S){x y:SO}(hx:rK (S.length+2) x=true)(hy:rK (S.length+2) y=true):j9 (S++[x,y]):=fun o ho=>by
 rw[show(S++[x,y]).length=S.length+2 by simp]
 rcases List.mem_append.mp ho with q | q
 .exact nP (by omega) o (hS o q)
 .simp only[List.mem_cons,List.not_mem_nil,or_false] at q;rcases q with rfl | rfl
  .exact hx
  .exact hy
theorem EU{δ:av}(hg:gs.length < 1000)(h1:ae 1 δ= .ok (ba ins gs os)):d4 (gr (e2 bW (ae 1) (eC (.int 1)))) (jA 2 (cG (aK 0) (cG (aK 1) jZ))) (wg (v_ (e2 bW (ae 1) (eC (.int 2))))) (ae 0) ["place","gate"] [] δ= .ok ((lS gs).map nI):=by
 have hz:sizeLine=16777216:=sizeLine_eq;refine cX (ds:=cK (gs.map jb)) (J0 (aj (a:=ba ins gs os) (b:= .int 1) h1 rfl rfl)) (by simp [cK];omega) ?_
 have e:cK (gs.map jb)=(List.range gs.length).map fun i=> .tup [.int i,jb (gs.getD i (0,[],false))]:=by
  refine List.ext_getElem? fun i=>?_
  rw[List.getElem?_map,cK,List.getElem?_map,List.getElem?_zipIdx,List.getElem?_map];by_cases q:i < gs.length
  .rw [List.getElem?_eq_getElem q,List.getElem?_range q];show some (D.tup [.int ((0+i:Nat):Int),jb gs[i]])=some (D.tup [.int i,jb (gs.getD i (0,[],false))]);rw[Nat.zero_add,List.getD_eq_getElem?_getD,List.getElem?_eq_getElem q];rfl
  .rw [List.getElem?_eq_none (by omega),List.getElem?_eq_none (by simp;omega)];rfl
 rw[e];unfold lS;refine NT.eA (fun i:Nat=>match gs[i]? with | some g=>!g.2.2 | none=>false) (fun i:Nat=>D.tup [.int i,jb (gs.getD i (0,[],false))]) nI fun i hi=>?_
 rw[List.mem_range] at hi;refine⟨[.val (.int i), .val (jb (gs.getD i (0,[],false)))],rfl,?_,fun _=>rfl⟩
 rw[List.getElem?_eq_getElem hi,List.getD_eq_getElem?_getD,List.getElem?_eq_getElem hi];rfl
theorem xy(NO:gY ins gs os)(hc:ins.length=c)(uq:c<=10)(ho:∀x∈os,1<=x.2.length/\x.2.length<=3)(hS:j9 S){Q:V3->aN->Prop}(h:Q (.d .cn) (TS S c ins gs os)) :
 W3 (cC [.loc S.length, .d (ba ins gs os)] (S++[.ins 1 []])) Q:=by
 have hz:sizeLine=16777216:=sizeLine_eq;unfold cC;refine ML rfl ?_;simp only[cz,ee,List.map,List.length,List.replicate,List.cons_append,List.nil_append,Nat.reduceAdd,Nat.reduceSub];unfold ia;have l1:(S++[SO.ins 1 []]).length=S.length+1:=by simp
 have g0:∀(x y:SO),(S++[x,y])[S.length]? =some x:=fun x y=>by rw[List.getElem?_append_right (Nat.le_refl _),Nat.sub_self];rfl
 have g1:∀(x y:SO),(S++[x,y])[S.length+1]? =some y:=fun x y=>by rw[List.getElem?_append_right (by omega),show S.length+1 - S.length=1 by omega];rfl
 have st:∀(x y z:SO),(S++[x,y]).set S.length z=S++[z,y]:=fun x y z=>by rw[List.set_append_right _ _ (Nat.le_refl _),Nat.sub_self];rfl
 have ap:∀(x y:SO),S++[x]++[y]=S++[x,y]:=fun x y=>by simp
 refine aX <| jt (k:=S.length) <| sk <| aD <| cB (d:=ba ins gs os) rfl <| cg <| vZ hc uq ?_ ⟨rfl,?_⟩
 .rw [ap];exact G4 hS rfl rfl
 rw[ap];refine w_var (v:= .loc S.length) rfl ⟨_,rfl,g0 _ _,by simp,_,rfl,?_⟩
 rw[st,l1];have hcl:∀fs:List (Str × V3),g6 (S.length+2) (fs.map (·.2))=true->j9 (S++[.ins 1 fs, .ins 0 (cD c (ba ins gs os))]):=fun fs hf=>G4 hS hf rfl
 refine aX <| jt (k:=S.length) <| iW (k:=S.length+1) <| w_fld (k:=S.length) <| w_var (v:= .loc S.length) rfl ⟨_,_,rfl,g0 _ _,(by show List.lookup oQ [(oQ,V3.loc (S.length+1))]=_;rw [List.lookup_cons,beq_self_eq_true]),_,rfl,g1 _ _,wX _ _ (by decide+kernel) (by decide+kernel) (by decide+kernel) (by decide+kernel),?_⟩
 refine aD <| cB (d:= .tup (([]:List Int).map .int)) rfl <| cg <| ku NO hc ho (hcl _ ?_) (g1 _ _) ?_
 .show(decide (S.length+1 < S.length+2) && true)=true;rw[decide_eq_true (by omega)];rfl
 refine w_var (v:= .loc S.length) rfl ⟨_,rfl,g0 _ _,(by decide:1 < 1000),_,rfl,?_⟩
 rw[st];refine jt (k:=S.length) <| cB (d:= .lst ((lS gs).map nI)) (dA (EU NO.hg rfl)) <| w_var (v:= .loc S.length) rfl ⟨_,rfl,g0 _ _,?_,_,rfl,?_⟩
 .exact(by decide:2 < 1000)
 rw[st];exact h
def mv(safe:Bool):Str:=if safe then "safe" else "right"
def pt(ws:List M)(x:Str × List Nat)(p:Nat):Bool × Bool:=J6 ((tell ws x).map (· p))
def xl(safe:Bool)(c:Nat)(ins:Vt)(gs:List Gt)(os:Vu)(turned:List Int):M:=fun p=>os.any fun x=>brk safe (pt (Wd c ins gs [] []) x p) (pt (Wd c ins gs turned []) x p)
theorem qv{b:Nat}(NO:gY ins gs os)(hc:ins.length=c)(ho:∀x∈os,1<=x.2.length/\x.2.length<=3)(hS:j9 S)(hk:S[k]? =some (.ins 1 (gK c ins gs os b)))(hb:S[b]? =some (.ins 0 (cD c (ba ins gs os)))){Q:V3->aN->Prop}
 (h:Q (.d (mI (2 ^ c) (xl safe c ins gs os turned))) S):W3 (cv [.loc k, .d (.tup (turned.map .int)), .d (.str (mv safe))] S) Q:=by
 have hz:sizeLine=16777216:=sizeLine_eq;unfold cv;refine f_ hS (uz rfl ?_);simp only[cz,eP,List.map,List.length,List.replicate,List.cons_append,List.nil_append,Nat.reduceAdd,Nat.reduceSub];unfold gC;have h0:D.int 0=mI (2 ^ c) fun _=>false:=by
  unfold mI;rw[yr.mpr fun _ _=>rfl];rfl
 refine aX <| bB (by simp) <| cB (d:=mI (2 ^ c) fun _=>false) (by rw[<-h0];rfl) ⟨_,rfl,?_⟩
 simp only[List.set];refine aX <| fF <| MH <| w_fld (k:=k) <| w_var (v:= .loc k) rfl ⟨_,_,rfl,hk,Ea,?_⟩
 refine iW (k:=b) <| w_fld (k:=k) <| w_var (v:= .loc k) rfl ⟨_,_,rfl,hk,pY,_,rfl,hb,wX _ _ (by decide+kernel) (by decide+kernel) (by decide+kernel) (by decide+kernel),?_⟩
 refine aD <| cB (d:= .tup (turned.map .int)) rfl <| cg <| ku NO hc ho hS hb ⟨_,_,_,_,rfl,rfl,rfl,rfl,?_⟩
 have hzip:j7 (y7 (2 ^ c) os (Wd c ins gs [] [])) (y7 (2 ^ c) os (Wd c ins gs turned []))=os.map fun x=> .tup [.tup [mI (2 ^ c) (r0 (tell (Wd c ins gs [] []) x)),mI (2 ^ c) (r1 (tell (Wd c ins gs [] []) x))], .tup [mI (2 ^ c) (r0 (tell (Wd c ins gs turned []) x)),mI (2 ^ c) (r1 (tell (Wd c ins gs turned []) x))]]:=by
  unfold j7 y7;rw[List.zip_map',List.map_map];rfl
 rw[hzip];refine(cb (fun i δ S2=>S2=S/\∃a4 a5,δ=[some (.loc k),some (.d (.tup (turned.map .int))),some (.d (.str (mv safe))),some (.d (mI (2 ^ c) fun p=>(os.take i).any fun x=>brk safe (pt (Wd c ins gs [] []) x p) (pt (Wd c ins gs turned []) x p))),a4,a5])
  ⟨rfl,none,none,rfl⟩ ?_).mono fun o S2 ⟨dM,gb,rR,a4,a5,hδ⟩=>⟨dM,gb,?_⟩
 .rintro i v δ S2 hv ⟨rfl,a4,a5,rfl⟩;obtain⟨x,hx,rfl⟩:=NT.ef hv;generalize hm:(fun p=>(os.take i).any fun x=>brk safe (pt (Wd c ins gs [] []) x p) (pt (Wd c ins gs turned []) x p))=m
  have hnext:(fun p=>(os.take (i+1)).any fun x=>brk safe (pt (Wd c ins gs [] []) x p) (pt (Wd c ins gs turned []) x p))=fun p=>m p || brk safe (pt (Wd c ins gs [] []) x p) (pt (Wd c ins gs turned []) x p):=by
   funext p;rw[List.take_add_one,hx,List.any_append,<-hm];simp
  rw[hnext];refine⟨[some (.loc k),some (.d (.tup (turned.map .int))),some (.d (.str (mv safe))),some (.d (mI (2 ^ c) m)),some (.d (.tup [mI (2 ^ c) (r0 (tell (Wd c ins gs [] []) x)),mI (2 ^ c) (r1 (tell (Wd c ins gs [] []) x))])),some (.d (.tup [mI (2 ^ c) (r0 (tell (Wd c ins gs turned []) x)),mI (2 ^ c) (r1 (tell (Wd c ins gs turned []) x))]))],rfl,?_⟩;unfold i9;refine sj <| sZ (b:=safe) (eE (a:= .str (mv safe)) (b:= .str "safe") rfl rfl ?_) ?_
  .show R.ok (D.bl (mv safe=="safe"))=_;congr 2;cases safe <;> decide+kernel
  cases safe with
  | true=>
    rw[if_pos rfl];refine bB (by simp) <| cB (aj (aj (a:=mI (2 ^ c) m) rfl (aj (aj rfl rfl zS) (aj rfl rfl CK) (tU _ _ _)) (vN _ _ _)) (aj (aj rfl rfl CK) (aj rfl rfl zS) (tU _ _ _)) (vN _ _ _)) ⟨_,rfl,rfl,some (.d (.tup [mI (2 ^ c) (r0 (tell (Wd c ins gs [] []) x)),mI (2 ^ c) (r1 (tell (Wd c ins gs [] []) x))])),some (.d (.tup [mI (2 ^ c) (r0 (tell (Wd c ins gs turned []) x)),mI (2 ^ c) (r1 (tell (Wd c ins gs turned []) x))])),?_⟩
    simp only[List.set];congr 6;refine xI fun p _=>?_
    rw[Bool.or_assoc];rfl
  | false=>
    rw[if_neg (by decide)]
    refine bB (by simp) <| cB (aj (aj (a:=mI (2 ^ c) m) rfl (aj (aj rfl rfl zS) (aj rfl rfl zS) (ym _ _ _)) (vN _ _ _)) (aj (aj rfl rfl CK) (aj rfl rfl CK) (ym _ _ _)) (vN _ _ _)) ⟨_,rfl,rfl,some (.d (.tup [mI (2 ^ c) (r0 (tell (Wd c ins gs [] []) x)),mI (2 ^ c) (r1 (tell (Wd c ins gs [] []) x))])),some (.d (.tup [mI (2 ^ c) (r0 (tell (Wd c ins gs turned []) x)),mI (2 ^ c) (r1 (tell (Wd c ins gs turned []) x))])),?_⟩
    simp only[List.set];congr 6;refine xI fun p _=>?_
    rw[Bool.or_assoc];rfl
 rw[List.length_map,List.length_map,List.take_length] at hδ;subst hδ rR;exact eR <| cB (d:=mI (2 ^ c) (xl safe c ins gs os turned)) rfl ⟨_,rfl,by unfold fH;rfl,⟨[],by simp⟩,_,by unfold res;rfl,h⟩
end
end K41
end
section
namespace K41
open PySem PySem.Spec PyProof.Rows L2 L3 MT
def nZ(ps:List Nat):List Int:=ps.map fun(n:Nat)=>(n:Int)
theorem JJ(ps:List Nat):(nZ ps).map D.int=ps.map nI:=by unfold nZ;rw [List.map_map];rfl
theorem DH(ps:List Nat)(i:Nat):(nZ ps).contains (i:Int)=ps.contains i:=by
 rw[Bool.eq_iff_iff];unfold nZ;simp only[List.contains_iff_mem,List.mem_map];exact⟨fun⟨a,ha,e⟩=>(by rw[<-Int.ofNat_inj.mp e];exact ha),fun h=>⟨i,h,rfl⟩⟩
section
variable {c:Nat} {ins:Vt} {gs:List Gt} {os:Vu} {S:aN} {k:Nat} {safe:Bool}
def C8(T:List Nat)(p:Nat):D:= .tup [.str "breaks",bt T,nI p]
def rn:D:= .tup [.str "bears"]
def kN(safe:Bool)(c:Nat)(ins:Vt)(gs:List Gt)(os:Vu)(T:List Nat):Option D:=
 ((List.range (2 ^ c)).filter (xl safe c ins gs os (nZ T))).head?.map (C8 T)
def bears(safe:Bool)(c:Nat)(ins:Vt)(gs:List Gt)(os:Vu)(m:Nat):D:=
 ((List.range (m+1)).findSome? fun s=>(iR (lS gs) s).findSome? (kN safe c ins gs os)).getD rn
theorem wy:(lS gs).length<=gs.length:=by
 unfold lS;exact Nat.le_trans (List.length_filter_le _ _) (by rw[List.length_range];exact Nat.le_refl _)
theorem uR{f:M}{N:Nat}:gW N f=0↔((List.range N).filter f).head? =none:=by
 rw[yr,List.head?_eq_none_iff,List.filter_eq_nil_iff];exact⟨fun h i hi=>by rw[h i (List.mem_range.mp hi)];decide,fun h i hi=>by have:=h i (List.mem_range.mpr hi);cases hf:f i with | false=>rfl | true=>exact absurd hf this⟩
theorem Dj{Rn sz a6:Option V3}{m:V3}{T:List Nat}(NO:gY ins gs os)(hc:ins.length=c)(uq:c<=10)(ho:∀x∈os,1<=x.2.length/\x.2.length<=3)(hS:j9 S) :
 W3 (qr [Rn,some m,some (.d (.str (mv safe))),some (.loc S.length),sz,some (.d (bt T)),a6] (TS S c ins gs os)) fun o S1=>S1=TS S c ins gs os/\(match (kN safe c ins gs os T).map V3.d with | some v=>o= .rt v | none=>∃dM,o= .nx dM/\∃b6,dM=[Rn,some m,some (.d (.str (mv safe))),some (.loc S.length),sz,some (.d (bt T)),b6]):=by
 have hz:sizeLine=16777216:=sizeLine_eq;have hk:(TS S c ins gs os)[S.length]? =some (.ins 1 (gK c ins gs os (S.length+1))):=by unfold TS;rw [List.getElem?_append_right (Nat.le_refl _),Nat.sub_self];rfl
 have hb:(TS S c ins gs os)[S.length+1]? =some (.ins 0 (cD c (ba ins gs os))):=by unfold TS;rw [List.getElem?_append_right (by omega),show S.length+1 - S.length=1 by omega];rfl
 have hcl:j9 (TS S c ins gs os):=G4 hS (by
  show(decide (S.length+1 < S.length+2) && true)=true;rw[decide_eq_true (by omega)];rfl) rfl
 unfold qr;refine aX <| bB (by simp) <| iW (k:=S.length) <| w_var (v:= .loc S.length) rfl ⟨_,rfl,hk,EN _ (by decide+kernel) (by decide+kernel) (by decide+kernel),?_⟩
 refine aD <| cB (d:= .tup ((nZ T).map .int)) (by rw[JJ];rfl) <| aD <| cB (d:= .str (mv safe)) rfl <| cg <| qv NO hc ho hcl hk hb ⟨_,rfl,?_⟩
 simp only[List.set];generalize hf:xl safe c ins gs os (nZ T)=f;have htry:kN safe c ins gs os T=((List.range (2 ^ c)).filter f).head?.map (C8 T):=by unfold kN;rw [hf]
 refine sj <| sZ (b:=!(decide (gW (2 ^ c) f=0))) (eE (a:=mI (2 ^ c) f) (b:= .int 0) rfl rfl ?_) ?_
 .show R.ok (D.bl (!((gW (2 ^ c) f:Int)==0)))=_;congr 3;by_cases q:gW (2 ^ c) f=0
  .rw [q];rfl
  .rw [decide_eq_false q];exact beq_eq_false_iff_ne.mpr (by omega)
 cases hh:((List.range (2 ^ c)).filter f).head? with
 | none=>
   rw[htry,hh,decide_eq_true (uR.mpr hh),if_neg (by decide)]
   exact ni ⟨rfl,_,rfl,_,rfl⟩
 | some p=>
   have FP:¬gW (2 ^ c) f=0:=fun q=>by rw[uR.mp q] at hh;cases hh
   rw[htry,hh,decide_eq_false FP,if_pos (by decide)]
   refine eR <| Im <| aD <| cB (d:= .str "breaks") rfl <| aD <| cB (d:=bt T) rfl <| aD <| Ov <| iW (k:=S.length+1) <| w_fld (k:=S.length) <| w_var (v:= .loc S.length) rfl ⟨_,_,rfl,hk,pY,_,rfl,hb,wX _ _ (by decide+kernel) (by decide+kernel) (by decide+kernel) (by decide+kernel),?_⟩
   refine aD <| cB (d:=mI (2 ^ c) f) rfl <| cg <| lV uq hcl hb <| cB (d:= .int 0) rfl ⟨_,_,nI p,rfl,rfl,?_,cg ⟨by simp;omega,rfl,rfl⟩⟩
   refine wI ?_;obtain⟨r,hr⟩:∃r,(List.range (2 ^ c)).filter f=p ::r:=by
    cases q:(List.range (2 ^ c)).filter f with
    | nil=>rw [q] at hh;cases hh
    | cons a r=>rw [q] at hh;cases hh;exact⟨r,rfl⟩
   rw[hr,o4 (by omega) (by simp)]
   rfl
theorem DT{m:Nat}(NO:gY ins gs os)(hc:ins.length=c)(uq:c<=10)(ho:∀x∈os,1<=x.2.length/\x.2.length<=3)(hg:gs.length<=100)(hm:m<=3)(hS:j9 S){Q:V3->aN->Prop}(h:Q (.d (bears safe c ins gs os m)) S) :
 W3 (sO [.d (ba ins gs os), .d (nI m), .d (.str (mv safe))] S) Q:=by
 have hz:sizeLine=16777216:=sizeLine_eq;have hk:(TS S c ins gs os)[S.length]? =some (.ins 1 (gK c ins gs os (S.length+1))):=by unfold TS;rw [List.getElem?_append_right (Nat.le_refl _),Nat.sub_self];rfl
 unfold sO;refine f_ hS (uz rfl ?_);simp only[cz,r9,List.map,List.length,List.replicate,List.cons_append,List.nil_append,Nat.reduceAdd,Nat.reduceSub];unfold wj;refine aX <| bB (by simp) <| sk <| aD <| cB (d:=ba ins gs os) rfl <| cg <| xy NO hc uq ho hS ⟨rfl,_,rfl,?_⟩
 simp only[List.set];refine qG <| fF <| j6 (ds:=(List.range (m+1)).map nI) ?_ ?_
 .rw [<-fu];exact c0 (n:=m+1) (aj (a:=nI m) (b:= .int 1) rfl rfl rfl) (by omega)
 rw[List.map_map];refine(me (S:=TS S c ins gs os) (V3.d ∘ nI) (fun s=>((iR (lS gs) s).findSome? (kN safe c ins gs os)).map V3.d) (fun δ=>∃a4 a5 a6,δ=[some (.d (ba ins gs os)),some (.d (nI m)),some (.d (.str (mv safe))),some (.loc S.length),a4,a5,a6])
  ⟨_,_,_,rfl⟩ ?_).mono fun o S1 ⟨e1,h1⟩=>?_
 .rintro s hs δ ⟨a4,a5,a6,rfl⟩;rw[List.mem_range] at hs;have IB:(lS gs).length<=100:=Nat.le_trans wy hg;have hcs:eJ 4 [.lst ((lS gs).map nI), .int s]= .ok (.lst ((iR (lS gs) s).map bt)):=s_ 3 s (lS gs) (by omega) (by omega) IB
  refine⟨[some (.d (ba ins gs os)),some (.d (nI m)),some (.d (.str (mv safe))),some (.loc S.length),some (.d (nI s)),a5,a6],rfl,?_⟩;unfold vD;refine fF <| nQ <| nY <| aD <| w_fld (k:=S.length) <| w_var (v:= .loc S.length) rfl ⟨_,_,rfl,hk,DY,aD <| cB (d:= .int s) rfl <| cg ⟨[.lst ((lS gs).map nI), .int s],_,rfl,hcs,_,rfl,?_⟩⟩
  rw[List.map_map];refine(me (S:=TS S c ins gs os) (V3.d ∘ bt) (fun T=>(kN safe c ins gs os T).map V3.d) (fun δ=>∃a5 a6,δ=[some (.d (ba ins gs os)),some (.d (nI m)),some (.d (.str (mv safe))),some (.loc S.length),some (.d (nI s)),a5,a6])
   ⟨_,_,rfl⟩ ?_).mono fun o S1 ⟨e1,h1⟩=>⟨e1,?_⟩
  .rintro T hT δ ⟨a5,a6,rfl⟩;refine⟨[some (.d (ba ins gs os)),some (.d (nI m)),some (.d (.str (mv safe))),some (.loc S.length),some (.d (nI s)),some (.d (bt T)),a6],rfl,?_⟩;refine(Dj NO hc uq ho hS).mono fun o S1 ⟨e1,h1⟩=>⟨e1,?_⟩
   cases htt:kN safe c ins gs os T with
   | none=>rw [htt] at h1;obtain⟨dM,gb,b6,e3⟩:=h1;exact⟨dM,gb,_,b6,e3⟩
   | some d=>rw [htt] at h1;exact h1
  .have hfs:(iR (lS gs) s).findSome? (fun T=>(kN safe c ins gs os T).map V3.d)=((iR (lS gs) s).findSome? (kN safe c ins gs os)).map V3.d:=by
    rw[List.map_findSome?];rfl
   rw[hfs] at h1;cases htt:(iR (lS gs) s).findSome? (kN safe c ins gs os) with
   | none=>rw [htt] at h1;obtain⟨dM,gb,b5,b6,e3⟩:=h1;exact⟨dM,gb,_,b5,b6,e3⟩
   | some d=>rw [htt] at h1;exact h1
 .subst e1;have hfs:(List.range (m+1)).findSome? (fun s=>((iR (lS gs) s).findSome? (kN safe c ins gs os)).map V3.d)=((List.range (m+1)).findSome? fun s=>(iR (lS gs) s).findSome? (kN safe c ins gs os)).map V3.d:=by
   rw[List.map_findSome?];rfl
  rw[hfs] at h1;unfold bears at h;cases htt:(List.range (m+1)).findSome? fun s=>(iR (lS gs) s).findSome? (kN safe c ins gs os) with
  | none=>
    rw[htt] at h1 h;obtain⟨dM,rfl,b4,b5,b6,rfl⟩:=h1;exact eR <| cB (d:=rn) rfl ⟨_,rfl,by unfold fH;rfl,⟨_,rfl⟩,_,by unfold res;rfl,h⟩
  | some d=>
    rw[htt] at h1 h;subst h1;exact⟨_,rfl,by unfold fH;rfl,⟨_,rfl⟩,_,by unfold res;rfl,h⟩
end
section
variable {c:Nat} {ins:Vt} {gs:List Gt} {os:Vu} {S:aN}
def wa(c:Nat)(f:M):Nat:=((List.range (2 ^ c)).filter f).length
def L4(c:Nat)(ins:Vt)(gs:List Gt)(os:Vu)(x:Nat):M:=fun p=>xl false c ins gs os (nZ [x]) p !=xl true c ins gs os (nZ [x]) p
def o3(c:Nat)(ins:Vt)(gs:List Gt)(os:Vu)(x:Nat):D:= .tup [nI x,nI (wa c (xl true c ins gs os (nZ [x]))),nI (wa c (L4 c ins gs os x))]
theorem BM(NO:gY ins gs os)(hc:ins.length=c)(uq:c<=10)(ho:∀x∈os,1<=x.2.length/\x.2.length<=3)(hg:gs.length<=1000)(hS:j9 S){Q:V3->aN->Prop}(h:Q (.loc (S.length+2)) (TS S c ins gs os++[.lst ((lS gs).map (o3 c ins gs os))])) :
 W3 (oH [.d (ba ins gs os)] S) Q:=by
 have hz:sizeLine=16777216:=sizeLine_eq;have hpow:2 ^ c<=1024:=Nat.pow_le_pow_right (by omega) (by omega:c<=10)
 have IB:(lS gs).length<=1000:=Nat.le_trans wy hg;have hTl:(TS S c ins gs os).length=S.length+2:=by unfold TS;simp
 have hk0:(TS S c ins gs os)[S.length]? =some (.ins 1 (gK c ins gs os (S.length+1))):=by unfold TS;rw [List.getElem?_append_right (Nat.le_refl _),Nat.sub_self];rfl
 have hb0:(TS S c ins gs os)[S.length+1]? =some (.ins 0 (cD c (ba ins gs os))):=by unfold TS;rw [List.getElem?_append_right (by omega),show S.length+1 - S.length=1 by omega];rfl
 have hcl0:j9 (TS S c ins gs os):=G4 hS (by
  show(decide (S.length+1 < S.length+2) && true)=true;rw[decide_eq_true (by omega)];rfl) rfl
 have hk:∀L:List D,(TS S c ins gs os++[SO.lst L])[S.length]? =some (.ins 1 (gK c ins gs os (S.length+1))):=fun L=>by rw[List.getElem?_append_left (by omega)];exact hk0
 have hb:∀L:List D,(TS S c ins gs os++[SO.lst L])[S.length+1]? =some (.ins 0 (cD c (ba ins gs os))):=fun L=>by rw[List.getElem?_append_left (by omega)];exact hb0
 have hcl:∀L:List D,j9 (TS S c ins gs os++[SO.lst L]):=fun L=>j9.push hcl0 fun _=>rfl
 have hlst:∀L:List D,(TS S c ins gs os++[SO.lst L])[S.length+2]? =some (.lst L):=fun L=>by rw[<-hTl];exact aY _ _
 unfold oH;refine uz rfl ?_;simp only[cz,n0,List.map,List.length,List.replicate,List.cons_append,List.nil_append,Nat.reduceAdd,Nat.reduceSub];unfold qt;refine aX <| bB (by simp) <| sk <| aD <| cB (d:=ba ins gs os) rfl <| cg <| xy NO hc uq ho hS ⟨rfl,_,rfl,?_⟩
 simp only[List.set];refine aX <| bB (by simp) <| mB (ds:=[]) rfl ⟨_,rfl,?_⟩
 simp only[List.set];rw[hTl];refine aX <| fF <| nQ <| w_fld (k:=S.length) <| w_var (v:= .loc S.length) rfl ⟨_,_,rfl,hk _,DY,_,rfl,?_⟩
 refine(cb (fun i δ S2=>S2=TS S c ins gs os++[.lst (((lS gs).take i).map (o3 c ins gs os))]/\∃a3 a4 a5,δ=[some (.d (ba ins gs os)),some (.loc S.length),some (.loc (S.length+2)),a3,a4,a5]) ⟨by simp,_,_,_,rfl⟩ ?_).mono fun o S2 ⟨dM,gb,rR,a3,a4,a5,hδ⟩=>⟨dM,gb,?_⟩
 .rintro i v δ S2 hv ⟨rfl,a3,a4,a5,rfl⟩;obtain⟨x,hx,rfl⟩:=NT.ef hv;have hil:=(List.getElem?_eq_some_iff.mp hx).1;have hnx:((lS gs).take (i+1)).map (o3 c ins gs os)=((lS gs).take i).map (o3 c ins gs os)++[o3 c ins gs os x]:=by rw[List.take_add_one,hx,List.map_append];rfl
  rw[hnx];have hLl:(((lS gs).take i).map (o3 c ins gs os)).length<=1000:=by rw[List.length_map,List.length_take];omega
  generalize ((lS gs).take i).map (o3 c ins gs os)=L at hLl ⊢;refine⟨[some (.d (ba ins gs os)),some (.loc S.length),some (.loc (S.length+2)),some (.d (nI x)),a4,a5],rfl,?_⟩;unfold rj;refine aX <| bB (by simp) <| iW (k:=S.length) <| w_var (v:= .loc S.length) rfl ⟨_,rfl,hk _,EN _ (by decide+kernel) (by decide+kernel) (by decide+kernel),?_⟩
  refine aD <| cB (d:= .tup ((nZ [x]).map .int)) (cZ (ds:=(nZ [x]).map .int) rfl (by unfold nZ;simp;omega)) <| aD <| cB (d:= .str (mv true)) rfl <| cg <| qv NO hc ho (hcl _) (hk _) (hb _) ⟨_,rfl,?_⟩
  simp only[List.set];refine aX <| bB (by simp) <| MN <| iW (k:=S.length) <| w_var (v:= .loc S.length) rfl ⟨_,rfl,hk _,EN _ (by decide+kernel) (by decide+kernel) (by decide+kernel),?_⟩
  refine aD <| cB (d:= .tup ((nZ [x]).map .int)) (cZ (ds:=(nZ [x]).map .int) rfl (by unfold nZ;simp;omega)) <| aD <| cB (d:= .str (mv false)) rfl <| cg <| qv NO hc ho (hcl _) (hk _) (hb _) <| cB (d:=mI (2 ^ c) (xl true c ins gs os (nZ [x]))) rfl ⟨_,_,_,rfl,rfl,ym _ _ _,_,rfl,?_⟩
  simp only[List.set];have lenI:∀f:M,gU [.lst (((List.range (2 ^ c)).filter f).map nI)]= .ok (nI (wa c f)):=fun f=>by rw[o7,List.length_map];rfl
  refine my (k:=S.length+2) rfl ⟨_,hlst _⟩ <| Im <| aD <| cB (d:=nI x) rfl <| aD <| nY <| aD <| iW (k:=S.length+1) <| w_fld (k:=S.length) <| w_var (v:= .loc S.length) rfl ⟨_,_,rfl,hk _,pY,_,rfl,hb _,wX _ _ (by decide+kernel) (by decide+kernel) (by decide+kernel) (by decide+kernel),?_⟩
  refine aD <| cB (d:=mI (2 ^ c) (xl true c ins gs os (nZ [x]))) rfl <| cg <| lV uq (hcl _) (hb _) <| cg ⟨[_],_,rfl,lenI _,?_⟩
  refine aD <| nY <| aD <| iW (k:=S.length+1) <| w_fld (k:=S.length) <| w_var (v:= .loc S.length) rfl ⟨_,_,rfl,hk _,pY,_,rfl,hb _,wX _ _ (by decide+kernel) (by decide+kernel) (by decide+kernel) (by decide+kernel),?_⟩
  refine aD <| cB (d:=mI (2 ^ c) (L4 c ins gs os x)) rfl <| cg <| lV uq (hcl _) (hb _) <| cg ⟨[_],_,rfl,lenI _,?_⟩
  refine cg ⟨by simp;omega,o3 c ins gs os x,L,rfl,hlst _,by omega,_,rfl,?_,_,_,_,rfl⟩
  rw[<-hTl,dH]
 .subst hδ rR;rw[List.length_map,List.length_map,List.take_length];exact eR <| w_var (v:= .loc (S.length+2)) rfl ⟨_,rfl,h⟩
theorem B5(NO:gY ins gs os)(hc:ins.length=c)(uq:c<=10)(ho:∀x∈os,1<=x.2.length/\x.2.length<=3)(hg:gs.length<=1000)(hS:j9 S){Q:V3->aN->Prop}(h:Q (.d (.lst ((lS gs).map (o3 c ins gs os)))) S) :
 W3 (tQ [.d (ba ins gs os)] S) Q:=by
 have hTl:(TS S c ins gs os).length=S.length+2:=by unfold TS;simp
 refine f_ hS (BM NO hc uq ho hg hS ⟨?_,⟨_,by unfold TS;rw [List.append_assoc]⟩, .lst ((lS gs).map (o3 c ins gs os)),?_,h⟩)
 .show decide (S.length<=S.length+2)=true;exact decide_eq_true (by omega)
 .unfold res;rw[<-hTl,aY]
end
end K41
end
section
namespace K41
open PySem PySem.Spec PyProof.Rows L2 L3 MT
theorem J4{ds:List D}{i:Nat}{x:D}(h:ds[i]? =some x):rS ds (i:Int)=some x:=by
 obtain⟨h1,h2⟩:=List.getElem?_eq_some_iff.mp h;rw[o4 (by omega) (by rw[Int.toNat_natCast];exact h1)]
 simp [h2]
section
variable {gs:List Gt}
end
section
variable {S:aN} {q:Nat}
theorem n3{ds:List D}(e:S[q]? =some (.lst ds)):res S (.loc q)=some (.lst ds):=by unfold res;rw [e]
end
theorem Dh(ws:List Nat):mU (.tup (ws.map nI))=true:=by
 unfold mU
 induction ws with
 | nil=>unfold jR;rfl
 | cons w ws ih=>rw [List.map_cons];unfold jR;rw [ih];rfl
theorem Et{f:av->R (List D)}{g:FD}{δ:av}{ds:List D}{n:Nat}(h1:f δ= .ok ds)(h2:g δ= .ok (.int n))(hn:n < 1000000)(hl:ds.length*n<=sizeLine):ED f g δ= .ok (List.replicate n ds).flatten:=by
 unfold ED;rw[h1,R.aG,h2,R.aG];show R.bH (decide (0<=(n:Int)/\(n:Int) < 1000000/\ds.length*(n:Int).toNat<=sizeLine)) _=_;rw[cy _ ⟨by omega,by omega,by rw[Int.toNat_natCast];exact hl⟩,Int.toNat_natCast]
theorem KH(g:Gt):mU (jb g)=true:=by
 unfold jb mU jR;rw[show mU (.str _)=true from by unfold mU;rfl]
 unfold jR;rw[Dh];unfold jR;rw[show mU (.bl _)=true from by unfold mU;rfl]
 unfold jR;rfl
def DJ(x:Str × Nat):Prop:=(1<=x.2/\x.2<=3)/\cV 0 (.str x.1)
theorem g2{S:aN}{a b:SO}:(S++[a,b])[S.length+1]? =some b:=by rw[List.getElem?_append_right (by omega),show S.length+1 - S.length=1 by omega];rfl
theorem s2{S:aN}{a b c:SO}:(S++[a,b]).set (S.length+1) c=S++[a,c]:=by rw[List.set_append_right _ _ (by omega),show S.length+1 - S.length=1 by omega];rfl
theorem D5{δ:DE}{S:aN}{i:Nat}{v:V3}{d:D}(h:δ[i]? =some (some v))(hr:res S v=some d):ae i (f9 S δ)= .ok d:=by
 unfold ae f9;rw[List.getElem?_map,h];show(match (some (match res S v with | some d=>Sl.val d | none=> .un)) with | some (.val d)=>R.ok d | _=> .no)=_
 rw[hr]
theorem Ke{g:Gt}:cV 2 (jb g):=by
 refine cV.tup fun x hx=>?_
 simp only[List.mem_cons,List.not_mem_nil,or_false] at hx;rcases hx with rfl | rfl | rfl
 .refine(cV.str ?_).mono (by omega)
  unfold kS;split <;> decide+kernel
 .exact cV.tup fun d hd=>by obtain⟨z,_,rfl⟩:=List.mem_map.mp hd;exact cV.int _
 .exact(cV.bl _).mono (by omega)
def S6(l:Vt)(gs:List Gt):Prop:=∀(i:Nat) (g:Gt),gs[i]? =some g->BQ (rq l+i) g
end K41
end
section
namespace K41
open PySem PySem.Spec PyProof.Rows L2 L3 MT
theorem zx(ps:List Nat):(List.range ps.length).map (fun a=>ps.getD a 0)=ps:=by
 refine List.ext_getElem? fun i=>?_
 rw[List.getElem?_map];by_cases q:i < ps.length
 .rw [List.getElem?_range q];show some (ps.getD i 0)=_;rw[List.getD_eq_getElem?_getD,List.getElem?_eq_getElem q];rfl
 .rw [List.getElem?_eq_none (by simp;omega),List.getElem?_eq_none (by omega)];rfl
theorem zZ(gs:List Gt):(lS gs).Pairwise (· < ·):=List.Pairwise.filter _ List.pairwise_lt_range
theorem x8{α β:Type}(f:α->β):∀xs:List α,(xs.flatMap fun x=>[f x])=xs.map f
 | []=>rfl
 | x ::xs=>by rw[List.flatMap_cons,x8 f xs];rfl
theorem GQ(ps:List Nat):iR ps 1=ps.map fun x=>[x]:=by
 show((List.range ps.length).flatMap fun a=>(iR (ps.drop (a+1)) 0).map (ps.getD a 0 ::·))=_
 have:(fun a=>(iR (ps.drop (a+1)) 0).map (ps.getD a 0 ::·))=fun a=>[[ps.getD a 0]]:=by funext a;rfl
 rw[this,x8]
 conv=>rhs;rw [<-zx ps]
 rw[List.map_map];rfl
theorem yn{free:List Nat}(hs:free.Pairwise (· < ·)){a:Nat}(ha:a < free.length):free.filter (fun o=>decide (o > free.getD a 0))=free.drop (a+1):=by
 have hga:free.getD a 0=free[a]:=by rw[List.getD_eq_getElem?_getD,List.getElem?_eq_getElem ha];rfl
 rw[hga];generalize hx:free[a]=x;have e2:free.filter (fun o=>decide (o > x))=(free.take (a+1)++free.drop (a+1)).filter (fun o=>decide (o > x)):=by rw[List.take_append_drop]
 rw[e2,List.filter_append];subst hx;have h1:(free.take (a+1)).filter (fun o=>decide (o > free[a]))=[]:=by
  rw[List.filter_eq_nil_iff];intro o ho;obtain⟨i,hi,rfl⟩:=List.mem_iff_getElem.mp ho;rw[List.length_take] at hi;rw[List.getElem_take];have hle:free[i]'(by omega)<=free[a]:=by
   rcases Nat.lt_or_ge i a with z | z
   .exact Nat.le_of_lt (List.pairwise_iff_getElem.mp hs i a (by omega) ha z)
   .have:i=a:=by omega
    subst this;exact Nat.le_refl _
  rw[decide_eq_true_eq];omega
 rw[h1,List.nil_append,List.filter_eq_self];intro o ho;obtain⟨i,hi,rfl⟩:=List.mem_iff_getElem.mp ho;rw[List.length_drop] at hi;rw[List.getElem_drop];exact decide_eq_true (List.pairwise_iff_getElem.mp hs a (a+1+i) ha (by omega) (by omega))
def okN(s:List Nat)(o:Nat):Bool:=match s.getLast? with | none=>true | some l=>decide (o > l)
theorem Oz{free:List Nat}(hs:free.Pairwise (· < ·)){a:Nat}(ha:a < free.length){s:List Nat}(h:∀x∈s,x∈free.drop (a+1)):free.filter (okN (free.getD a 0 ::s))=(free.drop (a+1)).filter (okN s):=by
 have hga:free.getD a 0=free[a]:=by rw[List.getD_eq_getElem?_getD,List.getElem?_eq_getElem ha];rfl
 cases s with
 | nil=>
   have e1:okN [free.getD a 0]=fun o=>decide (o > free.getD a 0):=rfl
   have e2:(free.drop (a+1)).filter (okN [])=free.drop (a+1):=by rw[List.filter_eq_self];intro o _;rfl
   rw[e1,yn hs ha,e2]
 | cons y r=>
   have e1:okN (free.getD a 0 ::y ::r)=okN (y ::r):=by unfold okN;rw [List.getLast?_cons_cons]
   rw[e1];have hl:∃l,(y ::r).getLast? =some l:=⟨_,List.getLast?_eq_some_getLast (by simp)⟩
   obtain⟨l,hl⟩:=hl;have hlm:=h l (List.mem_of_getLast? hl);have hgt:free[a] < l:=by
    obtain⟨i,hi,rfl⟩:=List.mem_iff_getElem.mp hlm;rw[List.length_drop] at hi;rw[List.getElem_drop];exact List.pairwise_iff_getElem.mp hs a (a+1+i) ha (by omega) (by omega)
   have e2:okN (y ::r)=fun o=>decide (o > l):=by unfold okN;rw [hl]
   rw[e2];have e3:free.filter (fun o=>decide (o > l))=(free.take (a+1)++free.drop (a+1)).filter (fun o=>decide (o > l)):=by rw[List.take_append_drop]
   rw[e3,List.filter_append];have h1:(free.take (a+1)).filter (fun o=>decide (o > l))=[]:=by
    rw[List.filter_eq_nil_iff];intro o ho;obtain⟨i,hi,rfl⟩:=List.mem_iff_getElem.mp ho;rw[List.length_take] at hi;rw[List.getElem_take];have hle:free[i]'(by omega)<=free[a]:=by
     rcases Nat.lt_or_ge i a with z | z
     .exact Nat.le_of_lt (List.pairwise_iff_getElem.mp hs i a (by omega) ha z)
     .have:i=a:=by omega
      subst this;exact Nat.le_refl _
    rw[decide_eq_true_eq];omega
   rw[h1,List.nil_append]
theorem jH{α β:Type}{f g:α->List β}:∀{xs:List α},(∀x∈xs,f x=g x)->xs.flatMap f=xs.flatMap g
 | [],_=>rfl
 | x ::xs,h=>by rw[List.flatMap_cons,List.flatMap_cons,h x List.mem_cons_self,jH fun y hy=>h y (List.mem_cons_of_mem _ hy)]
theorem qi{α β γ:Type}(f:α->β)(g:β->List γ):∀xs:List α,(xs.map f).flatMap g=xs.flatMap fun x=>g (f x)
 | []=>rfl
 | x ::xs=>by rw[List.map_cons,List.flatMap_cons,qi f g xs,List.flatMap_cons]
theorem pQ{α β γ:Type}(f:β->γ)(g:α->List β):∀xs:List α,(xs.flatMap g).map f=xs.flatMap fun x=>(g x).map f
 | []=>rfl
 | x ::xs=>by rw[List.flatMap_cons,List.map_append,pQ f g xs,List.flatMap_cons]
theorem yE:∀(k:Nat) (free:List Nat),free.Pairwise (· < ·)->iR free (k+1)=(iR free k).flatMap fun s=>(free.filter (okN s)).map fun o=>s++[o]
 | 0,free,_=>by
   rw[GQ];show _=([[]]:Vv).flatMap _;rw[List.flatMap_cons,List.flatMap_nil,List.append_nil];have:free.filter (okN [])=free:=by rw[List.filter_eq_self];intro o _;rfl
   rw[this];rfl
 | k+1,free,hs=>by
   show((List.range free.length).flatMap fun a=>(iR (free.drop (a+1)) (k+1)).map (free.getD a 0 ::·))=((List.range free.length).flatMap fun a=>(iR (free.drop (a+1)) k).map (free.getD a 0 ::·)).flatMap _
   rw[List.flatMap_assoc];refine jH fun a ha=>?_
   rw[List.mem_range] at ha;have hd:(free.drop (a+1)).Pairwise (· < ·):=hs.sublist (List.drop_sublist _ _)
   rw[yE k _ hd,qi,pQ];refine jH fun s NR=>?_
   rw[Oz hs ha (wD NR).2,List.map_map];rfl
theorem Ge{s:List Nat}{l:Nat}(h:s.getLast? =some l)(hl:s.length < 1000):bW (bt s) (.int (-1))= .ok (nI l):=by
 refine tL ?_;unfold rS Cg;have hp:0 < s.length:=by
  cases s with
  | nil=>cases h
  | cons _ _=>simp
 rw[List.length_map,if_neg (by omega),if_pos (by omega)]
 show(s.map nI)[(((s.length:Int))+ -1).toNat]? =_;rw[List.getElem?_map,show((s.length:Int)+ -1).toNat=s.length - 1 by omega,<-List.getLast?_eq_getElem?,h]
 rfl
theorem eq_nil(s:List Nat):kG (bt s) (.tup [])= .ok (.bl s.isEmpty):=by
 have f:cV 1 (bt s):=cV.tup fun d hd=>by obtain⟨x,_,rfl⟩:=List.mem_map.mp hd;exact cV.int _
 have f2:cV 1 (.tup []):=cV.tup fun d hd=>by cases hd
 unfold kG;have:AG (bt s) (.tup [])= .ok s.isEmpty:=by
  unfold bt at f ⊢;rw[EF,f.pl,f.sh (by omega),f2.pl,f2.sh (by omega)]
  cases s with
  | nil=>rfl
  | cons g gs=>rfl
 rw[this];rfl
theorem m5:∀(s:Nat) (ps:List Nat),(iR ps s).length<=2 ^ ps.length
 | 0,ps=>by
   show 1<=_;exact Nat.one_le_two_pow
 | s+1,ps=>by
   have key:∀(n:Nat) (qs:List Nat),qs.length=n->∀s,(∀rs:List Nat,(iR rs s).length<=2 ^ rs.length)->((List.range qs.length).map fun a=>(iR (qs.drop (a+1)) s).length).sum+1<=2 ^ n:=by
    intro n
    induction n with
    | zero=>intro qs hq s _;rw [hq];simp
    | succ n ih=>
      intro qs hq s hs
      match qs,hq with
      | x ::qs,hq=>
        rw[List.length_cons] at hq;have h1:=ih qs (by omega) s hs
        rw[List.length_cons,List.range_succ_eq_map,List.map_cons,List.map_map,List.sum_cons];have h2:=hs qs;have e:((fun a=>(iR ((x ::qs).drop (a+1)) s).length) ∘ Nat.succ)=fun a=>(iR (qs.drop (a+1)) s).length:=rfl
        rw[e,show(x ::qs).drop (0+1)=qs from rfl,Nat.pow_succ]
        have:qs.length=n:=by omega
        rw[this] at h2;omega
   unfold iR;rw[List.length_flatMap];have:(List.range ps.length).map (fun a=>((iR (ps.drop (a+1)) s).map (ps.getD a 0 ::·)).length)=(List.range ps.length).map fun a=>(iR (ps.drop (a+1)) s).length:=List.map_congr_left fun a _=>by rw[List.length_map]
   rw[this];have:=key ps.length ps rfl s fun rs=>m5 s rs
   omega
def pI(free:List Nat)(m:Nat):Vv:=(List.range (m+1)).flatMap (iR free)
theorem vm(free:List Nat)(m:Nat):pI free (m+1)=pI free m++iR free (m+1):=by
 unfold pI;rw[List.range_succ,List.flatMap_append];simp
theorem xS{free:List Nat}(h:free.length<=12):∀m,(pI free m).length<=(m+1)*4096
 | 0=>by show([[]]++[]:Vv).length<=_;simp
 | m+1=>by
   have:=xS h m;have h2:=m5 (m+1) free;have:2 ^ free.length<=4096:=Nat.pow_le_pow_right (by omega) (by omega:free.length<=12)
   rw[vm,List.length_append];omega
end K41
end
section
namespace K41
open PySem PySem.Spec PyProof.Rows L2 L3 MT
def subB(T o:List Nat):Bool:=o.all fun x=>T.contains x
def Ry(B:List Nat->Bool)(f:Vv)(T:List Nat):Vv:=if f.any (subB T) then f else if B T then f++[T] else f
def O0(B:List Nat->Bool)(sets:Vv):Vv:=sets.foldl (Ry B) []
theorem MR(x:Nat)(T:List Nat):Iq (nI x) (bt T)= .ok (.bl (T.contains x)):=by
 have h:=vS (x:Int) (nZ T);rw[JJ,DH] at h;exact h
theorem wG{a b:D}{k:Bool}(h:AG a b= .ok k):kG a b= .ok (.bl k):=by unfold kG;rw [h];rfl
theorem DX{a b:D}{k:Bool}(h:AG a b= .ok k):yR a b= .ok (.bl (!k)):=by unfold yR;rw [h];rfl
section
variable {c:Nat} {l:Vt} {gs:List Gt} {os:Vu} {S:aN} {safe:Bool} {m:Nat}
def BT(safe:Bool)(c:Nat)(l:Vt)(gs:List Gt)(os:Vu)(T:List Nat):Bool:=!(decide (gW (2 ^ c) (xl safe c l gs os (nZ T))=0))
def SA(safe:Bool)(c:Nat)(l:Vt)(gs:List Gt)(os:Vu)(m:Nat):Vv:=O0 (BT safe c l gs os) (pI (lS gs) m)
end
end K41
end
section
namespace K41
open PySem PySem.Spec PyProof.Rows L2 L3 MT
theorem K3{x:Str × Nat}(h:DJ x):cV 1 (MT.inD x):=cV.tup fun d hd=>by
 simp only[List.mem_cons,List.not_mem_nil,or_false] at hd;rcases hd with rfl | rfl
 .exact h.2
 .exact cV.int _
theorem IM{x:Str × List Nat}(h:cV 0 (.str x.1)):cV 2 (BX x):=cV.tup fun d hd=>by
 simp only[List.mem_cons,List.not_mem_nil,or_false] at hd;rcases hd with rfl | rfl
 .exact h.mono (by omega)
 .exact cV.tup fun d hd=>by obtain⟨z,_,rfl⟩:=List.mem_map.mp hd;exact cV.int _
end K41
end
section
namespace K41
open PySem PySem.Spec PyProof.Rows L2 L3 MT
theorem mG{a b:Nat}(h:0 < b):iO (nI a) (nI b)= .ok (nI (a % b)):=cy _ (show 0 < (b:Int) by omega)
theorem C_{a b:Nat}(h:0 < b)(h2:b < 1073741824):qc (nI a) (nI b)= .ok (nI (a / b)):=cy _ (show 0 < (b:Int)/\(b:Int) < 1073741824 by omega)
theorem Gk{a b:Nat}(h:b < 18446744073709551616):wq (nI a) (nI b)= .ok (nI (a*b)):=cy _ (.inr (by omega))
theorem n8(a b:Nat):eD (nI a) (nI b)= .ok (nI (a+b)):=rfl
theorem CG{a b:Nat}(h:b<=a):qH (nI a) (nI b)= .ok (nI (a - b)):=by
 show R.ok (D.int ((a:Int) - (b:Int)))=R.ok (D.int ((a - b:Nat):Int));congr 2;omega
theorem Q1(a b:Nat):kG (nI a) (nI b)= .ok (.bl (a==b)):=by
 show R.ok (D.bl ((a:Int)==(b:Int)))=_;congr 2;rw[Bool.eq_iff_iff,beq_iff_eq,beq_iff_eq];omega
theorem wF(ns:List Int)(k:Nat):∃c:Int,cM [.lst (ns.map .int),nI k]= .ok (.int c):=by
 by_cases h:k < ns.length
 .refine⟨ns[k],?_⟩;unfold cM kI;refine cN ?_;have e:vU (b2 O4 (ae 1) (aP gU (ak (ae 0) aI))) (fA (e2 bW (ae 0) (ae 1))) pZ (dq fN [.lst (ns.map .int), .int k])= .ok (.rt (.int ns[k])):=by
   refine mP ?_ (cm (aj (a:= .lst (ns.map .int)) (b:= .int k) rfl rfl (wI (J4 (by rw[List.getElem?_map,List.getElem?_eq_getElem h];rfl)))))
   refine eE (a:= .int k) (b:= .int ns.length) rfl (aA (ds:=[.lst (ns.map .int)]) rfl (by rw[o7,List.length_map])) ?_
   show R.ok (D.bl (decide ((k:Int) < (ns.length:Int))))=_;rw[decide_eq_true (by omega)]
  unfold eO;rw[show dq fN [.lst (ns.map .int),nI k]=dq fN [.lst (ns.map .int), .int k] from rfl,e];rfl
 .refine⟨0,?_⟩;unfold cM kI;refine cN (bp (gg ?_ rfl) rfl);refine eE (a:= .int k) (b:= .int ns.length) rfl (aA (ds:=[.lst (ns.map .int)]) rfl (by rw[o7,List.length_map])) ?_
  show R.ok (D.bl (decide ((k:Int) < (ns.length:Int))))=_;rw[decide_eq_false (by omega)]
theorem oC(c:Int)(n:Nat)(hn:n < 100):∃ns:List Nat,ns.length=n/\c_ [.int c,nI n]= .ok (.lst (ns.map nI)):=by
 have hz:sizeLine=16777216:=sizeLine_eq;obtain⟨a,ha⟩:∃a:Nat,(if c < 0 then -c else c)=(a:Int):=⟨(if c < 0 then -c else c).toNat,by split <;> omega⟩
 obtain⟨dj,e1,ns,r,a4,a5,hl,hδ⟩:=jn (t:=aK 4) (body:=iY) (ds:=(List.range n).map nI)
  (fun i δ=>∃(ns:List Nat) (r:Nat) (a4 a5:Sl),ns.length=i/\δ=[.val (.int c), .val (nI n), .bld (ns.map nI), .val (nI r),a4,a5]) (δ:=[.val (.int c), .val (nI n), .bld [], .val (nI a), .un, .un]) ⟨[],a, .un, .un,rfl,rfl⟩ (by
    rintro i d δ hd ⟨ns,r,a4,a5,hl,rfl⟩;obtain⟨k,hk,rfl⟩:=NT.l0 hd;have hkn:k < n:=List.mem_range.mp (List.mem_of_getElem? hk);have hin:i < n:=by
     have:=(List.getElem?_eq_some_iff.mp hk).1;simpa using this
    have hlen:(ns.map nI).length < sizeLine:=by rw[List.length_map];omega
    rw[show aK 4 (nI k) [.val (.int c), .val (nI n), .bld (ns.map nI), .val (nI r),a4,a5]= .ok [.val (.int c), .val (nI n), .bld (ns.map nI), .val (nI r), .val (nI k),a5] from rfl,R.aG]
    unfold iY;have hc:b2 OD (aP cAbs (ak (ae 0) aI)) (e2 Jr (eC (.int 10)) (eC (.int 18))) [.val (.int c), .val (nI n), .bld (ns.map nI), .val (nI r), .val (nI k),a5]= .ok (decide ((a:Int)>=1000000000000000000)):=
     eE (a:= .int a) (b:= .int 1000000000000000000) (aA (ds:=[.int c]) rfl (by show R.ok (D.int (if c < 0 then -c else c))=_;rw [ha])) (aj (a:= .int 10) (b:= .int 18) rfl rfl rfl) rfl
    cases q:decide ((a:Int)>=1000000000000000000) with
    | true=>
      rw[q] at hc;refine⟨_,mP hc (bp (wZ (d:=nI (r % 1009)) (ds:=ns.map nI) (aj (a:=nI r) (b:=nI 1009) rfl rfl (mG (by omega))) rfl hlen) (eu (d:=nI (r / 1009)) (aj (a:=nI r) (b:=nI 1009) rfl rfl (C_ (by omega) (by omega))) (by simp))),ns++[r % 1009],r / 1009, .val (nI k),a5,by simp [hl],?_⟩
      rw[List.map_append];rfl
    | false=>
      rw[q] at hc;generalize ho:(r % 2147483629+7919*(k+1)*(k+3)) % 2147483629=o;have hob:o < 2147483629:=by rw[<-ho];exact Nat.mod_lt _ (by omega)
      generalize HR:o*o % 2147483587+o / 7=o2;refine⟨_,gg hc (bp (eu (d:=nI o) (aj (a:=nI (r % 2147483629+7919*(k+1)*(k+3))) (b:=nI 2147483629) (aj (a:=nI (r % 2147483629)) (b:=nI (7919*(k+1)*(k+3))) (aj (a:=nI r) (b:=nI 2147483629) rfl rfl (mG (by omega))) (aj (a:=nI (7919*(k+1))) (b:=nI (k+3)) (aj (a:=nI 7919) (b:=nI (k+1)) rfl (aj (a:=nI k) (b:=nI 1) rfl rfl (n8 _ _)) (Gk (by omega))) (aj (a:=nI k) (b:=nI 3) rfl rfl (n8 _ _)) (Gk (by omega))) (n8 _ _)) rfl (by rw[<-ho];exact mG (by omega))) (by simp)) (bp (eu (d:=nI o2) (aj (a:=nI (o*o % 2147483587)) (b:=nI (o / 7)) (aj (a:=nI (o*o)) (b:=nI 2147483587) (aj (a:=nI o) (b:=nI o) rfl rfl (Gk (by omega))) rfl (mG (by omega))) (aj (a:=nI o) (b:=nI 7) rfl rfl (C_ (by omega) (by omega))) (by rw[<-HR];exact n8 _ _)) (by simp)) (wZ (d:=nI (o2*48271 % 2147483647 / 16)) (ds:=ns.map nI) (aj (a:=nI (o2*48271 % 2147483647)) (b:=nI 16) (aj (a:=nI (o2*48271)) (b:=nI 2147483647) (aj (a:=nI o2) (b:=nI 48271) rfl rfl (Gk (by omega))) rfl (mG (by omega))) rfl (C_ (by omega) (by omega))) rfl hlen))),ns++[o2*48271 % 2147483647 / 16],r, .val (nI k), .val (nI o2),by simp [hl],?_⟩
      rw[List.map_append];rfl)
 rw[List.length_map,List.length_range] at hl;refine⟨ns,hl,?_⟩;unfold c_ oi;subst hδ;refine cN (bp (AJ (ds:=[]) rfl (by simp [dq,iz])) (bp (eu (d:=nI a) (aA (ds:=[.int c]) rfl (by show R.ok (D.int (if c < 0 then -c else c))=_;rw [ha];rfl)) (by simp [dq,iz])) (bp (jc (ds:=(List.range n).map nI) ?_ e1) (cm rfl))))
 rw[<-fu];exact c0 (n:=n) rfl (by omega)
theorem G2(n:Nat):∃kd,kd<=4/\jY [nI n]= .ok (.tup [.str (kS kd),nI (ar kd)]):=by
 have key:∀r,r < 7->∃kd,kd<=4/\bW (.lst [.tup [.str "and", .int 2], .tup [.str "or", .int 2], .tup [.str "xor", .int 2], .tup [.str "not", .int 1], .tup [.str "vote", .int 3], .tup [.str "and", .int 2], .tup [.str "xor", .int 2]]) (nI r)= .ok (.tup [.str (kS kd),nI (ar kd)]):=fun r hr=>by
  match r,hr with
  | 0,_=>exact⟨1,by omega,rfl⟩
  | 1,_=>exact⟨2,by omega,rfl⟩
  | 2,_=>exact⟨3,by omega,rfl⟩
  | 3,_=>exact⟨0,by omega,rfl⟩
  | 4,_=>exact⟨4,by omega,rfl⟩
  | 5,_=>exact⟨1,by omega,rfl⟩
  | 6,_=>exact⟨3,by omega,rfl⟩
 obtain⟨kd,h1,h2⟩:=key (n % 7) (Nat.mod_lt _ (by omega))
 refine⟨kd,h1,?_⟩;unfold jY tO;exact cN (cm (aj (b:=nI (n % 7)) rfl (aj (a:=nI n) (b:=nI 7) rfl rfl (mG (by omega))) h2))
theorem iT{ms:List Nat}{n x:Nat}(h:ms[n]? =some x):bW (.lst (ms.map nI)) (nI n)= .ok (nI x):=NT.iA (by rw[List.getElem?_map,h];rfl)
end K41
end
section
namespace K41
open PySem PySem.Spec PyProof.Rows L2 L3 MT
def gE(sc:D)(f m w n:Nat)(a5 a6 a7 a8 a9 BD Fv:Option V3):DE:=[some (.d sc),some (.d (nI f)),some (.d (nI m)),some (.d (nI w)),some (.loc n),a5,a6,a7,a8,a9,BD,Fv]
theorem x0(S X:aN)(x:SO):(S++x ::X)[S.length]? =some x:=by rw[List.getElem?_append_right (Nat.le_refl _),Nat.sub_self];rfl
theorem y0(S X:aN)(x y:SO):(S++x ::X).set S.length y=S++y ::X:=by rw[List.set_append_right _ _ (Nat.le_refl _),Nat.sub_self];rfl
theorem xL(S X:aN)(x y:SO):(S++x ::(X++[y]))[S.length+1+X.length]? =some y:=by
 rw[List.getElem?_append_right (by omega),show S.length+1+X.length - S.length=X.length+1 by omega,List.getElem?_cons_succ,List.getElem?_append_right (Nat.le_refl _),Nat.sub_self];rfl
theorem yL(S X:aN)(x y z:SO):(S++x ::(X++[y])).set (S.length+1+X.length) z=S++x ::(X++[z]):=by
 rw[List.set_append_right _ _ (by omega),show S.length+1+X.length - S.length=X.length+1 by omega,List.set_cons_succ,List.set_append_right _ _ (Nat.le_refl _),Nat.sub_self];rfl
theorem Oa(w:Nat)(hw:0 < w):∃mn:Nat,0 < mn/\mn<=w/\rA [nI 4,nI w]= .ok (nI mn):=by
 by_cases h:w < 4
 .refine⟨w,hw,Nat.le_refl _,?_⟩;show R.ok (D.int (if(w:Int) < 4 then(w:Int) else 4))=_
  rw[if_pos (by omega)];rfl
 .refine⟨4,by omega,by omega,?_⟩
  show R.ok (D.int (if(w:Int) < 4 then(w:Int) else 4))=_
  rw[if_neg (by omega)];rfl
theorem Cu{sc:D}{f m w j x:Nat}{g0:SO}{S X:aN}{ms ws:List Nat}{a5 a7 a8 Fv:Option V3}(hw:0 < w)(hx:ms[1+j]? =some x)(hl:ws.length < 1000) :
 W3 (kK (gE sc f m w S.length a5 (some (.d (.lst (ms.map nI)))) a7 a8 (some (.loc (S.length+1+X.length))) (some (.d (nI j))) Fv) (S++g0 ::(X++[.lst (ws.map nI)]))) fun o S2=>∃(y:Nat) (Lz:Option V3),o= .nx (gE sc f m w S.length a5 (some (.d (.lst (ms.map nI)))) a7 a8 (some (.loc (S.length+1+X.length))) (some (.d (nI j))) Lz)/\y < w/\S2=S++g0 ::(X++[.lst ((ws++[y]).map nI)]):=by
 have hz:sizeLine=16777216:=sizeLine_eq;obtain⟨mn,h1,h2,h3⟩:=Oa w hw;unfold kK gE;generalize hδ:down [some (.d sc),some (.d (nI f)),some (.d (nI m)),some (.d (nI w)),some (.loc S.length),a5,some (.d (.lst (ms.map nI))),a7,a8,some (.loc (S.length+1+X.length)),some (.d (nI j)),Fv]=δ;have v6:ae 6 δ= .ok (.lst (ms.map nI)):=by rw[<-hδ];rfl
 have v10:ae 10 δ= .ok (nI j):=by rw[<-hδ];rfl
 have v3:ae 3 δ= .ok (nI w):=by rw[<-hδ];rfl
 have ex:(e2 bW (ae 6) (e2 eD (eC (.int 1)) (ae 10))) δ= .ok (nI x):=aj (a:= .lst (ms.map nI)) (b:=nI (1+j)) v6 (aj (a:=nI 1) (b:=nI j) rfl v10 (n8 _ _)) (iT hx);have e2x:(e2 qc (e2 bW (ae 6) (e2 eD (eC (.int 1)) (ae 10))) (eC (.int 2))) δ= .ok (nI (x / 2)):=aj (a:=nI x) (b:=nI 2) ex rfl (C_ (by omega) (by omega))
 obtain⟨nr,hnr,en⟩:∃nr,nr < w/\bW (.lst [nI (x / 2 % mn),nI (x / 2 % w)]) (nI (x % 2))= .ok (nI nr):=by
  have:x % 2=0\/x % 2=1:=by omega
  rcases this with q | q
  .rw [q];exact⟨x / 2 % mn,Nat.lt_of_lt_of_le (Nat.mod_lt _ h1) h2,rfl⟩
  .rw [q];exact⟨x / 2 % w,Nat.mod_lt _ hw,rfl⟩
 refine aX <| bB (by simp) <| cB (d:=nI nr) (by rw[hδ];exact aj (a:= .lst [nI (x / 2 % mn),nI (x / 2 % w)]) (b:=nI (x % 2)) (dA (wt (ds:=[nI (x / 2 % mn),nI (x / 2 % w)]) (az (aj (a:=nI (x / 2)) (b:=nI mn) e2x (aA (ds:=[nI 4,nI w]) (az rfl (az v3 rfl)) h3) (mG h1)) (az (aj (a:=nI (x / 2)) (b:=nI w) e2x v3 (mG hw)) rfl)) (by simp;omega))) (aj (a:=nI x) (b:=nI 2) ex rfl (mG (by omega))) en) ⟨_,rfl,?_⟩
 simp only[List.set];refine my (k:=S.length+1+X.length) rfl ⟨_,xL _ _ _ _⟩ <| cB (d:=nI (w - 1 - nr)) (aj (a:=nI (w - 1)) (b:=nI nr) (aj (a:=nI w) (b:=nI 1) rfl rfl (CG (by omega))) rfl (CG (by omega))) ⟨_,_,rfl,xL _ _ _ _,by rw[List.length_map];omega,w - 1 - nr,_,rfl,by omega,?_⟩
 rw[yL,List.map_append];rfl
theorem Dw(ns:List Int)(f m w:Nat)(hw:0 < w)(hm:m < 100)(Vf:w < 1000){S:aN}(hS:j9 S):W3 (jf [.d (.lst (ns.map .int)), .d (nI f), .d (nI m), .d (nI w)] S) fun v S1=>∃gs:List Gt,v= .d (.lst (gs.map jb))/\S1=S/\gs.length=m/\∀(i:Nat) (g:Gt),gs[i]? =some g->BQ (w+i) g:=by
 have hz:sizeLine=16777216:=sizeLine_eq;unfold jf;refine f_ hS (uz rfl ?_);simp only[cz,kf,List.map,List.length,List.replicate,List.cons_append,List.nil_append,Nat.reduceAdd,Nat.reduceSub];unfold mV;refine aX <| bB (by simp) <| mB (ds:=[]) rfl ⟨_,rfl,?_⟩
 simp only[List.set];refine aX <| fF <| j6 (ds:=(List.range m).map nI) (by rw[<-fu];exact c0 (n:=m) rfl (by omega)) ?_
 refine(cb (fun i δ S2=>∃(gs:List Gt) (X:aN) (a5 a6 a7 a8 a9 BD Fv:Option V3),gs.length=i/\(∀(i:Nat) (g:Gt),gs[i]? =some g->BQ (w+i) g)/\S2=S++SO.lst (gs.map jb) ::X/\δ=gE (.lst (ns.map .int)) f m (w+i) S.length a5 a6 a7 a8 a9 BD Fv)
  ⟨[],[],none,none,none,none,none,none,none,rfl,by simp,rfl,rfl⟩ ?_).mono fun o S2 ⟨dM,gb,gs,X,a5,a6,a7,a8,a9,BD,Fv,hl,hgs,rR,hδ⟩=>⟨dM,gb,?_⟩
 .rintro i v δ S2 hv ⟨gs,X,a5,a6,a7,a8,a9,BD,Fv,hl,hgs,rfl,rfl⟩;have hin:i < m:=by
   have:=(List.getElem?_eq_some_iff.mp hv).1;simpa using this
  obtain⟨k,hk,rfl⟩:=NT.ef hv;refine⟨gE (.lst (ns.map .int)) f m (w+i) S.length (some (.d (nI k))) a6 a7 a8 a9 BD Fv,rfl,?_⟩;unfold oq gE;obtain⟨c,hc⟩:=wF ns (f+k);obtain⟨ms,hms,em⟩:=oC c 6 (by omega)
  obtain⟨Fz,NQ⟩:∃x,ms[0]? =some x:=⟨ms[0],List.getElem?_eq_getElem (by omega)⟩
  obtain⟨x4,UO⟩:∃x,ms[4]? =some x:=⟨ms[4],List.getElem?_eq_getElem (by omega)⟩
  obtain⟨kd,hkd,ek⟩:=G2 Fz;have har:=EI kd;refine aX <| bB (by simp) <| cB (d:= .lst (ms.map nI)) (aA (ds:=[.int c,nI 6]) (az (aA (ds:=[.lst (ns.map .int),nI (f+k)]) (az rfl (az (aj (a:=nI f) (b:=nI k) rfl rfl (n8 _ _)) rfl)) hc) rfl) em) ⟨_,rfl,?_⟩
  simp only[List.set];refine aX <| Mx <| cB (d:= .tup [.str (kS kd),nI (ar kd)]) (aA (ds:=[nI Fz]) (az (aj (a:= .lst (ms.map nI)) (b:=nI 0) rfl rfl (iT NQ)) rfl) ek) ⟨_,rfl,_,rfl,?_⟩
  refine aX <| bB (by simp) <| mB (ds:=[]) rfl ⟨_,rfl,?_⟩
  have hlen:(S++SO.lst (gs.map jb) ::X).length=S.length+1+X.length:=by rw[List.length_append,List.length_cons];omega
  rw[hlen,List.append_assoc,List.cons_append];show W3 (bA _ _ (gE (.lst (ns.map .int)) f m (w+i) S.length (some (.d (nI k))) (some (.d (.lst (ms.map nI)))) (some (.d (.str (kS kd)))) (some (.d (nI (ar kd)))) (some (.loc (S.length+1+X.length))) BD Fv) _) _;refine aX <| fF <| j6 (ds:=(List.range (ar kd)).map nI) (by rw[<-fu];exact c0 (n:=ar kd) rfl (by omega)) ?_
  refine(cb (fun j δ S3=>∃(ws:List Nat) (IG Lz:Option V3),ws.length=j/\(∀y∈ws,y < w+i)/\S3=S++SO.lst (gs.map jb) ::(X++[SO.lst (ws.map nI)])/\δ=gE (.lst (ns.map .int)) f m (w+i) S.length (some (.d (nI k))) (some (.d (.lst (ms.map nI)))) (some (.d (.str (kS kd)))) (some (.d (nI (ar kd)))) (some (.loc (S.length+1+X.length))) IG Lz)
   ⟨[],BD,Fv,rfl,by simp,rfl,rfl⟩ ?_).mono fun o S3 ⟨Nj,e3,ws,IG,Lz,Ar,hws,Ly,FQ⟩=>⟨Nj,e3,?_⟩
  .rintro j u δ S3 hu ⟨ws,IG,Lz,Ar,hws,rfl,rfl⟩;have hjn:j < ar kd:=by
    have:=(List.getElem?_eq_some_iff.mp hu).1;simpa using this
   obtain⟨k2,Pu,rfl⟩:=NT.ef hu;have hk3:k2 < ar kd:=List.mem_range.mp (List.mem_of_getElem? Pu);refine⟨gE (.lst (ns.map .int)) f m (w+i) S.length (some (.d (nI k))) (some (.d (.lst (ms.map nI)))) (some (.d (.str (kS kd)))) (some (.d (nI (ar kd)))) (some (.loc (S.length+1+X.length))) (some (.d (nI k2))) Lz,rfl,?_⟩;refine(Cu (by omega) (List.getElem?_eq_getElem (by omega:1+k2 < ms.length)) (by omega)).mono fun o S4 ⟨y,Ve,eo,hy,LC⟩=>⟨_,eo,ws++[y],_,_,by simp [Ar],?_,LC,rfl⟩
   intro z hz';rcases List.mem_append.mp hz' with q | q
   .exact hws z q
   .rw [List.mem_singleton.mp q];exact hy
  rw[List.length_map,List.length_map,List.length_range] at Ar;subst FQ Ly;unfold gE;refine aX <| my (k:=S.length) rfl ⟨_,x0 _ _ _⟩ <| NB (d:=jb (kd,ws,(x4 % 6==0))) ?_ (KH _) ⟨_,gs.map jb,rfl,x0 _ _ _,by rw[List.length_map];omega,_,rfl,?_⟩
  .refine cZ (ds:=[.str (kS kd), .tup (ws.map nI), .bl (x4 % 6==0)]) (az rfl (az (aA (ds:=[.lst (ws.map nI)]) (az (D5 rfl (n3 (xL _ _ _ _))) rfl) rfl) (az (aj (a:=nI (x4 % 6)) (b:=nI 0) (aj (a:=nI x4) (b:=nI 6) (aj (a:= .lst (ms.map nI)) (b:=nI 4) rfl rfl (iT UO)) rfl (mG (by omega))) rfl (Q1 _ _)) rfl))) (by simp;omega)
  rw[y0];refine bB (by simp) <| cB (d:=nI (w+i+1)) (aj (a:=nI (w+i)) (b:=nI 1) rfl rfl (n8 _ _)) ?_
  simp only[List.set];refine⟨_,rfl,gs++[(kd,ws,(x4 % 6==0))],X++[SO.lst (ws.map nI)],_,_,_,_,_,_,_,by simp [hl],?_,by rw[List.map_append];rfl,rfl⟩
  intro j g hj;by_cases hjl:j < gs.length
  .rw [List.getElem?_append_left hjl] at hj;exact hgs j g hj
  .rw [List.getElem?_append_right (by omega)] at hj
   have h0:j - gs.length=0:=by
    cases q:j - gs.length with
    | zero=>rfl
    | succ n=>rw [q] at hj;simp at hj
   rw[h0] at hj;cases hj;rw[show j=i by omega]
   exact⟨hkd,Ar,hws⟩
 rw[List.length_map,List.length_map,List.length_range] at hl;subst hδ rR;unfold gE;refine Bf (k:=S.length) (ds:=gs.map jb) rfl (x0 _ _ _) ?_;rw[y0];simp only[List.set];exact eR <| cB (d:= .lst (gs.map jb)) rfl ⟨.d (.lst (gs.map jb)),rfl,by unfold fH;rfl,⟨_,rfl⟩, .lst (gs.map jb),by unfold res;rfl,⟨gs,rfl,trivial,hl,hgs⟩⟩
end K41
end
section
namespace K41
open PySem PySem.Spec PyProof.Rows L2 L3 MT
structure GN (l:Vt) (gs:List Gt) (os:Vu):Prop where
 no:gY l gs os
 c1:1<=l.length
 c:l.length<=3
 g:gs.length<=7
 o:∀x∈os,1<=x.2.length/\x.2.length<=3
 ol:os.length<=2
 fi:∀x∈l,DJ x
 fo:∀x∈os,cV 0 (.str x.1)
theorem GN.fit{l:Vt}{gs:List Gt}{os:Vu}(h:GN l gs os):cV 4 (ba l gs os):=cV.tup fun d hd=>by
 simp only[List.mem_cons,List.not_mem_nil,or_false] at hd;rcases hd with rfl | rfl | rfl
 .exact cV.lst fun d hd=>by obtain⟨x,hx,rfl⟩:=List.mem_map.mp hd;exact(K3 (h.fi x hx)).mono (by omega)
 .exact cV.lst fun d hd=>by obtain⟨x,hx,rfl⟩:=List.mem_map.mp hd;exact Ke
 .exact cV.lst fun d hd=>by obtain⟨x,hx,rfl⟩:=List.mem_map.mp hd;exact IM (h.fo x hx)
theorem G_(k b:Nat)(hk:k < 3)(hb:b < 2):∃s n x,cV 0 (.str s)/\bW (.lst [.str "a", .str "ab", .str "long"]) (nI k)= .ok n/\bW (.lst [.str "", .str "x"]) (nI b)= .ok x/\eD n x= .ok (.str s):=by
 have hz:sizeLine=16777216:=sizeLine_eq
 match k,b,hk,hb with
 | 0,0,_,_=>exact⟨_,_,_,cV.str (by decide+kernel),rfl,rfl,cy _ (by rw[hz];decide+kernel)⟩
 | 0,1,_,_=>exact⟨_,_,_,cV.str (by decide+kernel),rfl,rfl,cy _ (by rw[hz];decide+kernel)⟩
 | 1,0,_,_=>exact⟨_,_,_,cV.str (by decide+kernel),rfl,rfl,cy _ (by rw[hz];decide+kernel)⟩
 | 1,1,_,_=>exact⟨_,_,_,cV.str (by decide+kernel),rfl,rfl,cy _ (by rw[hz];decide+kernel)⟩
 | 2,0,_,_=>exact⟨_,_,_,cV.str (by decide+kernel),rfl,rfl,cy _ (by rw[hz];decide+kernel)⟩
 | 2,1,_,_=>exact⟨_,_,_,cV.str (by decide+kernel),rfl,rfl,cy _ (by rw[hz];decide+kernel)⟩
theorem D2(k:Nat)(hk:k < 2):∃s,cV 0 (.str s)/\bW (.lst [.str "b", .str "long"]) (nI k)= .ok (.str s):=by
 match k,hk with
 | 0,_=>exact⟨_,cV.str (by decide+kernel),rfl⟩
 | 1,_=>exact⟨_,cV.str (by decide+kernel),rfl⟩
theorem AM(d:D)(n:Nat):(List.replicate n [d]).flatten=List.replicate n d:=by
 induction n with
 | zero=>rfl
 | succ n ih=>rw [List.replicate_succ,List.flatten_cons,ih,List.replicate_succ];rfl
theorem sumZ:∀ns:List Nat,(nZ ns).sum=(ns.sum:Int)
 | []=>rfl
 | n ::ns=>by
   show(n:Int)+(nZ ns).sum=((n+ns.sum:Nat):Int);rw[sumZ ns];omega
theorem Hq{l:Vt}(h1:1<=l.length)(h:∀x∈l,DJ x):0 < rq l:=by
 cases l with
 | nil=>simp at h1
 | cons x l=>
   have:=(h x List.mem_cons_self).1.1;unfold rq;rw[List.map_cons,List.sum_cons];omega
theorem CI{l:Vt}(h1:l.length<=3)(h:∀x∈l,DJ x):rq l<=300:=by
 have:=tP (l:=l) fun x hx=>by have:=(h x hx).1.2;omega
 omega
theorem MW(w:Nat)(hw:0 < w):∃mn:Nat,0 < mn/\mn<=w/\rA [nI w,nI 4]= .ok (nI mn):=by
 by_cases h:4 < w
 .refine⟨4,by omega,by omega,?_⟩
  show R.ok (D.int (if(4:Int) < w then(4:Int) else w))=_
  rw[if_pos (by omega)];rfl
 .refine⟨w,by omega,by omega,?_⟩
  show R.ok (D.int (if(4:Int) < w then(4:Int) else w))=_
  rw[if_neg (by omega)];rfl
def eN(sc hd ins w gs:Option V3)(n:Option V3)(a3 a7 a8 a9:Option V3):DE:=[sc,hd,ins,a3,w,gs,n,a7,a8,a9]
theorem De{ns:List Int}{hd ins NM:Option V3}{W k:Nat}{n:Nat}{S:aN}{a7 a8 a9:Option V3}{ot:Vu}(hW:0 < W)(hk:k < 2)(hn:S[n]? =some (.lst (ot.map BX)))(hl:ot.length < 100) :
 W3 (mT (eN (some (.d (.lst (ns.map .int)))) hd ins (some (.d (nI W))) NM (some (.loc n)) (some (.d (nI k))) a7 a8 a9) S) fun o S2=>∃(x:Str × List Nat) (b7 b8 b9:Option V3),o= .nx (eN (some (.d (.lst (ns.map .int)))) hd ins (some (.d (nI W))) NM (some (.loc n)) (some (.d (nI k))) b7 b8 b9)/\(1<=x.2.length/\x.2.length<=3)/\(∀w∈x.2,w < W)/\cV 0 (.str x.1)/\S2=S.set n (.lst ((ot++[x]).map BX)):=by
 have hz:sizeLine=16777216:=sizeLine_eq;obtain⟨c,hc⟩:=wF ns (9+k);obtain⟨ms,hms,em⟩:=oC c 4 (by omega)
 obtain⟨Fz,NQ⟩:∃x,ms[0]? =some x:=⟨ms[0],List.getElem?_eq_getElem (by omega)⟩
 obtain⟨mn,m1,m2,m3⟩:=MW W hW;obtain⟨s,hs,es⟩:=D2 k hk;generalize hwd:1+Fz % 3=wd;have hwd1:1<=wd/\wd<=3:=by omega
 unfold mT eN;refine aX <| bB (by simp) <| cB (d:= .lst (ms.map nI)) (aA (ds:=[.int c,nI 4]) (az (aA (ds:=[.lst (ns.map .int),nI (9+k)]) (az rfl (az (aj (a:=nI 9) (b:=nI k) rfl rfl (n8 _ _)) rfl)) hc) rfl) em) ⟨_,rfl,?_⟩
 simp only[List.set];refine aX <| bB (by simp) <| cB (d:=nI wd) (aj (a:=nI 1) (b:=nI (Fz % 3)) rfl (aj (a:=nI Fz) (b:=nI 3) (aj (a:= .lst (ms.map nI)) (b:=nI 0) rfl rfl (iT NQ)) rfl (mG (by omega))) (by rw[<-hwd];exact n8 _ _)) ⟨_,rfl,?_⟩
 simp only[List.set];refine aX <| bB (by simp) <| iE (fun j ds S2=>S2=S/\∃ws:List Nat,ws.length=j/\(∀y∈ws,y < W)/\ds=ws.map nI) (j6 (ds:=(List.range wd).map nI) (by rw[<-fu];exact c0 (n:=wd) rfl (by omega)) ⟨by rw[List.length_map,List.length_map,List.length_range];omega,⟨rfl,[],rfl,by simp,rfl⟩,?_,?_⟩)
 .rintro j v ds S2 hv ⟨rfl,ws,Ar,hws,rfl⟩;obtain⟨k2,Pu,rfl⟩:=NT.ef hv;have hk3:k2 < wd:=List.mem_range.mp (List.mem_of_getElem? Pu);have hx:ms[1+k2]? =some ms[1+k2]:=List.getElem?_eq_getElem (by omega)
  generalize ms[1+k2]=x at hx;have hxm:x % mn < mn:=Nat.mod_lt _ m1;refine⟨[some (.d (nI k2)),some (.d (nI W)),some (.d (.lst (ms.map nI)))],rfl,t5 ?_⟩;rw[if_pos rfl];refine cB (d:=nI (W - 1 - x % mn)) (aj (a:=nI (W - 1)) (b:=nI (x % mn)) (aj (a:=nI W) (b:=nI 1) rfl rfl (CG (by omega))) (aj (a:=nI x) (b:=nI mn) (aj (a:= .lst (ms.map nI)) (b:=nI (1+k2)) rfl (aj (a:=nI 1) (b:=nI k2) rfl rfl (n8 _ _)) (iT hx)) (aA (ds:=[nI W,nI 4]) rfl m3) (mG m1)) (CG (by omega))) ⟨_,rfl,rfl,ws++[W - 1 - x % mn],by simp [Ar],?_,by rw[List.map_append];rfl⟩
  intro y hy;rcases List.mem_append.mp hy with q | q
  .exact hws y q
  .rw [List.mem_singleton.mp q];omega
 rintro ds S2 ⟨rfl,ws,Ar,hws,rfl⟩;rw[List.length_map,List.length_map,List.length_range] at Ar;refine⟨_,rfl,?_⟩;simp only[List.set];refine aX (W3.mono (Q:=fun o S3=>S3=S2/\∃F3:List Nat,F3.length=wd/\(∀y∈F3,y < W)/\o= .nx [some (.d (.lst (ns.map .int))),hd,ins,some (.d (nI k)),some (.d (nI W)),NM,some (.loc n),some (.d (.lst (ms.map nI))),some (.d (nI wd)),some (.d (.lst (F3.map nI)))]) ?_ fun o S3 ⟨e3,F3,TF,PQ,eo⟩=>⟨_,eo,?_⟩)
 .refine sj <| sZ (b:=Fz / 3 % 3==0) (eE (a:=nI (Fz / 3 % 3)) (b:=nI 0) (aj (a:=nI (Fz / 3)) (b:=nI 3) (aj (a:=nI Fz) (b:=nI 3) (aj (a:= .lst (ms.map nI)) (b:=nI 0) rfl rfl (iT NQ)) rfl (C_ (by omega) (by omega))) rfl (mG (by omega))) rfl (Q1 _ _)) ?_
  cases Fz / 3 % 3==0 with
  | false=>rw [if_neg (by decide)];exact ni ⟨rfl,ws,Ar,hws,rfl⟩
  | true=>
    rw[if_pos rfl];have hw0:ws[0]? =some ws[0]:=List.getElem?_eq_getElem (by omega)
    refine bB (by simp) <| cB (d:= .lst ((List.replicate wd ws[0]).map nI)) (dA ?_) ?_
    .have:=Et (f:=eW (ak (e2 bW (ae 9) (eC (.int 0))) aI)) (g:=ae 8) (δ:=down [some (.d (.lst (ns.map .int))),hd,ins,some (.d (nI k)),some (.d (nI W)),NM,some (.loc n),some (.d (.lst (ms.map nI))),some (.d (nI wd)),some (.d (.lst (ws.map nI)))]) (ds:=[nI ws[0]]) (n:=wd) (wt (az (aj (a:= .lst (ws.map nI)) (b:=nI 0) rfl rfl (iT hw0)) rfl) (by simp;omega)) rfl (by omega) (by simp;omega)
     rw[this,List.map_replicate,AM]
    .simp only[List.set];exact⟨trivial,List.replicate wd ws[0],by simp,fun y hy=>by rw[(List.mem_replicate.mp hy).2];exact hws _ (List.getElem_mem _),rfl⟩
 subst e3;refine my (k:=n) rfl ⟨_,hn⟩ <| cB (d:=BX (s,F3)) (cZ (ds:=[.str s, .tup (F3.map nI)]) (az (aj (a:= .lst [.str "b", .str "long"]) (b:=nI k) rfl rfl es) (az (aA (ds:=[.lst (F3.map nI)]) rfl rfl) rfl)) (by simp;omega)) ⟨_,_,rfl,hn,by rw[List.length_map];omega,(s,F3),_,_,_,rfl,⟨by show 1<=F3.length;omega,by show F3.length<=3;omega⟩,PQ,hs,by rw[List.map_append];rfl⟩
theorem IQ(ns:List Int){S:aN}(hS:j9 S):W3 (lX [.d (.lst (ns.map .int))] S) fun v S1=>∃l gs os,v= .d (ba l gs os)/\S1=S/\GN l gs os:=by
 have hz:sizeLine=16777216:=sizeLine_eq;obtain⟨c,hc⟩:=wF ns 0;obtain⟨ms,hms,em⟩:=oC c 12 (by omega)
 have at':∀i,i < 12->∃x,ms[i]? =some x:=fun i hi=>⟨ms[i],List.getElem?_eq_getElem (by omega)⟩
 obtain⟨h0,e0⟩:=at' 0 (by omega)
 obtain⟨h1,e1⟩:=at' 1 (by omega)
 obtain⟨h5,e5⟩:=at' 5 (by omega)
 obtain⟨h6,e6⟩:=at' 6 (by omega)
 unfold lX;refine f_ hS (uz rfl ?_);simp only[cz,jk,List.map,List.length,List.replicate,List.cons_append,List.nil_append,Nat.reduceAdd,Nat.reduceSub];unfold qC;refine aX <| bB (by simp) <| cB (d:= .lst (ms.map nI)) (aA (ds:=[.int c,nI 12]) (az (aA (ds:=[.lst (ns.map .int),nI 0]) rfl hc) rfl) em) ⟨_,rfl,?_⟩
 simp only[List.set];refine aX <| bB (by simp) <| mB (ds:=[]) rfl ⟨_,rfl,?_⟩
 simp only[List.set];generalize hn:1+h0 % 3=n;have hn3:1<=n/\n<=3:=by omega
 refine aX <| fF <| j6 (ds:=(List.range n).map nI) ?_ ?_
 .rw [<-fu];exact c0 (n:=n) (aj (a:=nI 1) (b:=nI (h0 % 3)) rfl (aj (a:=nI h0) (b:=nI 3) (aj (a:= .lst (ms.map nI)) (b:=nI 0) rfl rfl (iT e0)) rfl (mG (by omega))) (by rw[<-hn];exact n8 _ _)) (by omega)
 refine(cb (fun i δ S2=>∃(l:Vt) (a3:Option V3),l.length=i/\(∀x∈l,DJ x)/\S2=S++[SO.lst (l.map MT.inD)]/\δ=eN (some (.d (.lst (ns.map .int)))) (some (.d (.lst (ms.map nI)))) (some (.loc S.length)) none none none a3 none none none)
  ⟨[],none,rfl,by simp,rfl,rfl⟩ ?_).mono fun o S2 ⟨dM,gb,l,a3,hl,hli,rR,hδ⟩=>⟨dM,gb,?_⟩
 .rintro i v δ S2 hv ⟨l,a3,hl,hli,rfl,rfl⟩;have hin:i < n:=by
   have:=(List.getElem?_eq_some_iff.mp hv).1;simpa using this
  obtain⟨k,hk,rfl⟩:=NT.ef hv;have hkn:k < n:=List.mem_range.mp (List.mem_of_getElem? hk);obtain⟨x2,Tw⟩:=at' (2+k) (by omega)
  obtain⟨s,nm,sx,hs,en,ex,es⟩:=G_ k (h1 % 2) (by omega) (Nat.mod_lt _ (by omega))
  refine⟨eN (some (.d (.lst (ns.map .int)))) (some (.d (.lst (ms.map nI)))) (some (.loc S.length)) none none none (some (.d (nI k))) none none none,rfl,?_⟩;unfold q8 eN;refine my (k:=S.length) rfl ⟨_,aY _ _⟩ <| cB (d:=MT.inD (s,1+x2 % 3)) (cZ (ds:=[.str s,nI (1+x2 % 3)]) (az (aj (a:=nm) (b:=sx) (aj (a:= .lst [.str "a", .str "ab", .str "long"]) (b:=nI k) rfl rfl en) (aj (a:= .lst [.str "", .str "x"]) (b:=nI (h1 % 2)) rfl (aj (a:=nI h1) (b:=nI 2) (aj (a:= .lst (ms.map nI)) (b:=nI 1) rfl rfl (iT e1)) rfl (mG (by omega))) ex) es) (az (aj (a:=nI 1) (b:=nI (x2 % 3)) rfl (aj (a:=nI x2) (b:=nI 3) (aj (a:= .lst (ms.map nI)) (b:=nI (2+k)) rfl (aj (a:=nI 2) (b:=nI k) rfl rfl (n8 _ _)) (iT Tw)) rfl (mG (by omega))) (n8 _ _)) rfl)) (by simp;omega)) ⟨_,_,rfl,aY _ _,by rw[List.length_map];omega,_,rfl,l++[(s,1+x2 % 3)],_,by simp [hl],?_,by rw[dH,List.map_append];rfl,rfl⟩
  intro x hx;rcases List.mem_append.mp hx with q | q
  .exact hli x q
  .rw [List.mem_singleton.mp q];exact⟨⟨by show 1<=1+x2 % 3;omega,by show 1+x2 % 3<=3;omega⟩,hs⟩
 rw[List.length_map,List.length_map,List.length_range] at hl;subst hδ rR;have hwp:=Hq (by omega) hli
 have hws:=CI (by omega) hli
 unfold eN;refine Bf (k:=S.length) (ds:=l.map MT.inD) rfl (aY _ _) ?_;rw[dH];simp only[List.set];refine aX <| bB (by simp) <| cB (d:=nI (rq l)) (aA (ds:=[.lst ((l.map (·.2)).map nI)]) (az (dA (cX (ds:=l.map MT.inD) (jI rfl) (by rw[List.length_map];omega) ?_)) rfl) ?_) ⟨_,rfl,?_⟩
 .have:=NT.eA (t:=aK 0) (c:=i_) (f:=e2 bW (ae 0) (eC (.int 1))) (δ:=[.un]) (fun _:Str × Nat=>true) MT.inD (fun x=>nI x.2) (xs:=l) fun x _=>⟨[.val (MT.inD x)],rfl,rfl,fun _=>rfl⟩
  rw[List.filter_eq_self.mpr (fun _ _=>rfl)] at this
  rw[List.map_map];exact this
 .rw [<-JJ];show(match ints? ((nZ (l.map (·.2))).map D.int) with | some ns=>R.ok (D.int ns.sum) | none=> .no)=_
  rw[L2.ints_map];show R.ok (D.int (nZ (l.map (·.2))).sum)=_
  rw[sumZ];rfl
 simp only[List.set];have hcl:j9 (S++[SO.ki]):=j9.push hS fun _=>rfl
 refine aX <| bB (by simp) <| eM <| aD <| cB (d:= .lst (ns.map .int)) rfl <| aD <| cB (d:=nI 1) rfl <| aD <| cB (d:=nI (1+h5 % 7)) (aj (a:=nI 1) (b:=nI (h5 % 7)) rfl (aj (a:=nI h5) (b:=nI 7) (aj (a:= .lst (ms.map nI)) (b:=nI 5) rfl rfl (iT e5)) rfl (mG (by omega))) (n8 _ _)) <| aD <| cB (d:=nI (rq l)) rfl <| cg <| (Dw ns 1 (1+h5 % 7) (rq l) hwp (by omega) (by omega) hcl).mono fun v S3 ⟨gs,ev,Ts,hgl,hgs⟩=>⟨_,rfl,?_⟩
 subst ev Ts;simp only[List.set];refine aX <| bB (by simp) <| cB (d:=nI (rq l+gs.length)) (aj (a:=nI (rq l)) (b:=nI gs.length) rfl (aA (ds:=[.lst (gs.map jb)]) rfl (by rw[o7,List.length_map];rfl)) (n8 _ _)) ⟨_,rfl,?_⟩
 simp only[List.set];refine aX <| bB (by simp) <| mB (ds:=[]) rfl ⟨_,rfl,?_⟩
 simp only[List.set];have hlen:(S++[SO.ki]).length=S.length+1:=by simp
 rw[hlen,List.append_assoc];generalize hm:1+h6 % 2=m;have hm2:1<=m/\m<=2:=by omega
 refine aX <| fF <| j6 (ds:=(List.range m).map nI) ?_ ?_
 .rw [<-fu];exact c0 (n:=m) (aj (a:=nI 1) (b:=nI (h6 % 2)) rfl (aj (a:=nI h6) (b:=nI 2) (aj (a:= .lst (ms.map nI)) (b:=nI 6) rfl rfl (iT e6)) rfl (mG (by omega))) (by rw[<-hm];exact n8 _ _)) (by omega)
 refine(cb (fun i δ S2=>∃(os:Vu) (a3 a7 a8 a9:Option V3),os.length=i/\(∀x∈os,(1<=x.2.length/\x.2.length<=3)/\(∀w∈x.2,w < rq l+gs.length)/\cV 0 (.str x.1))/\S2=S++[SO.ki,SO.lst (os.map BX)]/\δ=eN (some (.d (.lst (ns.map .int)))) (some (.d (.lst (ms.map nI)))) (some (.d (.lst (l.map MT.inD)))) (some (.d (nI (rq l+gs.length)))) (some (.d (.lst (gs.map jb)))) (some (.loc (S.length+1))) a3 a7 a8 a9)
  ⟨[],a3,none,none,none,rfl,by simp,rfl,rfl⟩ ?_).mono fun o S2 ⟨dM,gb,os,b3,b7,b8,b9,hol,hoo,rR,hδ⟩=>⟨dM,gb,?_⟩
 .rintro i v δ S2 hv ⟨os,b3,b7,b8,b9,hol,hoo,rfl,rfl⟩;have him:i < m:=by
   have:=(List.getElem?_eq_some_iff.mp hv).1;simpa using this
  obtain⟨k,hk,rfl⟩:=NT.ef hv;have hkm:k < m:=List.mem_range.mp (List.mem_of_getElem? hk);refine⟨eN (some (.d (.lst (ns.map .int)))) (some (.d (.lst (ms.map nI)))) (some (.d (.lst (l.map MT.inD)))) (some (.d (nI (rq l+gs.length)))) (some (.d (.lst (gs.map jb)))) (some (.loc (S.length+1))) (some (.d (nI k))) b7 b8 b9,rfl,?_⟩;refine(De (by omega) (by omega) (ot:=os) (by exact g2) (by omega)).mono fun o S4 ⟨x,c7,c8,c9,eo,q1,q2,q3,LC⟩=>⟨_,eo,os++[x],_,_,_,_,by simp [hol],?_,by rw[LC];exact s2,rfl⟩
  intro y hy;rcases List.mem_append.mp hy with q | q
  .exact hoo y q
  .rw [List.mem_singleton.mp q];exact⟨q1,q2,q3⟩
 rw[List.length_map,List.length_map,List.length_range] at hol;subst hδ rR;unfold eN;refine Bf (k:=S.length+1) (ds:=os.map BX) rfl g2 ?_;simp only[List.set];refine eR <| cB (d:=ba l gs os) (cZ (ds:=[.lst (l.map MT.inD), .lst (gs.map jb), .lst (os.map BX)]) rfl (by simp;omega)) ⟨.d (ba l gs os),rfl,by unfold fH;rfl,⟨[SO.ki,SO.ki],s2⟩,ba l gs os,by unfold res;rfl,l,gs,os,rfl,trivial,⟨⟨by omega,fun x hx=>by have:=(hli x hx).1.2;omega,by omega,hgs,by omega,fun x hx=>⟨by have:=(hoo x hx).1.2;omega,(hoo x hx).2.1⟩⟩,by omega,by omega,by omega,fun x hx=>(hoo x hx).1,by omega,hli,fun x hx=>(hoo x hx).2.2⟩⟩
end K41
end
section
namespace K41
open PySem PySem.Spec PyProof.Rows L2 L3 MT
def lo:Nat->Nat->List Bool
 | 0,_=>[]
 | k+1,p=>p.testBit k ::lo k p
theorem Bq:∀c p,lo (c+1) p=lo c (p / 2)++[p.testBit 0]
 | 0,p=>rfl
 | c+1,p=>by
   show p.testBit (c+1) ::lo (c+1) p=(p / 2).testBit c ::lo c (p / 2)++[p.testBit 0];rw[Bq c p,Nat.testBit_succ];rfl
theorem xX{α:Type}(f g:α->α):∀(l:List α) (p:Nat),(l.flatMap fun b=>[f b,g b])[p]? =(l[p / 2]?).map fun b=>if p.testBit 0 then g b else f b
 | [],p=>by simp
 | b ::l,0=>rfl
 | b ::l,1=>rfl
 | b ::l,p+2=>by
   rw[List.flatMap_cons];show(f b ::g b ::(l.flatMap fun b=>[f b,g b]))[p+2]? =_
   rw[List.getElem?_cons_succ,List.getElem?_cons_succ,xX f g l p,show(p+2) / 2=p / 2+1 by omega,List.getElem?_cons_succ]
   have:(p+2).testBit 0=p.testBit 0:=by rw[Nat.testBit_zero,Nat.testBit_zero,Nat.add_mod_right]
   rw[this]
theorem yq:∀c p,p < 2 ^ c->(cW c)[p]? =some (lo c p)
 | 0,p,h=>by
   have:p=0:=by omega
   subst this;rfl
 | c+1,p,h=>by
   unfold cW;rw[xX (fun b=>b++[false]) (fun b=>b++[true]),yq c (p / 2) (by rw[Nat.pow_succ] at h;omega),Bq]
   show some _=some _;congr 1;cases p.testBit 0 <;> rfl
theorem Ig:∀c p k,k < c->(lo c p).getD k false=p.testBit (c - 1 - k)
 | 0,_,_,h=>by omega
 | c+1,p,0,_=>rfl
 | c+1,p,k+1,h=>by
   show(lo c p).getD k false=_;rw[Ig c p k (by omega)]
   congr 1;omega
theorem Hf{c k p:Nat}(hk:k < c)(hp:p < 2 ^ c):Lq c k p=p.testBit (c - 1 - k):=by
 unfold Lq;rw[List.getD_eq_getElem?_getD (l:=cW c),yq c p hp];exact Ig c p k hk
theorem Bk(g:M->D)(b:M):∀(n:Nat) (ws:List M),(kg [] b n ws).map g=ws.map g++List.replicate n (g b)
 | 0,ws=>by simp [kg]
 | n+1,ws=>by
   unfold kg;have e:(fun p=>b p !=([]:List Int).contains ((kg [] b n ws).length:Int))=b:=by
    funext p;show(b p !=false)=b p;cases b p <;> rfl
   rw[e,List.map_append,Bk g b n ws,List.append_assoc,List.replicate_succ'];rfl
def bL(ws:List M)(p:Nat):List D:=ws.map fun f=>bI (f p)
theorem zU(ws:List M)(p:Nat):(bL ws p).length=ws.length:=by unfold bL;rw [List.length_map]
theorem Ip{ws:List M}{p n:Nat}(h:n < ws.length):bW (.lst (bL ws p)) (nI n)= .ok (bI (um ws n p)):=NT.iA (by
 unfold bL;rw[List.getElem?_map,List.getElem?_eq_getElem h];unfold um;rw[List.getD_eq_getElem?_getD,List.getElem?_eq_getElem h];rfl)
theorem Dm(b:Bool):mU (bI b)=true:=by cases b <;> rfl
theorem AH:∀bs:List Bool,jR (bs.map bI)=true
 | []=>by unfold jR;rfl
 | b ::bs=>by
   rw[List.map_cons];unfold jR;rw[Dm,AH bs];rfl
theorem Ow(a b:Nat):x_ (nI a) (nI b)= .ok (nI (a / 2 ^ b)):=by
 show R.bH (decide ((0:Int)<=((b:Nat):Int))) (.ok (D.int ((a:Int) / 2 ^ ((b:Int)).toNat)))=_;rw[cy _ (by omega),Int.toNat_natCast]
 congr 2
theorem OT(a n:Nat):z6 (nI (a / 2 ^ n)) (nI 1)= .ok (bI (a.testBit n)):=by
 show R.ok (D.int (Builtin.bitAnd ((a / 2 ^ n:Nat):Int) ((1:Nat):Int)))=_;rw[pF,Nat.and_one_is_mod,Nat.testBit_eq_decide_div_mod_eq];have:a / 2 ^ n % 2=0\/a / 2 ^ n % 2=1:=by omega
 rcases this with q | q <;> rw[q] <;> rfl
theorem Hi{l:Vt}{gs:List Gt}{os:Vu}{p:Nat}(hc:l.length<=6):g9 [ba l gs os,nI p]= .ok (.tup ((List.range l.length).map fun k=>bI (p.testBit (l.length - 1 - k)))):=by
 have hz:sizeLine=16777216:=sizeLine_eq;unfold g9 tJ;refine cN (bp (eu (d:=nI l.length) (aA (ds:=[.lst (l.map MT.inD)]) (az (aj (a:=ba l gs os) (b:= .int 0) rfl rfl rfl) rfl) (by rw[o7,List.length_map];rfl)) (by simp [dq,md])) (cm (aA (ds:=[.lst ((List.range l.length).map fun k=>bI (p.testBit (l.length - 1 - k)))]) (az (dA (cX (ds:=(List.range l.length).map nI) ?_ (by rw[List.length_map,List.length_range];omega) ?_)) rfl) rfl)))
 .rw [<-fu];exact c0 (n:=l.length) rfl (by omega)
 .have:=NT.eA (t:=aK 0) (c:=i_) (f:=e2 z6 (e2 x_ (ae 1) (e2 qH (e2 qH (ae 2) (eC (.int 1))) (ae 0))) (eC (.int 1))) (δ:=[.un, .val (nI p), .val (nI l.length)]) (fun _:Nat=>true) nI (fun k=>bI (p.testBit (l.length - 1 - k))) (xs:=List.range l.length) fun k hk=>⟨[.val (nI k), .val (nI p), .val (nI l.length)],rfl,rfl,fun _=>by
   rw[List.mem_range] at hk;exact aj (a:=nI (p / 2 ^ (l.length - 1 - k))) (b:=nI 1) (aj (a:=nI p) (b:=nI (l.length - 1 - k)) rfl (aj (a:=nI (l.length - 1)) (b:=nI k) (aj (a:=nI l.length) (b:=nI 1) rfl rfl (CG (by omega))) rfl (CG (by omega))) (Ow _ _)) rfl (OT _ _)⟩
  rw[List.filter_eq_self.mpr (fun _ _=>rfl)] at this
  exact this
theorem F8{c p:Nat}(hp:p < 2 ^ c):((List.range c).map fun k=>bI (p.testBit (c - 1 - k)))=(fG c).map fun f=>bI (f p):=by
 unfold fG;rw[List.map_map];refine List.map_congr_left fun k hk=>?_
 rw[List.mem_range] at hk;show _=bI (Lq c k p);rw[Hf hk hp]
theorem DP{kd:Nat}{bs:List Bool}(hk:kd<=4)(hl:bs.length=ar kd):∃mn mx sm nt df:Int,rA [.lst (bs.map bI)]= .ok (.int mn)/\Bg [.lst (bs.map bI)]= .ok (.int mx)/\(oa [.lst (bs.map bI)]).bind (fun d=>iO d (.int 2))= .ok (.int sm)/\(bW (.lst (bs.map bI)) (.int 0)).bind (fun d=>qH (.int 1) d)= .ok (.int nt)/\((oa [.lst (bs.map bI)]).bind fun d=>(Ku d (.int 1)).bind fun d=>kz [d])= .ok (.int df)/\(wV (sL ["and","or","xor","not"] [mn,mx,sm,nt]) (Sum.inr (kS kd))).getD (.int df)=bI (gv kd bs):=by
 match kd,bs,hl with
 | 0,[a],_=>cases a <;> exact⟨_,_,_,_,_,rfl,rfl,rfl,rfl,rfl,rfl⟩
 | 1,[a,b],_=>cases a <;> cases b <;> exact⟨_,_,_,_,_,rfl,rfl,rfl,rfl,rfl,rfl⟩
 | 2,[a,b],_=>cases a <;> cases b <;> exact⟨_,_,_,_,_,rfl,rfl,rfl,rfl,rfl,rfl⟩
 | 3,[a,b],_=>cases a <;> cases b <;> exact⟨_,_,_,_,_,rfl,rfl,rfl,rfl,rfl,rfl⟩
 | 4,[a,b,c],_=>cases a <;> cases b <;> cases c <;> exact⟨_,_,_,_,_,rfl,rfl,rfl,rfl,rfl,rfl⟩
end K41
end
section
namespace K41
open PySem PySem.Spec PyProof.Rows L2 L3 MT
theorem IZ{α β:Type}{xs:List α}{ys:List β}{f:α->D}{g:β->D}{i:Nat}{v:V3}(h:((j7 (xs.map f) (ys.map g)).map V3.d)[i]? =some v):∃x y,xs[i]? =some x/\ys[i]? =some y/\v= .d (.tup [f x,g y]):=by
 induction xs generalizing ys i with
 | nil=>simp [j7] at h
 | cons x xs ih=>
   cases ys with
   | nil=>simp [j7] at h
   | cons y ys=>
     cases i with
     | zero=>simp [j7] at h;exact⟨x,y,rfl,rfl,h.symm⟩
     | succ i=>simp only[j7,List.map_cons,List.zip_cons_cons,List.getElem?_cons_succ] at h ⊢;exact ih h
theorem AK{α β:Type}{xs:List α}{ys:List β}{f:α->D}{g:β->D}(h:xs.length=ys.length):((j7 (xs.map f) (ys.map g)).map V3.d).length=xs.length:=by
 unfold j7;simp [h]
theorem yj{gs:List Gt}{T:List Nat}{w0:List M}{i:Nat}{g:Gt}(h:gs[i]? =some g):vB gs (nZ T) w0 (i+1)=vB gs (nZ T) w0 i++[fun p=>gF g (vB gs (nZ T) w0 i) p !=T.contains i]:=by
 conv=>lhs;unfold vB
 rw[h];simp only[DH]
theorem BV{l:Vt}{bits:List M}{i:Nat}{x:Str × Nat}{f:M}(h:l[i]? =some x)(h2:bits[i]? =some f):gB l bits [] (i+1)=kg [] f x.2 (gB l bits [] i):=by
 conv=>lhs;unfold gB
 rw[h,h2]
def tE(nt bs T:D)(q:Nat)(a5 a6 a7 a8 a9 BD:Option V3):DE:=[some (.d nt),some (.d bs),some (.d T),some (.d (.tup [])),some (.loc q),a5,a6,a7,a8,a9,BD]
theorem JB{S X:aN}{q:Nat}{y:SO}(h:S.length<=q):(S++X).set q y=S++X.set (q - S.length) y:=List.set_append_right _ _ h
theorem yz{S:aN}{q:Nat}{x:SO}{Y:aN}(h:S[q]? =some x):(S++Y)[q]? =some x:=by
 rw[List.getElem?_append_left (List.getElem?_eq_some_iff.mp h).1];exact h
theorem Di{S:aN}{q:Nat}{ds:List D}(h:S[q]? =some (.lst ds)):Al S (.loc q)=some ds:=by
 show er S q=some ds;unfold er;simp only[h]
theorem JS{S:aN}{p a:Nat}{ws:List M}{ns:List Nat}{δ:DE}{it:FA}{own:List Str}{kp:List Nat}{Q:V3->aN->Prop}(hn:∀n∈ns,n < ws.length)(hl:ns.length < 1000)(hit:W3 (it δ S) fun vs S1=>vs=(ns.map nI).map V3.d/\S1=S)(UI:nC own kp δ=[none,some (.loc a)])(e:S[a]? =some (.lst (bL ws p)))(h:Q (.d (.lst ((ns.map fun n=>um ws n p).map bI))) S) :
 W3 (i8 it (k6 0) uH (xT (e2 bW (ae 1) (ae 0))) own kp δ S) Q:=by
 have hz:sizeLine=16777216:=sizeLine_eq;refine iE (fun j ds S2=>S2=S/\ds=(((ns.map fun n=>um ws n p).map bI).take j)) (hit.mono fun vs S1 ⟨e1,gb⟩=>?_)
 subst e1 gb;refine⟨by rw[List.length_map,List.length_map];omega,⟨rfl,by simp⟩,?_,?_⟩
 .rintro j v ds S2 hv ⟨rfl,rfl⟩;obtain⟨n,hnj,rfl⟩:=NT.ef hv;rw[UI];refine⟨[some (.d (nI n)),some (.loc a)],rfl,t5 ?_⟩;rw[if_pos rfl];refine NB (d:=bI (um ws n p)) (aj (a:= .lst (bL ws p)) (b:=nI n) (D5 rfl (n3 e)) rfl (Ip (hn n (List.mem_of_getElem? hnj)))) (Dm _) ⟨_,rfl,rfl,?_⟩;rw[List.take_add_one,List.getElem?_map,List.getElem?_map,hnj];rfl
 .rintro ds S2 ⟨rfl,rfl⟩;rw[List.length_map,List.length_map,List.take_of_length_le (by simp)]
  exact h
theorem H0(a b:Bool):((eD (bI a) (.int (if b then 1 else 0))).bind fun d=>iO d (.int 2))= .ok (bI (a !=b)):=by
 cases a <;> cases b <;> rfl
section
variable {c p:Nat} {l:Vt} {gs:List Gt} {os:Vu} {T:List Nat} {S:aN}
theorem A2(b:Bool):kz [.bl b]= .ok (.int (if b then 1 else 0)):=by cases b <;> rfl
theorem Cz{nt bs:D}{q i:Nat}{g:Gt}{ws:List M}{a5 a6 a9 BD:Option V3}(hg:BQ ws.length g)(hq:S[q]? =some (.lst (bL ws p)))(hl:ws.length < 100000) :
 W3 (l5 (tE nt bs (bt T) q a5 a6 (some (.d (nI i))) (some (.d (jb g))) a9 BD) S) fun o S2=>∃b5 b9 IG d,o= .nx (tE nt bs (bt T) q b5 a6 (some (.d (nI i))) (some (.d (jb g))) b9 IG)/\S2=(S++[SO.dct d]).set q (.lst (bL (ws++[fun p=>gF g ws p !=T.contains i]) p)):=by
 have hz:sizeLine=16777216:=sizeLine_eq;obtain⟨hk,hgl,hgw⟩:=hg;have har:=EI g.1;have hbl:(g.2.1.map fun n=>um ws n p).length=ar g.1:=by rw[List.length_map];exact hgl
 obtain⟨mn,mx,sm,Ra,df,q1,q2,q3,q4,q5,q6⟩:=DP hk hbl;unfold l5 tE;refine aX <| bB (by simp) <| JS (ns:=g.2.1) hgw (by omega) (j6 (ds:=g.2.1.map nI) (zX (aj (a:=jb g) (b:= .int 1) rfl rfl rfl)) ⟨rfl,rfl⟩) rfl hq ⟨_,rfl,?_⟩
 simp only[List.set];generalize hB:(g.2.1.map fun n=>um ws n p).map bI=B at q1 q2 q3 q4 q5
 refine aX <| bB (by simp) <| Gx (ns:=[mn,mx,sm,Ra]) ?_ rfl (by decide) ⟨_,rfl,?_⟩
 .refine az (aA (ds:=[.lst B]) rfl q1) (az (aA (ds:=[.lst B]) rfl q2) (az ?_ (az ?_ rfl)))
  .cases q:oa [.lst B] with
   | ok d=>rw [q] at q3;exact aj (a:=d) (b:= .int 2) (aA (ds:=[.lst B]) rfl q) rfl q3
   | no=>rw [q] at q3;cases q3
   | ex _=>rw [q] at q3;cases q3
  .cases q:bW (.lst B) (.int 0) with
   | ok d=>rw [q] at q4;exact aj (a:= .int 1) (b:=d) rfl (aj (a:= .lst B) (b:= .int 0) rfl rfl q) q4
   | no=>rw [q] at q4;cases q4
   | ex _=>rw [q] at q4;cases q4
 simp only[List.set];refine aX <| bB (by simp) <| K1 (k:=S.length) (x:=kS g.1) (d:= .int df) rfl (aY _ _) (aj (a:=jb g) (b:= .int 0) rfl rfl rfl) ?_ ⟨_,rfl,?_⟩
 .cases q:oa [.lst B] with
  | ok d=>
    rw[q] at q5;cases q':Ku d (.int 1) with
    | ok d'=>
      rw[R.aG,q',R.aG] at q5;exact aA (ds:=[d']) (az (aj (a:=d) (b:= .int 1) (aA (ds:=[.lst B]) rfl q) rfl q') rfl) q5
    | no=>rw [R.aG,q'] at q5;cases q5
    | ex _=>rw [R.aG,q'] at q5;cases q5
  | no=>rw [q] at q5;cases q5
  | ex _=>rw [q] at q5;cases q5
 simp only[List.set];rw[q6];have ht:=H0 (gv g.1 (g.2.1.map fun n=>um ws n p)) (T.contains i)
 cases qa:eD (bI (gv g.1 (g.2.1.map fun n=>um ws n p))) (.int (if T.contains i then 1 else 0)) with
 | ok d=>
   rw[qa,R.aG] at ht;refine my (k:=q) rfl ⟨_,yz hq⟩ <| cB (d:=bI (gv g.1 (g.2.1.map fun n=>um ws n p) !=T.contains i)) (aj (a:=d) (b:= .int 2) (aj (a:=bI (gv g.1 (g.2.1.map fun n=>um ws n p))) (b:= .int (if T.contains i then 1 else 0)) rfl (aA (ds:=[.bl (T.contains i)]) (az (aj (a:=nI i) (b:=bt T) rfl rfl (MR i T)) rfl) (A2 _)) qa) rfl ht) ⟨_,_,rfl,yz hq,by rw[zU];omega,_,_,_,sL ["and","or","xor","not"] [mn,mx,sm,Ra],rfl,?_⟩
   unfold bL;rw[List.map_append];rfl
 | no=>rw [qa] at ht;cases ht
 | ex _=>rw [qa] at ht;cases ht
theorem Gj(NO:gY l gs os)(hc:l.length=c)(F4:c<=6)(hS:j9 S){Q:V3->aN->Prop}(h:Q (.d (.lst (bL (Wd c l gs (nZ T) []) p))) S) :
 W3 (ky [.d (ba l gs os), .d (.tup ((fG c).map fun f=>bI (f p))), .d (bt T), .d (.tup [])] S) Q:=by
 have hz:sizeLine=16777216:=sizeLine_eq;have hml:(fG c).length=l.length:=by unfold fG;rw [List.length_map,List.length_range,hc]
 unfold ky;refine f_ hS (uz rfl ?_);simp only[cz,hV,List.map,List.length,List.replicate,List.cons_append,List.nil_append,Nat.reduceAdd,Nat.reduceSub];unfold oZ;refine aX <| bB (by simp) <| mB (ds:=[]) rfl ⟨_,rfl,?_⟩
 simp only[List.set];refine aX <| fF <| j6 (ds:=j7 ((fG c).map fun f=>bI (f p)) (l.map MT.inD)) rfl ?_
 refine(cb (fun i δ S2=>∃(X:aN) (q:Nat) (a5 a6:Option V3),S2=S++X/\S.length<=q/\S2[q]? =some (.lst (bL (gB l (fG c) [] i) p))/\δ=tE (ba l gs os) (.tup ((fG c).map fun f=>bI (f p))) (bt T) q a5 a6 none none none none)
  ⟨[.lst []],S.length,none,none,rfl,Nat.le_refl _,aY _ _,rfl⟩ ?_).mono fun o S2 ⟨dM,gb,X,q,a5,a6,rR,hq,hSq,hδ⟩=>⟨dM,gb,?_⟩
 .rintro i v δ S2 hv ⟨X,q,a5,a6,rfl,hq,hSq,rfl⟩;have hil:i < (fG c).length:=by
   have:=(List.getElem?_eq_some_iff.mp hv).1;rw[AK hml] at this;exact this
  obtain⟨f,x,hf,hx,rfl⟩:=IZ hv;have hxw:=NO.hw x (List.mem_of_getElem? hx);have hln:(gB l (fG c) [] i).length=rq (l.take i):=lN hml i (by omega)
  have Ar:rq (l.take i)<=100*(l.take i).length:=tP fun y hy=>NO.hw y (List.mem_of_mem_take hy)
  have htl:(l.take i).length<=6:=by rw[List.length_take];omega
  refine⟨tE (ba l gs os) (.tup ((fG c).map fun f=>bI (f p))) (bt T) q (some (.d (bI (f p)))) (some (.d (MT.inD x))) none none none none,rfl,?_⟩
  unfold pV tE;have hrep:=Et (f:=eW (ak (ae 5) aI)) (g:=e2 bW (ae 6) (eC (.int 1))) (δ:=down [some (.d (ba l gs os)),some (.d (.tup ((fG c).map fun f=>bI (f p)))),some (.d (bt T)),some (.d (.tup [])),some (.loc q),some (.d (bI (f p))),some (.d (MT.inD x)),none,none,none,none]) (ds:=[bI (f p)]) (n:=x.2) (wt rfl (by simp;omega)) rfl (by omega) (by simp;omega)
  rw[AM] at hrep;refine bB (by simp) <| MG <| w_var (v:= .loc q) rfl <| cB (d:= .lst (List.replicate x.2 (bI (f p)))) (dA hrep) ⟨bL (gB l (fG c) [] i) p,List.replicate x.2 (bI (f p)),Di hSq,rfl,by rw[zU,List.length_replicate];omega,?_⟩
  simp only[List.set];refine⟨_,rfl,X++[SO.lst (bL (gB l (fG c) [] i) p++List.replicate x.2 (bI (f p)))],(S++X).length,some (.d (bI (f p))),some (.d (MT.inD x)),List.append_assoc _ _ _,by rw[List.length_append];omega,?_,rfl⟩
  rw[aY];rw[BV hx hf];unfold bL;rw[Bk (fun g=>bI (g p))]
 rw[AK hml,hml] at hSq;subst hδ rR;generalize hw0:gB l (fG c) [] l.length=w0 at hSq;have hw0l:w0.length=rq l:=by rw[<-hw0,lN hml _ (Nat.le_refl _),List.take_length]
 have Ar:rq l<=100*l.length:=tP NO.hw;have hgl:=NO.hg;unfold tE;refine aX <| bB (by simp) <| KW (ds:=bL w0 p) ?_ ?_ ⟨_,rfl,?_⟩
 .refine cX (ds:=cK (bL w0 p)) ?_ ?_ ?_
  .show gr (ae 4) _=_;unfold gr;rw[D5 (v:= .loc q) (d:= .lst (bL w0 p)) rfl (n3 hSq)];rfl
  .unfold cK;rw [List.length_map,List.length_zipIdx,zU];omega
  .have:=u3 (t:=jA 2 (cG (aK 0) (cG (aK 1) jZ))) (c:=i_) (f:=e2 iO (e2 eD (ae 1) (aP kz (ak (e2 Iq (ae 0) (ae 2)) aI))) (eC (.int 2))) (δ:=[.un, .un, .val (.tup [])]) (fun d=>match d with | .tup [_,b]=>b | _=> .cn) (ds:=cK (bL w0 p)) fun d hd=>by
    obtain⟨j,hj⟩:=List.mem_iff_getElem?.mp hd;have hv:((cK (bL w0 p)).map V3.d)[j]? =some (.d d):=by rw[List.getElem?_map,hj];rfl
    obtain⟨d0,Ld,ed⟩:=pJ hv;cases ed;obtain⟨g,_,rfl⟩:=NT.l0 (show(w0.map fun f=>bI (f p))[j]? =some d0 from Ld)
    refine⟨[.val (nI j), .val (bI (g p)), .val (.tup [])],rfl,rfl,?_⟩;have ht:=H0 (g p) false;cases qa:eD (bI (g p)) (.int (if false then 1 else 0)) with
    | ok d=>
      rw[qa,R.aG] at ht;have e2:(g p !=false)=g p:=by cases g p <;> rfl
      rw[e2] at ht;exact aj (a:=d) (b:= .int 2) (aj (a:=bI (g p)) (b:= .int (if false then 1 else 0)) rfl (aA (ds:=[.bl false]) (az (aj (a:=nI j) (b:= .tup []) rfl rfl (MR j [])) rfl) (A2 _)) qa) rfl ht
    | no=>rw [qa] at ht;cases ht
    | ex _=>rw [qa] at ht;cases ht
   refine(show lC _ _ _ _ _=_ from this).trans ?_
   congr 1;unfold cK;rw[List.map_map];refine List.ext_getElem? fun j=>?_
   rw[List.getElem?_map,List.getElem?_zipIdx];cases(bL w0 p)[j]? <;> rfl
 .have:bL w0 p=(w0.map fun f=>f p).map bI:=by unfold bL;rw [List.map_map];rfl
  rw[this];exact AH _
 simp only[List.set];refine aX <| fF <| j6 (ds:=cK (gs.map jb)) rfl ?_
 refine(cb (fun i δ S2=>∃(X:aN) (q:Nat) (a5 a6 a7 a8 a9 BD:Option V3),S2=S++X/\S.length<=q/\S2[q]? =some (.lst (bL (vB gs (nZ T) w0 i) p))/\δ=tE (ba l gs os) (.tup ((fG c).map fun f=>bI (f p))) (bt T) q a5 a6 a7 a8 a9 BD)
  ⟨X++[SO.lst (bL w0 p)],(S++X).length,a5,a6,none,none,none,none,List.append_assoc _ _ _,by rw[List.length_append];omega,aY _ _,rfl⟩ ?_).mono fun o S2 ⟨dM,gb,X,q,b5,b6,b7,b8,b9,IG,rR,hq,hSq,hδ⟩=>⟨dM,gb,?_⟩
 .rintro i v δ S2 hv ⟨X,q,b5,b6,b7,b8,b9,IG,rfl,hq,hSq,rfl⟩;obtain⟨d,hd,rfl⟩:=pJ hv;obtain⟨g,hg,rfl⟩:=NT.l0 hd;have hil:=(List.getElem?_eq_some_iff.mp hg).1;have hlen:(vB gs (nZ T) w0 i).length=w0.length+i:=p_ i (by omega)
  refine⟨tE (ba l gs os) (.tup ((fG c).map fun f=>bI (f p))) (bt T) q b5 b6 (some (.d (nI i))) (some (.d (jb g))) b9 IG,rfl,?_⟩
  refine(Cz (by rw[hlen,hw0l];exact NO.g i g hg) hSq (by omega)).mono fun o S4 ⟨c5,c9,Vi,dd,eo,LC⟩=>⟨_,eo,(X++[SO.dct dd]).set (q - S.length) (.lst (bL (vB gs (nZ T) w0 (i+1)) p)),q,_,_,_,_,_,_,?_,hq,?_,rfl⟩
  .rw [LC,List.append_assoc,JB hq,yj hg]
  .rw [LC,List.getElem?_set_self (by have:=(List.getElem?_eq_some_iff.mp hSq).1;rw [List.length_append];omega),yj hg]
 have hen:((cK (gs.map jb)).map V3.d).length=gs.length:=by simp [cK]
 rw[hen] at hSq;subst hδ rR;unfold tE;refine eR <| w_var (v:= .loc q) rfl ⟨.loc q,rfl,?_,⟨_,rfl⟩,_,n3 hSq,?_⟩
 .show decide (S.length<=q)=true;exact decide_eq_true hq
 .rw [<-hw0] at*;exact h
end
end K41
end
section
set_option maxHeartbeats 400000
namespace K41
open PySem PySem.Spec PyProof.Rows L2 L3 MT
theorem Jf{i j:Nat}(hi:i < 1000)(hj:j < 1000):IX (.int i) (.int j)= .ok (.int ((i*2 ^ j:Nat):Int)):=by
 show R.bH (decide ((0:Int)<=j/\(j:Int) < 1000/\ -1000 < (i:Int)/\(i:Int) < 1000)) (.ok (D.int ((i:Int)*2 ^ ((j:Int)).toNat)))=_;rw[cy _ ⟨by omega,by omega,by omega,by omega⟩,Int.toNat_natCast]
 congr 2
def g7(x:Bool × Bool):D:=if x.1 then .int 0 else if x.2 then .int 1 else .cn
theorem Gm{bs:List Bool}(h:1<=bs.length/\bs.length<=3):l9 [.tup (bs.map bI)]= .ok (g7 (J6 bs)):=by
 match bs,h with
 | [a],_=>cases a <;> rfl
 | [a,b],_=>cases a <;> cases b <;> rfl
 | [a,b,c],_=>cases a <;> cases b <;> cases c <;> rfl
 | [],h=>simp at h
 | _ ::_ ::_ ::_ ::_,h=>simp at h
section
variable {c p:Nat} {l:Vt} {gs:List Gt} {os:Vu} {T:List Nat} {S:aN}
def outD(W:List M)(p:Nat)(x:Str × List Nat):D:= .tup ((x.2.map fun n=>um W n p).map bI)
def dm(W:List M)(os:Vu)(p:Nat):D:= .lst (os.map fun x=>g7 (pt W x p))
theorem Ez(NO:gY l gs os)(hc:l.length=c)(F4:c<=6)(hS:j9 S){Q:V3->aN->Prop}(h:Q (.d (.lst (os.map (outD (Wd c l gs (nZ T) []) p)))) S) :
 W3 (kl [.d (ba l gs os), .d (.tup ((fG c).map fun f=>bI (f p))), .d (bt T), .d (.tup [])] S) Q:=by
 have hz:sizeLine=16777216:=sizeLine_eq;have hml:(fG c).length=l.length:=by unfold fG;rw [List.length_map,List.length_range,hc]
 have hWl:(Wd c l gs (nZ T) []).length=rq l+gs.length:=by
  show(vB gs (nZ T) (gB l (fG c) [] l.length) gs.length).length=_;rw[p_ _ (Nat.le_refl _),lN hml _ (Nat.le_refl _),List.take_length]
 have hol:=NO.ho;unfold kl;refine f_ hS (uz rfl ?_);simp only[cz,jJ,List.map,List.length,List.replicate,List.cons_append,List.nil_append,Nat.reduceAdd,Nat.reduceSub];unfold oM;refine aX <| bB (by simp) <| eM <| aD <| cB (d:=ba l gs os) rfl <| aD <| cB (d:= .tup ((fG c).map fun f=>bI (f p))) rfl <| aD <| cB (d:=bt T) rfl <| aD <| cB (d:= .tup []) rfl <| cg ?_
 refine @Gj c p l gs os T S NO hc F4 hS _ ?_;generalize Wd c l gs (nZ T) []=W at hWl h ⊢;refine⟨_,rfl,?_⟩;simp only[List.set];refine eR <| cB (d:= .lst (os.map (outD W p))) (dA (cX (ds:=os.map BX) (jI (aj (a:=ba l gs os) (b:= .int 2) rfl rfl rfl)) (by rw[List.length_map];omega) ?_)) ⟨.d (.lst (os.map (outD W p))),rfl,by unfold fH;rfl,⟨[],by simp⟩,_,by unfold res;rfl,h⟩
 have:=NT.eA (t:=jA 2 (cG (aK 0) (cG (aK 1) jZ))) (c:=i_) (f:=aP mM (ak (eNew (d4 (d5 (ae 1)) (aK 0) i_ (e2 bW (ae 1) (ae 0)) ["wire"] [2])) aI)) (δ:=[.un, .un, .val (.lst (bL W p))]) (fun _:Str × List Nat=>true) BX (outD W p) (xs:=os) fun x hx=>⟨[.val (.str x.1), .val (.tup (x.2.map nI)), .val (.lst (bL W p))],rfl,rfl,fun _=>by
  obtain⟨h1,h2⟩:=NO.o x hx;refine aA (ds:=[.lst ((x.2.map fun n=>um W n p).map bI)]) (az (dA (cX (ds:=x.2.map nI) (zX rfl) (by rw[List.length_map];omega) ?_)) rfl) rfl
  have:=NT.eA (t:=aK 0) (c:=i_) (f:=e2 bW (ae 1) (ae 0)) (δ:=[.un, .val (.lst (bL W p))]) (fun _:Nat=>true) nI (fun n=>bI (um W n p)) (xs:=x.2) fun n hn=>⟨[.val (nI n), .val (.lst (bL W p))],rfl,rfl,fun _=>aj (a:= .lst (bL W p)) (b:=nI n) rfl rfl (Ip (by rw[hWl];exact h2 n hn))⟩
  rw[List.filter_eq_self.mpr (fun _ _=>rfl)] at this
  rw[List.map_map];exact this⟩
 rw[List.filter_eq_self.mpr (fun _ _=>rfl)] at this
 exact this
theorem oJ(NO:gY l gs os)(hc:l.length=c)(F4:c<=6)(ho:∀x∈os,1<=x.2.length/\x.2.length<=3)(hS:j9 S){Q:V3->aN->Prop}(h:Q (.d (.lst ((List.range (2 ^ c)).map (dm (Wd c l gs (nZ T) []) os)))) S) :
 W3 (dt [.d (ba l gs os), .d (bt T)] S) Q:=by
 have hz:sizeLine=16777216:=sizeLine_eq;have hpow:2 ^ c<=64:=Nat.pow_le_pow_right (by omega) (by omega:c<=6)
 have hol:=NO.ho;unfold dt;refine f_ hS (uz rfl ?_);simp only[cz,fM,List.map,List.length,List.replicate,List.cons_append,List.nil_append,Nat.reduceAdd,Nat.reduceSub];unfold kF;refine aX <| bB (by simp) <| mB (ds:=[]) rfl ⟨_,rfl,?_⟩
 simp only[List.set];refine aX <| fF <| j6 (ds:=(List.range (2 ^ c)).map nI) ?_ ?_
 .rw [<-fu];refine c0 (n:=2 ^ c) (aj (a:= .int (1:Nat)) (b:= .int c) rfl (aA (ds:=[.lst (l.map MT.inD)]) (az (aj (a:=ba l gs os) (b:= .int 0) rfl rfl rfl) rfl) (by rw[o7,List.length_map,hc])) ?_) (by omega)
  rw[Jf (by omega) (by omega),Nat.one_mul]
 refine(cb (fun i δ S2=>∃a3,S2=S++[SO.lst (((List.range (2 ^ c)).take i).map (dm (Wd c l gs (nZ T) []) os))]/\δ=[some (.d (ba l gs os)),some (.d (bt T)),some (.loc S.length),a3])
  ⟨none,by simp,rfl⟩ ?_).mono fun o S2 ⟨dM,gb,a3,rR,hδ⟩=>⟨dM,gb,?_⟩
 .rintro i v δ S2 hv ⟨a3,rfl,rfl⟩;obtain⟨p,hp,rfl⟩:=NT.ef hv;have hpc:p < 2 ^ c:=List.mem_range.mp (List.mem_of_getElem? hp);have hil:i < 2 ^ c:=by
   have:=(List.getElem?_eq_some_iff.mp hp).1;simpa using this
  refine⟨[some (.d (ba l gs os)),some (.d (bt T)),some (.loc S.length),some (.d (nI p))],rfl,?_⟩;unfold mD;have hcl:j9 (S++[SO.lst (((List.range (2 ^ c)).take i).map (dm (Wd c l gs (nZ T) []) os))]):=j9.push hS fun _=>rfl
  have hbits:g9 [ba l gs os,nI p]= .ok (.tup ((fG c).map fun f=>bI (f p))):=by rw[Hi (by omega),hc,F8 hpc]
  refine my (k:=S.length) rfl ⟨_,aY _ _⟩ <| iE (fun j ds S2=>S2=S++[SO.lst (((List.range (2 ^ c)).take i).map (dm (Wd c l gs (nZ T) []) os))]/\ds=(os.take j).map fun x=>g7 (pt (Wd c l gs (nZ T) []) x p)) (nQ <| eM <| aD <| cB (d:=ba l gs os) rfl <| aD <| cB (d:= .tup ((fG c).map fun f=>bI (f p))) (aA (ds:=[ba l gs os,nI p]) rfl hbits) <| aD <| cB (d:=bt T) rfl <| aD <| cB (d:= .tup []) (cZ rfl (by simp)) <| cg ?_)
  refine @Ez c p l gs os T _ NO hc F4 hcl _ ?_;generalize Wd c l gs (nZ T) []=W;refine⟨_,rfl,by rw[List.length_map,List.length_map];omega,⟨rfl,by simp⟩,?_,?_⟩
  .rintro j u ds S3 hu ⟨rfl,rfl⟩;obtain⟨x,hx,rfl⟩:=NT.ef hu;have hxo:=ho x (List.mem_of_getElem? hx);refine⟨[some (.d (outD W p x))],rfl,t5 ?_⟩;rw[if_pos rfl];refine cB (d:=g7 (pt W x p)) (aA (ds:=[outD W p x]) rfl ?_) ⟨_,rfl,rfl,?_⟩
   .unfold outD;rw[Gm (by rw[List.length_map];exact hxo)]
    unfold pt tell;rw[List.map_map];rfl
   .rw [List.take_add_one,hx,List.map_append];rfl
  .rintro ds S3 ⟨rfl,rfl⟩;rw[List.length_map,List.length_map,List.take_length];refine⟨dm W os p,_,rfl,aY _ _,by rw[List.length_map,List.length_take];omega,_,rfl,_,?_,rfl⟩
   rw[dH,List.take_add_one,hp,List.map_append];rfl
 subst hδ rR;rw[List.length_map,List.length_map,List.take_of_length_le (by simp)]
 refine eR <| w_var (v:= .loc S.length) rfl ⟨.loc S.length,rfl,?_,⟨_,rfl⟩,_,n3 (aY _ _),h⟩
 show decide (S.length<=S.length)=true;exact decide_eq_true (Nat.le_refl _)
end
end K41
end
section
namespace K41
open PySem PySem.Spec PyProof.Rows L2 L3 MT
def lK(x:Bool × Bool):Option Bool:=if x.1 then some false else if x.2 then some true else none
def nR(safe:Bool)(x y:Bool × Bool):Bool:=(lK y !=lK x) && (!safe || (lK y).isSome)
theorem Ia(x y:Bool × Bool):yR (g7 y) (g7 x)= .ok (.bl (lK y !=lK x)):=by
 obtain⟨a,b⟩:=x;obtain⟨c,d⟩:=y;cases a <;> cases b <;> cases c <;> cases d <;> rfl
theorem EJ(y:Bool × Bool):vY (g7 y) .cn= .ok (.bl (lK y).isSome):=by
 obtain⟨c,d⟩:=y;cases c <;> cases d <;> rfl
theorem wW{safe:Bool}{x y:Bool × Bool}(hx:x.2=!x.1)(hy:(y.1 && y.2)=false):nR safe x y=brk safe x y:=by
 obtain⟨a,b⟩:=x;obtain⟨c,d⟩:=y;have hx:b=!a:=hx;have hy:(c && d)=false:=hy;subst hx;cases a <;> cases c <;> cases d <;> cases safe <;> first | rfl | (cases hy)
theorem tj(xs:List Bool):((J6 xs).1 && (J6 xs).2)=false:=by
 unfold J6;split
 .rename_i a;cases a <;> rfl
 .rename_i a b;cases a <;> cases b <;> rfl
 .rename_i a b c;cases a <;> cases b <;> cases c <;> rfl
 .rfl
theorem DO(safe:Bool):kG (.str (mv safe)) (.str "right")= .ok (.bl (!safe)):=by cases safe <;> rfl
theorem sT{α:Type}(f g:α->D):∀xs:List α,j7 (xs.map f) (xs.map g)=xs.map fun x=> .tup [f x,g x]
 | []=>rfl
 | x ::xs=>by
   unfold j7;rw[List.map_cons,List.map_cons,List.zip_cons_cons,List.map_cons,List.map_cons];congr 1;exact sT f g xs
theorem yF{α:Type}(q:α->Bool)(d:D):∀xs:List α,(xs.findSome? fun x=>if q x then some d else none)=if xs.any q then some d else none
 | []=>rfl
 | x ::xs=>by
   rw[List.findSome?_cons,List.any_cons];cases q x with
   | true=>rfl
   | false=>exact yF q d xs
section
variable {os:Vu} {W0 W1:List M} {safe:Bool} {N:Nat}
def lE(A B lv:D)(a3 a4 a5:Sl):av:=[.val A, .val B, .val lv,a3,a4,a5]
end
end K41
end
section
namespace K41
open PySem PySem.Spec PyProof.Rows L2 L3 MT
theorem Iy{ds es:List D}(h:ds.length+es.length<=sizeLine):kq (.lst ds) (.lst es)= .ok (.lst (ds++es)):=cy _ h
theorem Am{free s:List Nat}(hf:free.length<=12)(hs:s.length<=12):lC (aK 0) (Il (b2 kG (ae 1) (dX aI)) (b2 Ku (ae 0) (e2 bW (ae 1) (IV (eC (.int 1)))))) (e2 kq (ae 1) (dX (ak (ae 0) aI))) [.un, .val (bt s)] (free.map nI)= .ok (((free.filter (okN s)).map fun o=>s++[o]).map bt):=by
 have hz:sizeLine=16777216:=sizeLine_eq;rw[List.map_map];refine NT.eA (okN s) nI _ fun o ho=>⟨[.val (nI o), .val (bt s)],rfl,?_,fun _=>?_⟩
 .have e1:b2 kG (ae 1) (dX aI) [.val (nI o), .val (bt s)]= .ok s.isEmpty:=eE (a:=bt s) (b:= .tup []) rfl (cZ rfl (by simp)) (eq_nil s)
  unfold Il;rw[e1,R.aG];cases hl:s.getLast? with
  | none=>
    have:s=[]:=List.getLast?_eq_none_iff.mp hl;subst this;rfl
  | some l=>
    have FP:s.isEmpty=false:=by
     cases s with
     | nil=>cases hl
     | cons _ _=>rfl
    rw[FP,if_neg (by decide)]
    have:okN s o=decide (o > l):=by unfold okN;rw [hl]
    rw[this];refine eE (a:=nI o) (b:=nI l) rfl (aj (a:=bt s) (b:= .int (-1)) rfl rfl (Ge hl (by omega))) ?_
    show R.ok (D.bl (decide ((o:Int) > (l:Int))))=_;congr 2;by_cases q:o > l
    .rw [decide_eq_true q,decide_eq_true (by omega)]
    .rw [decide_eq_false q,decide_eq_false (by omega)]
 .refine aj (a:=bt s) (b:= .tup [nI o]) rfl (cZ rfl (by simp;omega)) ?_
  show kq (.tup (s.map nI)) (.tup [nI o])= .ok (.tup ((s++[o]).map nI));rw[List.map_append];exact Dc (by rw[List.length_map];simp;omega)
def jE(fr mm:D)(a2 a3 a4 a5 a6:Sl):av:=[.val fr, .val mm,a2,a3,a4,a5,a6]
theorem Ga{free:List Nat}{m:Nat}(TJ:free.Pairwise (· < ·))(IB:free.length<=12)(hm:m<=12):jG [.lst (free.map nI),nI m]= .ok (.lst ((pI free m).map bt)):=by
 have hz:sizeLine=16777216:=sizeLine_eq;have hC:∀s,(iR free s).length<=4096:=fun s=>Nat.le_trans (m5 s free) (Nat.le_trans (Nat.pow_le_pow_right (by omega) IB) (by decide))
 unfold jG sQ;obtain⟨dj,e1,a4,a5,a6,hδ⟩:=jn (t:=aK 4) (body:=l8) (ds:=(List.range m).map nI)
  (fun i δ=>∃a4 a5 a6,δ=jE (.lst (free.map nI)) (nI m) (.val (.lst ((pI free i).map bt))) (.val (.lst ((iR free i).map bt))) a4 a5 a6) (δ:=jE (.lst (free.map nI)) (nI m) (.val (.lst [.tup []])) (.val (.lst [.tup []])) .un .un .un) ⟨.un, .un, .un,rfl⟩ (by
    rintro i d δ hd ⟨a4,a5,a6,rfl⟩;obtain⟨k,hk,rfl⟩:=NT.l0 hd;have him:i < m:=by
     have:=(List.getElem?_eq_some_iff.mp hk).1;simpa using this
    rw[show aK 4 (nI k) (jE (.lst (free.map nI)) (nI m) (.val (.lst ((pI free i).map bt))) (.val (.lst ((iR free i).map bt))) a4 a5 a6)= .ok (jE (.lst (free.map nI)) (nI m) (.val (.lst ((pI free i).map bt))) (.val (.lst ((iR free i).map bt))) (.val (nI k)) a5 a6) from rfl,R.aG]
    unfold l8;have hAi:=xS IB i;have hCi:=hC i;have hCn:=hC (i+1);have hmore:=yE i free TJ;have hsu:=vm free i;have hsl:∀s∈iR free i,s.length=i:=fun s hs=>(wD hs).1
    generalize iR free (i+1)=C1 at hCn hmore hsu;generalize pI free i=Ai at hAi hsu;generalize iR free i=Ci at hCi hmore hsl
    let F:Nat->Vv:=fun j=>(Ci.take j).flatMap fun s=>(free.filter (okN s)).map fun o=>s++[o]
    have hFl:∀j,(F j).length<=4096:=fun j=>by
     have h1:C1=F j++(Ci.drop j).flatMap fun s=>(free.filter (okN s)).map fun o=>s++[o]:=by
      rw[hmore,<-List.flatMap_append,List.take_append_drop]
     have h2:=congrArg List.length h1;rw[List.length_append] at h2;omega
    obtain⟨dM,gb,c6,CS⟩:=jn (t:=aK 6) (body:=mf) (ds:=Ci.map bt)
     (fun j δ=>∃c6,δ=jE (.lst (free.map nI)) (nI m) (.val (.lst (Ai.map bt))) (.val (.lst (Ci.map bt))) (.val (nI k)) (.val (.lst ((F j).map bt))) c6) (δ:=jE (.lst (free.map nI)) (nI m) (.val (.lst (Ai.map bt))) (.val (.lst (Ci.map bt))) (.val (nI k)) (.val (.lst [])) a6) ⟨a6,rfl⟩ (by
       rintro j d δ hd ⟨c6,rfl⟩;obtain⟨s,hs,rfl⟩:=NT.l0 hd;have hsi:=hsl s (List.mem_of_getElem? hs);have hFs:F (j+1)=F j++(free.filter (okN s)).map fun o=>s++[o]:=by
        show(Ci.take (j+1)).flatMap _=_;rw[List.take_add_one,hs,List.flatMap_append];simp [F]
       have hb:=hFl (j+1);rw[hFs,List.length_append] at hb;rw[show aK 6 (bt s) (jE (.lst (free.map nI)) (nI m) (.val (.lst (Ai.map bt))) (.val (.lst (Ci.map bt))) (.val (nI k)) (.val (.lst ((F j).map bt))) c6)= .ok (jE (.lst (free.map nI)) (nI m) (.val (.lst (Ai.map bt))) (.val (.lst (Ci.map bt))) (.val (nI k)) (.val (.lst ((F j).map bt))) (.val (bt s))) from rfl,R.aG]
       unfold mf;refine⟨_,eu (d:= .lst ((F (j+1)).map bt)) (aj (a:= .lst ((F j).map bt)) (b:= .lst (((free.filter (okN s)).map fun o=>s++[o]).map bt)) rfl (dA (cX (ds:=free.map nI) (jI rfl) (by rw[List.length_map];omega) (Am IB (by omega)))) ?_) (by simp [jE]),_,rfl⟩
       rw[hFs,List.map_append];exact Iy (by rw[List.length_map,List.length_map];omega))
    rw[List.length_map] at CS;have hFe:F Ci.length=C1:=by
     show(Ci.take Ci.length).flatMap _=_;rw[List.take_length,hmore]
    rw[hFe] at CS;subst CS;refine⟨_,bp (eu (d:= .lst []) rfl (by simp [jE])) (bp (jc (ds:=Ci.map bt) (jI rfl) gb) (bp (eu (d:= .lst ((Ai++C1).map bt)) (aj (a:= .lst (Ai.map bt)) (b:= .lst (C1.map bt)) rfl rfl ?_) (by simp [jE])) (eu (d:= .lst (C1.map bt)) rfl (by simp [jE])))),?_⟩
    .rw [List.map_append];refine Iy ?_;rw[List.length_map,List.length_map];have:(i+1)*4096<=13*4096:=Nat.mul_le_mul_right _ (by omega)
     omega
    .rw [hsu];exact⟨_,_,_,rfl⟩)
 rw[List.length_map,List.length_range] at hδ;subst hδ;refine cN (bp (eu (d:= .lst [.tup []]) rfl (by simp [dq,jU])) (bp (eu (d:= .lst [.tup []]) rfl (by simp [dq,jU])) (bp (jc (ds:=(List.range m).map nI) ?_ e1) (cm rfl))))
 rw[<-fu];exact c0 (n:=m) rfl (by omega)
section
variable {c m:Nat} {l:Vt} {gs:List Gt} {os:Vu} {safe:Bool} {S:aN}
def Kh(c:Nat)(l:Vt)(gs:List Gt)(os:Vu):Prop:=∀x∈os,∀p,p < 2 ^ c->(pt (Wd c l gs [] []) x p).2=!(pt (Wd c l gs [] []) x p).1
end
end K41
end
section
namespace K41
open PySem PySem.Spec PyProof.Rows L2 L3 MT
theorem tu{α:Type}(p:α->Bool)(g:α->D):∀xs:List α,(xs.findSome? fun x=>if p x then some (g x) else none)=(xs.find? p).map g
 | []=>rfl
 | x ::xs=>by
   rw[List.findSome?_cons,List.find?_cons];cases p x with
   | true=>rfl
   | false=>exact tu p g xs
section
variable {os:Vu} {W0 W1:List M} {safe:Bool} {N:Nat}
theorem BJ(hN:N<=64)(ho:os.length < 1000):gh [.lst ((List.range N).map (dm W0 os)), .lst ((List.range N).map (dm W1 os)), .str (mv safe)]= .ok (match (List.range N).find? (fun p=>os.any fun x=>nR safe (pt W0 x p) (pt W1 x p)) with | some p=>nI p | none=> .cn):=by
 have hz:sizeLine=16777216:=sizeLine_eq;unfold gh pE;generalize hA:D.lst ((List.range N).map (dm W0 os))=A;generalize hB:D.lst ((List.range N).map (dm W1 os))=B;have ixA:∀p,p < N->bW A (nI p)= .ok (dm W0 os p):=fun p hp=>by rw[<-hA];exact NT.iA (by rw[List.getElem?_map,List.getElem?_range hp];rfl)
 have ixB:∀p,p < N->bW B (nI p)= .ok (dm W1 os p):=fun p hp=>by rw[<-hB];exact NT.iA (by rw[List.getElem?_map,List.getElem?_range hp];rfl)
 have lenA:gU [A]= .ok (nI N):=by rw[<-hA,o7,List.length_map,List.length_range];rfl
 obtain⟨o,e,h⟩:=o8 (t:=aK 3) (body:=jP) nI (fun p=>if os.any (fun x=>nR safe (pt W0 x p) (pt W1 x p)) then some (nI p) else none) (fun δ=>∃a3 a4 a5,δ=lE A B (.str (mv safe)) a3 a4 a5) (xs:=List.range N) (δ:=lE A B (.str (mv safe)) .un .un .un) ⟨_,_,_,rfl⟩ (by
  rintro p hp δ ⟨a3,a4,a5,rfl⟩;rw[List.mem_range] at hp;rw[show aK 3 (nI p) (lE A B (.str (mv safe)) a3 a4 a5)= .ok (lE A B (.str (mv safe)) (.val (nI p)) a4 a5) from rfl,R.aG]
  unfold jP;obtain⟨o,e,h⟩:=o8 (t:=jA 2 (cG (aK 4) (cG (aK 5) jZ))) (body:=jw) (fun x=> .tup [g7 (pt W0 x p),g7 (pt W1 x p)]) (fun x=>if nR safe (pt W0 x p) (pt W1 x p) then some (nI p) else none) (fun δ=>∃a4 a5,δ=lE A B (.str (mv safe)) (.val (nI p)) a4 a5) (xs:=os) (δ:=lE A B (.str (mv safe)) (.val (nI p)) a4 a5) ⟨_,_,rfl⟩ (by
   rintro x hx δ ⟨a4,a5,rfl⟩;generalize pt W0 x p=X;generalize pt W1 x p=Y;rw[show jA 2 (cG (aK 4) (cG (aK 5) jZ)) (.tup [g7 X,g7 Y]) (lE A B (.str (mv safe)) (.val (nI p)) a4 a5)= .ok (lE A B (.str (mv safe)) (.val (nI p)) (.val (g7 X)) (.val (g7 Y))) from rfl,R.aG]
   unfold jw;have hc:CO (b2 yR (ae 5) (ae 4)) (Il (b2 kG (ae 2) (eC (.str "right"))) (b2 vY (ae 5) (eC .cn))) (lE A B (.str (mv safe)) (.val (nI p)) (.val (g7 X)) (.val (g7 Y)))= .ok (nR safe X Y):=by
    unfold CO Il nR;rw[eE (a:=g7 Y) (b:=g7 X) rfl rfl (Ia X Y),R.aG];cases lK Y !=lK X with
    | false=>rfl
    | true=>
      rw[if_pos rfl,eE (a:= .str (mv safe)) (b:= .str "right") rfl rfl (DO safe),R.aG];cases safe with
      | false=>rfl
      | true=>
        rw[if_neg (by decide),eE (a:=g7 Y) (b:= .cn) rfl rfl (EJ Y)]
        rfl
   cases q:nR safe X Y with
   | true=>rw [q] at hc;exact⟨_,mP hc (cm rfl),rfl⟩
   | false=>rw [q] at hc;exact⟨_,gg hc rfl,_,rfl,_,_,rfl⟩)
  rw[yF] at h;refine⟨o,jc (ds:=os.map fun x=> .tup [g7 (pt W0 x p),g7 (pt W1 x p)]) ?_ e,?_⟩
  .unfold vK;rw[aj (a:=A) (b:=nI p) rfl rfl (ixA p hp),R.aG,aj (a:=B) (b:=nI p) rfl rfl (ixB p hp),R.aG];show R.ok (j7 _ _)=_;rw[sT]
  .cases q:os.any (fun x=>nR safe (pt W0 x p) (pt W1 x p)) with
   | true=>rw [q] at h;exact h
   | false=>rw [q] at h;obtain⟨dM,gb,b4,b5,e3⟩:=h;exact⟨dM,gb,_,b4,b5,e3⟩)
 have hit:cT (aP gU (ak (ae 0) aI)) (lE A B (.str (mv safe)) .un .un .un)= .ok ((List.range N).map nI):=by
  rw[<-fu];exact c0 (n:=N) (aA (ds:=[A]) rfl lenA) (by omega)
 rw[tu (fun p=>os.any fun x=>nR safe (pt W0 x p) (pt W1 x p)) nI] at h
 cases q:(List.range N).find? (fun p=>os.any fun x=>nR safe (pt W0 x p) (pt W1 x p)) with
 | none=>
   rw[q] at h;obtain⟨dM,rfl,b3,b4,b5,rfl⟩:=h;exact cN (bp (jc hit e) (cm rfl))
 | some p=>
   rw[q] at h;subst h;exact cN (NT.jh (jc hit e))
end
theorem tI{α:Type}{p q:α->Bool}:∀{xs:List α},(∀x∈xs,p x=q x)->xs.find? p=xs.find? q
 | [],_=>rfl
 | x ::xs,h=>by
   rw[List.find?_cons,List.find?_cons,h x List.mem_cons_self,tI fun y hy=>h y (List.mem_cons_of_mem _ hy)]
section
variable {c m:Nat} {l:Vt} {gs:List Gt} {os:Vu} {safe:Bool} {S:aN}
theorem E5(h:Kh c l gs os)(T:List Nat):(List.range (2 ^ c)).find? (fun p=>os.any fun x=>nR safe (pt (Wd c l gs [] []) x p) (pt (Wd c l gs (nZ T) []) x p))=((List.range (2 ^ c)).filter (xl safe c l gs os (nZ T))).head?:=by
 rw[List.head?_filter];refine tI fun p hp=>?_
 rw[List.mem_range] at hp;unfold xl;rw[Bool.eq_iff_iff,List.any_eq_true,List.any_eq_true];constructor
 .rintro⟨x,hx,h1⟩;rw[wW (h x hx p hp) (by unfold pt;exact tj _)] at h1
  exact⟨x,hx,h1⟩
 .rintro⟨x,hx,h1⟩;rw[<-wW (h x hx p hp) (by unfold pt;exact tj _)] at h1
  exact⟨x,hx,h1⟩
end
end K41
end
section
namespace K41
open PySem PySem.Spec PyProof.Rows L2 L3 MT
theorem Qo{α:Type}(f:List Nat->Option α):∀(a b:Vv),(a++b).findSome? f=(match a.findSome? f with | some d=>some d | none=>b.findSome? f)
 | [],_=>rfl
 | x ::a,b=>by
   rw[List.cons_append,List.findSome?_cons,List.findSome?_cons,Qo f a b];cases f x <;> rfl
theorem QK{α:Type}(f:List Nat->Option α)(g:Nat->Vv):∀xs:List Nat,(xs.flatMap g).findSome? f=xs.findSome? fun s=>(g s).findSome? f
 | []=>rfl
 | x ::xs=>by
   rw[List.flatMap_cons,Qo,List.findSome?_cons,QK f g xs];cases(g x).findSome? f <;> rfl
section
variable {c m:Nat} {l:Vt} {gs:List Gt} {os:Vu} {safe:Bool} {S:aN}
theorem BW:bears safe c l gs os m=((pI (lS gs) m).findSome? (kN safe c l gs os)).getD rn:=by
 unfold bears pI;rw[QK]
def vx(c:Nat)(l:Vt)(gs:List Gt)(os:Vu)(T:List Nat):D:= .lst ((List.range (2 ^ c)).map (dm (Wd c l gs (nZ T) []) os))
theorem Kt(NO:gY l gs os)(hc:l.length=c)(F4:c<=6)(ho:∀x∈os,1<=x.2.length/\x.2.length<=3)(Le:Kh c l gs os)(hg:gs.length<=11)(hm:m<=3)(hS:j9 S){Q:V3->aN->Prop}
 (h:Q (.d (bears safe c l gs os m)) S):W3 (oB [.d (ba l gs os), .d (vx c l gs os []), .d (nI m), .d (.str (mv safe))] S) Q:=by
 have hz:sizeLine=16777216:=sizeLine_eq;have hO:=NO.ho;have hpow:2 ^ c<=64:=Nat.pow_le_pow_right (by omega) (by omega:c<=6)
 have IB:(lS gs).length<=12:=Nat.le_trans wy (by omega)
 unfold oB;refine f_ hS (uz rfl ?_);simp only[cz,lP,List.map,List.length,List.replicate,List.cons_append,List.nil_append,Nat.reduceAdd,Nat.reduceSub];unfold qw;refine aX <| bB (by simp) <| iE (fun j ds S2=>S2=S/\ds=((((List.range gs.length).take j).filter fun i=>match gs[i]? with | some g=>!g.2.2 | none=>false)).map nI) (j6 (ds:=(List.range gs.length).map nI) ?_ ⟨by rw[List.length_map,List.length_map,List.length_range];omega,⟨rfl,by simp⟩,?_,?_⟩)
 .rw [<-fu];exact c0 (n:=gs.length) (aA (ds:=[.lst (gs.map jb)]) (az (aj (a:=ba l gs os) (b:= .int 1) rfl rfl rfl) rfl) (by rw[o7,List.length_map])) (by omega)
 .rintro j v ds S2 hv ⟨rfl,rfl⟩;obtain⟨k,hk,rfl⟩:=NT.ef hv;have hkg:k < gs.length:=List.mem_range.mp (List.mem_of_getElem? hk);have hgk:gs[k]? =some gs[k]:=List.getElem?_eq_getElem hkg;refine⟨[some (.d (nI k)),some (.d (ba l gs os))],rfl,sZ (b:=!gs[k].2.2) ?_ ?_⟩
  .unfold wg v_;rw[aj (a:=jb gs[k]) (b:= .int 2) (aj (a:= .lst (gs.map jb)) (b:=nI k) (aj (a:=ba l gs os) (b:= .int 1) rfl rfl rfl) rfl (NT.iA (by rw[List.getElem?_map,hgk];rfl))) rfl (show bW (jb gs[k]) (.int 2)= .ok (.bl gs[k].2.2) from rfl)]
   rfl
  rw[List.take_add_one,hk,show(some k).toList=[k] from rfl,List.filter_append]
  have e:([k].filter fun i=>match gs[i]? with | some g=>!g.2.2 | none=>false)=if !gs[k].2.2 then [k] else []:=by
   rw[List.filter_cons,hgk];rfl
  rw[e];cases gs[k].2.2 with
  | false=>
    rw[if_pos (by decide)]
    exact cB (d:=nI k) rfl ⟨_,rfl,rfl,by rw[if_pos (by decide),List.map_append];rfl⟩
  | true=>
    rw[if_neg (by decide)]
    exact⟨rfl,by rw[if_neg (by decide),List.append_nil]⟩
 rintro ds S2 ⟨rfl,rfl⟩;rw[List.length_map,List.length_map,List.length_range,List.take_of_length_le (by simp)]
 refine⟨_,rfl,?_⟩;simp only[List.set];show W3 (bA _ _ [some (.d (ba l gs os)),some (.d (vx c l gs os [])),some (.d (nI m)),some (.d (.str (mv safe))),some (.d (.lst ((lS gs).map nI))),none,none] S2) _;refine qG <| fF <| j6 (ds:=(pI (lS gs) m).map bt) (jI (aA (ds:=[.lst ((lS gs).map nI),nI m]) rfl (Ga (zZ gs) IB (by omega)))) ?_
 rw[BW] at h;generalize hPl:vx c l gs os []=Pl;generalize (lS gs).map nI=us;generalize pI (lS gs) m=A at h;rw[List.map_map];refine(me (S:=S2) (V3.d ∘ bt) (fun T=>(kN safe c l gs os T).map V3.d) (fun δ=>∃a5 a6,δ=[some (.d (ba l gs os)),some (.d Pl),some (.d (nI m)),some (.d (.str (mv safe))),some (.d (.lst us)),a5,a6])
  ⟨_,_,rfl⟩ ?_).mono fun o S1 ⟨e1,h1⟩=>?_
 .rintro T hT δ ⟨a5,a6,rfl⟩;refine⟨[some (.d (ba l gs os)),some (.d Pl),some (.d (nI m)),some (.d (.str (mv safe))),some (.d (.lst us)),some (.d (bt T)),a6],rfl,?_⟩;unfold rm;have hd:=BJ (os:=os) (W0:=Wd c l gs [] []) (W1:=Wd c l gs (nZ T) []) (safe:=safe) (N:=2 ^ c) hpow hO;rw[E5 Le T] at hd;refine aX <| bB (by simp) <| nY <| aD <| cB (d:=Pl) rfl <| aD <| eM <| aD <| cB (d:=ba l gs os) rfl <| aD <| cB (d:=bt T) rfl <| cg ?_
  refine @oJ c l gs os T _ NO hc F4 ho hS _ ?_;refine aD <| cB (d:= .str (mv safe)) rfl <| cg ⟨[Pl,vx c l gs os T, .str (mv safe)],_,rfl,by rw[<-hPl];exact hd,_,rfl,?_⟩
  simp only[List.set];unfold kN;cases((List.range (2 ^ c)).filter (xl safe c l gs os (nZ T))).head? with
  | none=>
    refine sj <| sZ (b:=false) (eE (a:= .cn) (b:= .cn) rfl rfl rfl) ?_
    rw[if_neg (by decide)]
    exact ni ⟨rfl,_,rfl,_,_,rfl⟩
  | some p=>
    refine sj <| sZ (b:=true) (eE (a:=nI p) (b:= .cn) rfl rfl rfl) ?_
    rw[if_pos rfl];exact eR <| cB (d:=C8 T p) (cZ (ds:=[.str "breaks",bt T,nI p]) rfl (by simp;omega)) ⟨rfl,rfl⟩
 .subst e1;have hfs:A.findSome? (fun T=>(kN safe c l gs os T).map V3.d)=(A.findSome? (kN safe c l gs os)).map V3.d:=by
   rw[List.map_findSome?];rfl
  rw[hfs] at h1;cases htt:A.findSome? (kN safe c l gs os) with
  | none=>
    rw[htt] at h1 h;obtain⟨dM,rfl,b5,b6,rfl⟩:=h1;exact eR <| cB (d:=rn) (cZ rfl (by simp;omega)) ⟨.d rn,rfl,by unfold fH;rfl,⟨[],by simp⟩,rn,by unfold res;rfl,h⟩
  | some d=>
    rw[htt] at h1 h;subst h1;exact⟨.d d,rfl,by unfold fH;rfl,⟨[],by simp⟩,d,by unfold res;rfl,h⟩
end
end K41
end
section
set_option maxHeartbeats 4000000
namespace K41
open PySem PySem.Spec PyProof.Rows L2 L3 MT
theorem zH{N p:Nat}{f g:M}(hp:p < N):lx [.tup [mI N f,mI N g], .int p]= .ok (g7 (f p,g p)):=by
 unfold lx u6 g7;have b0:b2 kG (aP fL (ak (e2 bW (ae 0) (eC (.int 0))) (ak (ae 1) aI))) (eC (.int 1)) (dq ll [.tup [mI N f,mI N g], .int p])= .ok (f p):=by
  refine eE (a:= .int (if decide (p < N) && f p then 1 else 0)) (b:= .int 1) (aA (ds:=[mI N f, .int (p:Nat)]) (az (aj (a:= .tup [mI N f,mI N g]) (b:= .int 0) rfl rfl zS) rfl) zg) rfl ?_
  rw[decide_eq_true hp];cases f p <;> rfl
 have b1:b2 kG (aP fL (ak (e2 bW (ae 0) (eC (.int 1))) (ak (ae 1) aI))) (eC (.int 1)) (dq ll [.tup [mI N f,mI N g], .int p])= .ok (g p):=by
  refine eE (a:= .int (if decide (p < N) && g p then 1 else 0)) (b:= .int 1) (aA (ds:=[mI N g, .int (p:Nat)]) (az (aj (a:= .tup [mI N f,mI N g]) (b:= .int 1) rfl rfl CK) rfl) zg) rfl ?_
  rw[decide_eq_true hp];cases g p <;> rfl
 show rV ll _ _= .ok (if f p then _ else if g p then _ else _)
 cases q0:f p with
 | true=>rw [q0] at b0;exact cN (NT.jh (mP b0 (cm rfl)))
 | false=>
   rw[q0] at b0;cases q1:g p with
   | true=>rw [q1] at b1;exact cN (bp (gg b0 rfl) (NT.jh (mP b1 (cm rfl))))
   | false=>rw [q1] at b1;exact cN (bp (gg b0 rfl) (bp (gg b1 rfl) (cm rfl)))
section
variable {c:Nat} {ins:Vt} {gs:List Gt} {os:Vu} {S:aN}
theorem Cd{k:Nat}{nt:D}{f g:M}(hc:c<=10)(hS:j9 S)(hb:S[k]? =some (.ins 0 (cD c nt))){Q:V3->aN->Prop}(h:Q (.d (.lst ((List.range (2 ^ c)).map fun p=>g7 (f p,g p)))) S) :
 W3 (fU [.loc k, .d (.tup [mI (2 ^ c) f,mI (2 ^ c) g])] S) Q:=by
 have hz:sizeLine=16777216:=sizeLine_eq;have hp:2 ^ c<=1024:=Nat.pow_le_pow_right (by omega) hc
 unfold fU;refine f_ hS (uz rfl ?_);simp only[cz,eY,List.map,List.length,List.replicate,List.cons_append,List.nil_append,Nat.reduceAdd,Nat.reduceSub];unfold jT;refine eR <| iE (fun j ds S2=>S2=S/\ds=(List.range j).map fun p=>g7 (f p,g p)) ?_
 refine D4 <| w_fld (k:=k) <| w_var (v:= .loc k) rfl ⟨_,_,rfl,hb,Bu,2 ^ c,rfl,by omega,?_⟩
 have hlen:((hX 0 (2 ^ c)).map V3.d).length=2 ^ c:=by simp [hX]
 rw[hlen];refine⟨by omega,⟨rfl,rfl⟩,?_,?_⟩
 .rintro j v ds S2 hv ⟨rfl,rfl⟩;obtain⟨hj,rfl⟩:=NT.Fh hv;refine⟨[some (.d (.int j)),some (.d (.tup [mI (2 ^ c) f,mI (2 ^ c) g]))],rfl,t5 ?_⟩;rw[if_pos rfl,List.range_succ,List.map_append];exact cB (d:=g7 (f j,g j)) (aA (ds:=[.tup [mI (2 ^ c) f,mI (2 ^ c) g], .int j]) rfl (zH hj)) ⟨_,rfl,rfl,rfl⟩
 .rintro ds S2 ⟨rfl,rfl⟩;exact⟨_,rfl,by unfold fH;rfl,⟨[],by simp⟩,_,by unfold res;rfl,h⟩
def EZ(c:Nat)(ins:Vt)(gs:List Gt)(os:Vu):D:= .lst (os.map fun x=> .lst ((List.range (2 ^ c)).map fun p=>g7 (pt (Wd c ins gs [] []) x p)))
theorem xt(NO:gY ins gs os)(hc:ins.length=c)(uq:c<=10)(ho:∀x∈os,1<=x.2.length/\x.2.length<=3)(hS:j9 S){Q:V3->aN->Prop}(h:Q (.d (EZ c ins gs os)) S) :
 W3 (oV [.d (ba ins gs os)] S) Q:=by
 have hz:sizeLine=16777216:=sizeLine_eq;have hO:=NO.ho;unfold oV;refine f_ hS (uz rfl ?_);simp only[cz,lO,List.map,List.length,List.replicate,List.cons_append,List.nil_append,Nat.reduceAdd,Nat.reduceSub];unfold qm;have hc0:∀fs:List (Str × V3),g6 (S.length+1) (fs.map (·.2))=true->j9 (S++[.ins 0 fs]):=fun fs hf o FC=>by
  rw[show(S++[SO.ins 0 fs]).length=S.length+1 by simp]
  rcases List.mem_append.mp FC with q | q
  .exact nP (by omega) o (hS o q)
  .rw [List.mem_singleton.mp q];exact hf
 have hb:(S++[SO.ins 0 (cD c (ba ins gs os))])[S.length]? =some (.ins 0 (cD c (ba ins gs os))):=aY _ _;have hcl:j9 (S++[SO.ins 0 (cD c (ba ins gs os))]):=hc0 _ rfl;refine aX <| bB (by simp) <| sk <| aD <| cB (d:=ba ins gs os) rfl <| cg <| vZ hc uq (hc0 _ rfl) ⟨rfl,_,rfl,?_⟩
 simp only[List.set];refine eR <| iE (fun j ds S2=>S2=S++[SO.ins 0 (cD c (ba ins gs os))]/\ds=(os.map fun x=>D.lst ((List.range (2 ^ c)).map fun p=>g7 (pt (Wd c ins gs [] []) x p))).take j) ?_
 refine nQ <| iW (k:=S.length) <| w_var (v:= .loc S.length) rfl ⟨_,rfl,hb,wX _ _ (by decide+kernel) (by decide+kernel) (by decide+kernel) (by decide+kernel),?_⟩
 refine aD <| cB (d:= .tup (([]:List Int).map .int)) rfl <| cg <| ku NO hc ho hcl hb ⟨_,rfl,?_,⟨rfl,by simp⟩,?_,?_⟩
 .rw [List.length_map,y7,List.length_map];omega
 .rintro j v ds S2 hv ⟨rfl,rfl⟩;rw[y7] at hv;obtain⟨x,hx,rfl⟩:=NT.ef hv;refine⟨[some (.d (.tup [mI (2 ^ c) (r0 (tell (Wd c ins gs [] []) x)),mI (2 ^ c) (r1 (tell (Wd c ins gs [] []) x))])),some (.loc S.length)],rfl,t5 ?_⟩;rw[if_pos rfl];refine iW (k:=S.length) <| w_var (v:= .loc S.length) rfl ⟨_,rfl,hb,wX _ _ (by decide+kernel) (by decide+kernel) (by decide+kernel) (by decide+kernel),?_⟩
  refine aD <| cB (d:= .tup [mI (2 ^ c) (r0 (tell (Wd c ins gs [] []) x)),mI (2 ^ c) (r1 (tell (Wd c ins gs [] []) x))]) rfl <| cg <| Cd uq hcl hb ⟨_,rfl,rfl,?_⟩
  rw[List.take_add_one,List.getElem?_map,hx];rfl
 .rintro ds S2 ⟨rfl,rfl⟩;rw[List.length_map,y7,List.length_map,List.take_of_length_le (by rw[List.length_map];exact Nat.le_refl _)]
  exact⟨_,rfl,by unfold fH;rfl,⟨_,rfl⟩,_,by unfold res;rfl,h⟩
end
section
variable {c:Nat} {ins:Vt} {gs:List Gt} {os:Vu} {S:aN}
def sF(c:Nat)(ins:Vt)(gs:List Gt)(x:Str × List Nat):M:=fun p=>(pt (Wd c ins gs [] []) x p).1 || (pt (Wd c ins gs [] []) x p).2
def sB(c:Nat)(ins:Vt)(gs:List Gt)(x:Str × List Nat):Bool:=decide (gW (2 ^ c) (sF c ins gs x)=gW (2 ^ c) one)
theorem Bw{N:Nat}{f:M}:decide (gW N f=gW N one)=(List.range N).all f:=by
 cases h:(List.range N).all f with
 | true=>
   refine decide_eq_true (lF fun i hi=>?_)
   exact List.all_eq_true.mp h i (List.mem_range.mpr hi)
 | false=>
   refine decide_eq_false fun e=>?_
   have:(List.range N).all f=true:=List.all_eq_true.mpr fun i hi=>by
    have b:=fR N f i;rw[e,fR,decide_eq_true (List.mem_range.mp hi),Bool.true_and,Bool.true_and] at b;exact b.symm
   rw[h] at this;cases this
theorem Hk{N:Nat}{f:M}:kG (mI N f) (mI N one)= .ok (.bl (decide (gW N f=gW N one))):=by
 show R.ok (D.bl (decide ((gW N f:Int)=(gW N one:Int))))=_;congr 2;by_cases q:gW N f=gW N one
 .rw [decide_eq_true q,decide_eq_true (by rw[q])]
 .rw [decide_eq_false q,decide_eq_false (by omega)]
theorem yf(NO:gY ins gs os)(hc:ins.length=c)(uq:c<=10)(ho:∀x∈os,1<=x.2.length/\x.2.length<=3)(hS:j9 S){Q:V3->aN->Prop}(h:Q (.d (.bl (os.all (sB c ins gs)))) S) :
 W3 (m6 [.d (ba ins gs os)] S) Q:=by
 have hz:sizeLine=16777216:=sizeLine_eq;have hO:=NO.ho;unfold m6;refine f_ hS (uz rfl ?_);simp only[cz,js,List.map,List.length,List.replicate,List.cons_append,List.nil_append,Nat.reduceAdd,Nat.reduceSub];unfold o9;have hc0:∀fs:List (Str × V3),g6 (S.length+1) (fs.map (·.2))=true->j9 (S++[.ins 0 fs]):=fun fs hf o FC=>by
  rw[show(S++[SO.ins 0 fs]).length=S.length+1 by simp]
  rcases List.mem_append.mp FC with q | q
  .exact nP (by omega) o (hS o q)
  .rw [List.mem_singleton.mp q];exact hf
 have hb:(S++[SO.ins 0 (cD c (ba ins gs os))])[S.length]? =some (.ins 0 (cD c (ba ins gs os))):=aY _ _;have hcl:j9 (S++[SO.ins 0 (cD c (ba ins gs os))]):=hc0 _ rfl;refine aX <| bB (by simp) <| sk <| aD <| cB (d:=ba ins gs os) rfl <| cg <| vZ hc uq (hc0 _ rfl) ⟨rfl,_,rfl,?_⟩
 simp only[List.set];refine eR <| nY <| aD <| iE (fun j ds S2=>S2=S++[SO.ins 0 (cD c (ba ins gs os))]/\ds=((os.map (sB c ins gs)).map D.bl).take j) ?_
 refine nQ <| iW (k:=S.length) <| w_var (v:= .loc S.length) rfl ⟨_,rfl,hb,wX _ _ (by decide+kernel) (by decide+kernel) (by decide+kernel) (by decide+kernel),?_⟩
 refine aD <| cB (d:= .tup (([]:List Int).map .int)) rfl <| cg <| ku NO hc ho hcl hb ⟨_,rfl,?_,⟨rfl,by simp⟩,?_,?_⟩
 .rw [List.length_map,y7,List.length_map];omega
 .rintro j v ds S2 hv ⟨rfl,rfl⟩;rw[y7] at hv;obtain⟨x,hx,rfl⟩:=NT.ef hv;refine⟨[some (.d (.tup [mI (2 ^ c) (r0 (tell (Wd c ins gs [] []) x)),mI (2 ^ c) (r1 (tell (Wd c ins gs [] []) x))])),some (.loc S.length)],rfl,t5 ?_⟩;rw[if_pos rfl];refine MN <| cB (d:=mI (2 ^ c) (sF c ins gs x)) (aj (a:=mI (2 ^ c) (r0 (tell (Wd c ins gs [] []) x))) (b:=mI (2 ^ c) (r1 (tell (Wd c ins gs [] []) x))) (aj (a:= .tup [mI (2 ^ c) (r0 (tell (Wd c ins gs [] []) x)),mI (2 ^ c) (r1 (tell (Wd c ins gs [] []) x))]) (b:= .int 0) rfl rfl zS) (aj (a:= .tup [mI (2 ^ c) (r0 (tell (Wd c ins gs [] []) x)),mI (2 ^ c) (r1 (tell (Wd c ins gs [] []) x))]) (b:= .int 1) rfl rfl CK) (vN _ _ _)) <| w_fld (k:=S.length) <| w_var (v:= .loc S.length) rfl ⟨_,_,rfl,hb,w6,_,_, .bl (sB c ins gs x),rfl,rfl,Hk,_,rfl,rfl,?_⟩
  rw[List.take_add_one,List.getElem?_map,List.getElem?_map,hx];rfl
 .rintro ds S2 ⟨rfl,rfl⟩;rw[List.length_map,y7,List.length_map,List.take_of_length_le (by simp)]
  refine cg ⟨[_], .bl (os.all (sB c ins gs)),rfl,?_,_,rfl,by unfold fH;rfl,⟨_,rfl⟩,_,by unfold res;rfl,h⟩
  show(match bls? ((os.map (sB c ins gs)).map D.bl) with | some bs=>R.ok (D.bl (bs.all id)) | none=> .no)=_
  rw[Bm];show R.ok (D.bl ((os.map (sB c ins gs)).all id))=_;rw[List.all_map];rfl
end
end K41
end
section
set_option maxHeartbeats 400000
namespace K41
open PySem PySem.Spec PyProof.Rows L2 L3 MT
theorem z8(x:Bool × Bool):cV 0 (g7 x):=by
 unfold g7;split
 .exact cV.int _
 split
 .exact cV.int _
 .exact cV.cn
theorem Fg(xs:List (Bool × Bool)):AG (.lst (xs.map g7)) (.lst [])= .ok xs.isEmpty:=by
 have f:cV 1 (.lst (xs.map g7)):=cV.lst fun d hd=>by
  obtain⟨x,_,rfl⟩:=List.mem_map.mp hd;exact z8 x
 have f2:cV 1 (.lst []):=cV.lst fun d hd=>by cases hd
 rw[yV,f.pl,f.sh (by omega),f2.pl,f2.sh (by omega)]
 cases xs with
 | nil=>rfl
 | cons g gs=>rfl
def odd(os:Vu)(W0 W1:List M)(p:Nat):List (Bool × Bool):=(os.filter fun x=>lK (pt W1 x p) !=lK (pt W0 x p)).map fun x=>pt W1 x p
theorem DB{α:Type}(q:α->Bool):∀l:List α,(!(l.filter q).isEmpty)=l.any q
 | []=>rfl
 | x ::l=>by
   rw[List.filter_cons,List.any_cons];cases q x with
   | true=>rfl
   | false=>exact DB q l
theorem BU{os:Vu}{W0 W1:List M}{p:Nat}:(!((odd os W0 W1 p).filter fun y=>(lK y).isSome).isEmpty)=os.any fun x=>nR true (pt W0 x p) (pt W1 x p):=by
 rw[DB];unfold odd nR;rw[List.any_map,List.any_filter];rfl
theorem GK{os:Vu}{W0 W1:List M}{p:Nat}:(!(odd os W0 W1 p).isEmpty)=os.any fun x=>nR false (pt W0 x p) (pt W1 x p):=by
 rw[Bool.eq_iff_iff,List.any_eq_true];unfold odd nR;simp [List.isEmpty_iff,List.filter_eq_nil_iff]
section
variable {c p:Nat} {l:Vt} {gs:List Gt} {os:Vu} {W0 W1:List M} {S:aN}
def mE(nt pl:D)(n:Nat)(a3 a4:Option V3)(w nn:Nat)(a7 a8 a9:Option V3):DE:=[some (.d nt),some (.d pl),some (.loc n),a3,a4,some (.d (nI w)),some (.d (nI nn)),a7,a8,a9]
theorem Jk{f g:FD}{δ:av}{a b:Bool}(h1:f δ= .ok (.bl a))(h2:g δ= .ok (.bl b)):Df f g δ= .ok (.bl (a && b)):=by
 unfold Df;rw[Kz h1,R.aG];cases a
 .rw [if_neg (by decide)];rfl
 .rw [if_pos rfl,h2];rfl
theorem M3(a:Nat)(b:Bool):((kz [.bl b]).bind fun d=>eD (nI a) d)= .ok (nI (a+if b then 1 else 0)):=by cases b <;> rfl
theorem Eo{nt pl:D}{n w nn:Nat}{a3 a4 a9:Option V3}(ho:os.length < 1000) :
 W3 (i3 (mE nt pl n a3 a4 w nn (some (.d (dm W0 os p))) (some (.d (dm W1 os p))) a9) S) fun o S2=>S2=S/\∃b9,o= .nx (mE nt pl n a3 a4 (w+if(os.any fun x=>nR true (pt W0 x p) (pt W1 x p)) then 1 else 0) (nn+if(os.any fun x=>nR false (pt W0 x p) (pt W1 x p)) && !(os.any fun x=>nR true (pt W0 x p) (pt W1 x p)) then 1 else 0) (some (.d (dm W0 os p))) (some (.d (dm W1 os p))) b9):=by
 have hz:sizeLine=16777216:=sizeLine_eq;unfold i3 mE;refine aX <| bB (by simp) <| iE (fun j ds S2=>S2=S/\ds=(((os.take j).filter fun x=>lK (pt W1 x p) !=lK (pt W0 x p)).map fun x=>g7 (pt W1 x p))) (j6 (ds:=(List.range os.length).map nI) ?_ ⟨by rw[List.length_map,List.length_map,List.length_range];omega,⟨rfl,by simp⟩,?_,?_⟩)
 .rw [<-fu];exact c0 (n:=os.length) (aA (ds:=[dm W0 os p]) rfl (by unfold dm;rw [o7,List.length_map])) (by omega)
 .rintro j v ds S2 hv ⟨rfl,rfl⟩;obtain⟨k,hk,rfl⟩:=NT.ef hv;have CT:k=j:=by
   have h1:=(List.getElem?_eq_some_iff.mp hk).1;rw[List.length_range] at h1;rw[List.getElem?_range h1] at hk;exact(Option.some.inj hk).symm
  subst CT;have hko:k < os.length:=by
   have h1:=(List.getElem?_eq_some_iff.mp hk).1;rw[List.length_range] at h1;exact h1
  have hok:os[k]? =some os[k]:=List.getElem?_eq_getElem hko;generalize os[k]=x at hok;have i0:bW (dm W0 os p) (nI k)= .ok (g7 (pt W0 x p)):=NT.iA (by rw[List.getElem?_map,hok];rfl)
  have i1:bW (dm W1 os p) (nI k)= .ok (g7 (pt W1 x p)):=NT.iA (by rw[List.getElem?_map,hok];rfl)
  refine⟨[some (.d (nI k)),some (.d (dm W0 os p)),some (.d (dm W1 os p))],rfl,sZ (b:=lK (pt W1 x p) !=lK (pt W0 x p)) (eE (a:=g7 (pt W1 x p)) (b:=g7 (pt W0 x p)) (aj (a:=dm W1 os p) (b:=nI k) rfl rfl i1) (aj (a:=dm W0 os p) (b:=nI k) rfl rfl i0) (Ia _ _)) ?_⟩;rw[List.take_add_one,hok,show(some x).toList=[x] from rfl,List.filter_append,List.map_append,List.filter_cons]
  cases lK (pt W1 x p) !=lK (pt W0 x p) with
  | true=>rw [if_pos rfl];exact cB (d:=g7 (pt W1 x p)) (aj (a:=dm W1 os p) (b:=nI k) rfl rfl i1) ⟨_,rfl,rfl,rfl⟩
  | false=>rw [if_neg (by decide)];exact⟨rfl,by simp⟩
 rintro ds S2 ⟨rfl,rfl⟩;rw[List.length_map,List.length_map,List.length_range,List.take_length];refine⟨_,rfl,?_⟩;have eo:((os.filter fun x=>lK (pt W1 x p) !=lK (pt W0 x p)).map fun x=>g7 (pt W1 x p))=(odd os W0 W1 p).map g7:=by unfold odd;rw [List.map_map];rfl
 rw[eo];simp only[List.set];have hol:(odd os W0 W1 p).length<=os.length:=by unfold odd;rw [List.length_map];exact List.length_filter_le _ _
 rw[<-BU,<-GK];generalize odd os W0 W1 p=O at hol;have hcmp:∀δ:av,ae 9 δ= .ok (.lst (O.map g7))->sW ["bit"] [] δ=[.un]->eNew (d4 (d5 (ae 9)) (aK 0) (b2 vY (ae 0) (eC .cn)) (ae 0) ["bit"] []) δ= .ok (.lst ((O.filter fun y=>(lK y).isSome).map g7)):=fun δ h1 h2=>by
  refine dA (cX (ds:=O.map g7) (jI h1) (by rw[List.length_map];omega) ?_)
  rw[h2];exact NT.eA (fun y=>(lK y).isSome) g7 g7 fun y _=>⟨[.val (g7 y)],rfl,eE (a:=g7 y) (b:= .cn) rfl rfl (EJ y),fun _=>rfl⟩
 refine aX <| bB (by simp) <| cB (d:=nI (w+if !(O.filter fun y=>(lK y).isSome).isEmpty then 1 else 0)) ?_ ⟨_,rfl,?_⟩
 .have hi:=M3 w (!(O.filter fun y=>(lK y).isSome).isEmpty)
  cases q:kz [.bl (!(O.filter fun y=>(lK y).isSome).isEmpty)] with
  | ok d=>
    rw[q,R.aG] at hi;exact aj (a:=nI w) (b:=d) rfl (aA (ds:=[.bl (!(O.filter fun y=>(lK y).isSome).isEmpty)]) (az (aj (a:= .lst ((O.filter fun y=>(lK y).isSome).map g7)) (b:= .lst []) (hcmp _ rfl rfl) rfl (DX (Fg _))) rfl) q) hi
  | no=>rw [q] at hi;cases hi
  | ex _=>rw [q] at hi;cases hi
 simp only[List.set];refine bB (by simp) <| cB (d:=nI (nn+if(!O.isEmpty) && !(!(O.filter fun y=>(lK y).isSome).isEmpty) then 1 else 0)) ?_ ?_
 .have hi:=M3 nn ((!O.isEmpty) && !(!(O.filter fun y=>(lK y).isSome).isEmpty))
  cases q:kz [.bl ((!O.isEmpty) && !(!(O.filter fun y=>(lK y).isSome).isEmpty))] with
  | ok d=>
    rw[q,R.aG] at hi;exact aj (a:=nI nn) (b:=d) rfl (aA (ds:=[.bl ((!O.isEmpty) && !(!(O.filter fun y=>(lK y).isSome).isEmpty))]) (az (Jk (aj (a:= .lst (O.map g7)) (b:= .lst []) rfl rfl (DX (Fg _))) (aj (a:= .lst ((O.filter fun y=>(lK y).isSome).map g7)) (b:= .lst []) (hcmp _ rfl rfl) rfl ((wG (Fg _)).trans (by rw[Bool.not_not])))) rfl) q) hi
  | no=>rw [q] at hi;cases hi
  | ex _=>rw [q] at hi;cases hi
 simp only[List.set];exact⟨trivial,_,rfl⟩
end
end K41
end
section
namespace K41
open PySem PySem.Spec PyProof.Rows L2 L3 MT
section
variable {c:Nat} {l:Vt} {gs:List Gt} {os:Vu} {S:aN}
theorem zI(h:Kh c l gs os)(safe:Bool)(T:List Nat){p:Nat}(hp:p < 2 ^ c):(os.any fun x=>nR safe (pt (Wd c l gs [] []) x p) (pt (Wd c l gs (nZ T) []) x p))=xl safe c l gs os (nZ T) p:=by
 unfold xl;rw[Bool.eq_iff_iff,List.any_eq_true,List.any_eq_true];constructor
 .rintro⟨x,hx,h1⟩;rw[wW (h x hx p hp) (by unfold pt;exact tj _)] at h1
  exact⟨x,hx,h1⟩
 .rintro⟨x,hx,h1⟩;rw[<-wW (h x hx p hp) (by unfold pt;exact tj _)] at h1
  exact⟨x,hx,h1⟩
theorem IW{W0 W1:List M}{p:Nat}:((os.any fun x=>nR false (pt W0 x p) (pt W1 x p)) && !(os.any fun x=>nR true (pt W0 x p) (pt W1 x p)))=((os.any fun x=>nR false (pt W0 x p) (pt W1 x p)) !=(os.any fun x=>nR true (pt W0 x p) (pt W1 x p))):=by
 have h:(os.any fun x=>nR true (pt W0 x p) (pt W1 x p))=true->(os.any fun x=>nR false (pt W0 x p) (pt W1 x p))=true:=fun h=>by
  obtain⟨x,hx,h1⟩:=List.any_eq_true.mp h;refine List.any_eq_true.mpr ⟨x,hx,?_⟩;unfold nR at h1 ⊢;rw[Bool.and_eq_true] at h1;rw[h1.1];rfl
 cases q1:os.any fun x=>nR true (pt W0 x p) (pt W1 x p) with
 | true=>rw [h q1];rfl
 | false=>cases os.any fun x=>nR false (pt W0 x p) (pt W1 x p) <;> rfl
theorem yo(f:Nat->Bool)(i:Nat):((List.range (i+1)).filter f).length=((List.range i).filter f).length+if f i then 1 else 0:=by
 rw[List.range_succ,List.filter_append,List.length_append,List.filter_cons];cases f i <;> rfl
theorem zh{x:Nat}{g:Gt}{fs:List D}{a4 a5 a6 a7 a8 a9:Option V3}(NO:gY l gs os)(hc:l.length=c)(F4:c<=6)(ho:∀x∈os,1<=x.2.length/\x.2.length<=3)(Le:Kh c l gs os)(hg:gs[x]? =some g)(hl:fs.length < 1000)(hS:j9 (S++[SO.lst fs])) :
 W3 (iU [some (.d (ba l gs os)),some (.d (vx c l gs os [])),some (.loc S.length),some (.d (nI x)),a4,a5,a6,a7,a8,a9] (S++[SO.lst fs])) fun o S2=>∃b4 b5 b6 b7 b8 b9,o= .nx [some (.d (ba l gs os)),some (.d (vx c l gs os [])),some (.loc S.length),some (.d (nI x)),b4,b5,b6,b7,b8,b9]/\S2=S++[SO.lst (fs++if g.2.2 then [] else [o3 c l gs os x])]:=by
 have hz:sizeLine=16777216:=sizeLine_eq;have hO:=NO.ho;have hpow:2 ^ c<=64:=Nat.pow_le_pow_right (by omega) (by omega:c<=6)
 unfold iU;refine sj <| sZ (b:=!g.2.2) ?_ ?_
 .unfold wg v_;rw[aj (a:=jb g) (b:= .int 2) (aj (a:= .lst (gs.map jb)) (b:=nI x) (aj (a:=ba l gs os) (b:= .int 1) rfl rfl rfl) rfl (NT.iA (by rw[List.getElem?_map,hg];rfl))) rfl (show bW (jb g) (.int 2)= .ok (.bl g.2.2) from rfl)]
  rfl
 cases g.2.2 with
 | true=>
   rw[if_neg (by decide)]
   exact ni ⟨_,_,_,_,_,_,rfl,by simp⟩
 | false=>
   rw[if_pos (by decide)]
   refine aX <| bB (by simp) <| eM <| aD <| cB (d:=ba l gs os) rfl <| aD <| cB (d:=bt [x]) (cZ rfl (by simp;omega)) <| cg ?_
   refine @oJ c l gs os [x] _ NO hc F4 ho hS _ ?_;rw[show D.lst ((List.range (2 ^ c)).map (dm (Wd c l gs (nZ [x]) []) os))=vx c l gs os [x] from rfl]
   refine⟨_,rfl,?_⟩;simp only[List.set];refine aX <| bB (by simp) <| cB (d:=nI 0) rfl ⟨_,rfl,?_⟩
   simp only[List.set];refine aX <| bB (by simp) <| cB (d:=nI 0) rfl ⟨_,rfl,?_⟩
   simp only[List.set];have hzip:vK (ae 1) (ae 4) (down [some (.d (ba l gs os)),some (.d (vx c l gs os [])),some (.loc S.length),some (.d (nI x)),some (.d (vx c l gs os [x])),some (.d (nI 0)),some (.d (nI 0)),a7,a8,a9])= .ok ((List.range (2 ^ c)).map fun p=> .tup [dm (Wd c l gs [] []) os p,dm (Wd c l gs (nZ [x]) []) os p]):=by
    show R.ok (j7 _ _)=_;rw[sT];rfl
   refine aX <| fF <| j6 (ds:=(List.range (2 ^ c)).map fun p=> .tup [dm (Wd c l gs [] []) os p,dm (Wd c l gs (nZ [x]) []) os p]) hzip ?_
   generalize hP1:vx c l gs os []=P1;generalize hP2:vx c l gs os [x]=P2;refine(cb (fun i δ S2=>S2=S++[SO.lst fs]/\∃b7 b8 b9,δ=mE (ba l gs os) P1 S.length (some (.d (nI x))) (some (.d P2)) ((List.range i).filter fun p=>os.any fun y=>nR true (pt (Wd c l gs [] []) y p) (pt (Wd c l gs (nZ [x]) []) y p)).length ((List.range i).filter fun p=>(os.any fun y=>nR false (pt (Wd c l gs [] []) y p) (pt (Wd c l gs (nZ [x]) []) y p)) && !(os.any fun y=>nR true (pt (Wd c l gs [] []) y p) (pt (Wd c l gs (nZ [x]) []) y p))).length b7 b8 b9)
    ⟨rfl,a7,a8,a9,rfl⟩ ?_).mono fun o S2 ⟨dM,gb,rR,b7,b8,b9,hδ⟩=>⟨dM,gb,?_⟩
   .rintro i v δ S2 hv ⟨rfl,b7,b8,b9,rfl⟩;obtain⟨p,hp,rfl⟩:=NT.ef hv;have hpi:p=i:=by
     have h1:=(List.getElem?_eq_some_iff.mp hp).1;rw[List.length_range] at h1;rw[List.getElem?_range h1] at hp;exact(Option.some.inj hp).symm
    subst hpi;refine⟨mE (ba l gs os) P1 S.length (some (.d (nI x))) (some (.d P2)) _ _ (some (.d (dm (Wd c l gs [] []) os p))) (some (.d (dm (Wd c l gs (nZ [x]) []) os p))) b9,rfl,?_⟩;refine(Eo hO).mono fun o S3 ⟨e3,c9,eo⟩=>⟨_,eo,e3,some (.d (dm (Wd c l gs [] []) os p)),some (.d (dm (Wd c l gs (nZ [x]) []) os p)),c9,?_⟩
    rw[yo,yo]
   rw[List.length_map,List.length_map,List.length_range] at hδ;subst hδ rR;unfold mE;have ew:((List.range (2 ^ c)).filter fun p=>os.any fun y=>nR true (pt (Wd c l gs [] []) y p) (pt (Wd c l gs (nZ [x]) []) y p)).length=wa c (xl true c l gs os (nZ [x])):=by
    unfold wa;rw[List.filter_congr fun p hp=>zI Le true [x] (List.mem_range.mp hp)]
   have en:((List.range (2 ^ c)).filter fun p=>(os.any fun y=>nR false (pt (Wd c l gs [] []) y p) (pt (Wd c l gs (nZ [x]) []) y p)) && !(os.any fun y=>nR true (pt (Wd c l gs [] []) y p) (pt (Wd c l gs (nZ [x]) []) y p))).length=wa c (L4 c l gs os x):=by
    unfold wa L4;rw[List.filter_congr fun p hp=>(IW (p:=p)).trans (by rw[zI Le true [x] (List.mem_range.mp hp),zI Le false [x] (List.mem_range.mp hp)])]
   rw[ew,en];refine my (k:=S.length) rfl ⟨_,aY _ _⟩ <| cB (d:=o3 c l gs os x) (cZ (ds:=[nI x,nI (wa c (xl true c l gs os (nZ [x]))),nI (wa c (L4 c l gs os x))]) rfl (by simp;omega)) ⟨_,_,rfl,aY _ _,by omega,_,_,_,_,_,_,rfl,?_⟩
   rw[dH];rfl
end
end K41
end
section
namespace K41
open PySem PySem.Spec PyProof.Rows L2 L3 MT
section
variable {c:Nat} {l:Vt} {gs:List Gt} {os:Vu} {S:aN}
theorem yH(NO:gY l gs os)(hc:l.length=c)(F4:c<=6)(ho:∀x∈os,1<=x.2.length/\x.2.length<=3)(Le:Kh c l gs os)(hg:gs.length<=100)(hS:j9 S){Q:V3->aN->Prop}(h:Q (.d (.lst ((lS gs).map (o3 c l gs os)))) S) :
 W3 (jB [.d (ba l gs os), .d (vx c l gs os [])] S) Q:=by
 have hz:sizeLine=16777216:=sizeLine_eq;unfold jB;refine f_ hS (uz rfl ?_);simp only[cz,dW,List.map,List.length,List.replicate,List.cons_append,List.nil_append,Nat.reduceAdd,Nat.reduceSub];unfold kD;refine aX <| bB (by simp) <| mB (ds:=[]) rfl ⟨_,rfl,?_⟩
 simp only[List.set];refine aX <| fF <| j6 (ds:=(List.range gs.length).map nI) ?_ ?_
 .rw [<-fu];exact c0 (n:=gs.length) (aA (ds:=[.lst (gs.map jb)]) (az (aj (a:=ba l gs os) (b:= .int 1) rfl rfl rfl) rfl) (by rw[o7,List.length_map])) (by omega)
 refine(cb (fun i δ S2=>S2=S++[SO.lst (((List.range i).filter fun k=>match gs[k]? with | some g=>!g.2.2 | none=>false).map (o3 c l gs os))]/\∃a3 a4 a5 a6 a7 a8 a9,δ=[some (.d (ba l gs os)),some (.d (vx c l gs os [])),some (.loc S.length),a3,a4,a5,a6,a7,a8,a9])
  ⟨rfl,_,_,_,_,_,_,_,rfl⟩ ?_).mono fun o S2 ⟨dM,gb,rR,a3,a4,a5,a6,a7,a8,a9,hδ⟩=>⟨dM,gb,?_⟩
 .rintro i v δ S2 hv ⟨rfl,a3,a4,a5,a6,a7,a8,a9,rfl⟩;obtain⟨x,hx,rfl⟩:=NT.ef hv;have hxi:x=i:=by
   have h1:=(List.getElem?_eq_some_iff.mp hx).1;rw[List.length_range] at h1;rw[List.getElem?_range h1] at hx;exact(Option.some.inj hx).symm
  subst hxi;have hxg:x < gs.length:=by
   have h1:=(List.getElem?_eq_some_iff.mp hx).1;rw[List.length_range] at h1;exact h1
  have hgx:gs[x]? =some gs[x]:=List.getElem?_eq_getElem hxg;refine⟨[some (.d (ba l gs os)),some (.d (vx c l gs os [])),some (.loc S.length),some (.d (nI x)),a4,a5,a6,a7,a8,a9],rfl,?_⟩;refine(zh NO hc F4 ho Le hgx (by rw[List.length_map];have:=List.length_filter_le (fun k=>match gs[k]? with | some g=>!g.2.2 | none=>false) (List.range x);rw [List.length_range] at this;omega) (j9.push hS (MB _))).mono fun o S3 ⟨b4,b5,b6,b7,b8,b9,eo,e3⟩=>⟨_,eo,?_,_,b4,b5,b6,b7,b8,b9,rfl⟩
  have e:([x].filter fun k=>match gs[k]? with | some g=>!g.2.2 | none=>false)=if gs[x].2.2 then [] else [x]:=by
   rw[List.filter_cons,hgx];show(if(!gs[x].2.2)=true then _ else _)=_
   cases gs[x].2.2 <;> rfl
  rw[e3,List.range_succ,List.filter_append,List.map_append,e];cases gs[x].2.2 <;> rfl
 subst hδ rR;rw[List.length_map,List.length_map,List.length_range];refine eR <| w_var (v:= .loc S.length) rfl ⟨.loc S.length,rfl,?_,⟨_,rfl⟩,_,n3 (aY _ _),h⟩
 show decide (S.length<=S.length)=true;exact decide_eq_true (Nat.le_refl _)
end
end K41
end
section
namespace K41
open PySem PySem.Spec PyProof.Rows L2 L3 MT
theorem HI{T:List Nat}{p:Nat}:cV 3 (C8 T p):=by
 unfold C8;refine cV.tup fun d hd=>?_
 simp only[List.mem_cons,List.not_mem_nil,or_false] at hd;rcases hd with rfl | rfl | rfl
 .exact(cV.str (by decide+kernel)).mono (by omega)
 .unfold bt;exact(cV.tup (n:=0) fun y hy=>by obtain⟨z,_,rfl⟩:=List.mem_map.mp hy;exact cV.int _).mono (by omega)
 .exact(cV.int _).mono (by omega)
theorem D3:cV 3 rn:=by
 unfold rn;exact(cV.tup (n:=0) fun d hd=>by rw[List.mem_singleton.mp hd];exact cV.str (by decide+kernel)).mono (by omega)
theorem yb{a b:D}{k:Bool}(h:kG a b= .ok (.bl k)):yR a b= .ok (.bl (!k)):=by
 unfold kG at h;unfold yR;cases q:AG a b with
 | ok x=>rw [q] at h;cases h;rfl
 | no=>rw [q] at h;cases h
 | ex _=>rw [q] at h;cases h
theorem Me{α:Type}(g:α->D)(hg:∀x,cV 1 (g x))(xs:List α):AG (.lst (xs.map g)) (.lst [])= .ok xs.isEmpty:=by
 have f:cV 2 (.lst (xs.map g)):=cV.lst fun d hd=>by
  obtain⟨x,_,rfl⟩:=List.mem_map.mp hd;exact hg x
 have f2:cV 1 (.lst []):=cV.lst fun d hd=>by cases hd
 rw[yV,f.pl,f.sh (by omega),f2.pl,f2.sh (by omega)]
 cases xs with
 | nil=>rfl
 | cons g gs=>rfl
theorem En:∀xs:List (Bool × Bool),∃ss,ois? (xs.map g7)=some ss/\ss.any (·.isNone)=xs.any fun x=>(lK x).isNone
 | []=>⟨[],rfl,rfl⟩
 | (a,b) ::xs=>by
   obtain⟨ss,h1,h2⟩:=En xs;cases a <;> cases b
   .exact⟨none ::ss,by rw[List.map_cons];unfold ois?;show(ois? (xs.map g7)).map _=_;rw [h1];rfl,by rw[List.any_cons,List.any_cons,h2];rfl⟩
   .exact⟨some 1 ::ss,by rw[List.map_cons];unfold ois?;show(ois? (xs.map g7)).map _=_;rw [h1];rfl,by rw[List.any_cons,List.any_cons,h2];rfl⟩
   .exact⟨some 0 ::ss,by rw[List.map_cons];unfold ois?;show(ois? (xs.map g7)).map _=_;rw [h1];rfl,by rw[List.any_cons,List.any_cons,h2];rfl⟩
   .exact⟨some 0 ::ss,by rw[List.map_cons];unfold ois?;show(ois? (xs.map g7)).map _=_;rw [h1];rfl,by rw[List.any_cons,List.any_cons,h2];rfl⟩
section
variable {c m:Nat} {l:Vt} {gs:List Gt} {os:Vu} {safe:Bool} {S:aN}
theorem IY(W:List M)(p:Nat):Ce .cn (dm W os p)= .ok (.bl (os.any fun x=>(lK (pt W x p)).isNone)):=by
 obtain⟨ss,h1,h2⟩:=En (os.map fun x=>pt W x p)
 rw[List.map_map] at h1;unfold Ce N6 dm;show((match ois? (os.map (g7 ∘ fun x=>pt W x p)) with | some ss=>R.ok (ss.any (·.isNone)) | none=>R.no).bind fun b=>R.ok (D.bl b))=_
 rw[h1];show R.ok (D.bl (ss.any (·.isNone)))=_
 rw[h2,List.any_map];rfl
theorem G3(ho:∀x∈os,1<=x.2.length/\x.2.length<=3):((List.range (2 ^ c)).filter fun p=>os.any fun x=>(lK (pt (Wd c l gs [] []) x p)).isNone).isEmpty=true->Kh c l gs os:=fun h x hx p hp=>by
 rw[List.isEmpty_iff,List.filter_eq_nil_iff] at h;have h1:=h p (List.mem_range.mpr hp);have h2:(lK (pt (Wd c l gs [] []) x p)).isNone=false:=by
  cases q:(lK (pt (Wd c l gs [] []) x p)).isNone with
  | false=>rfl
  | true=>exact absurd (List.any_eq_true.mpr ⟨x,hx,q⟩) h1
 have h3:((pt (Wd c l gs [] []) x p).1 && (pt (Wd c l gs [] []) x p).2)=false:=by unfold pt;exact tj _
 generalize pt (Wd c l gs [] []) x p=X at h2 h3;obtain⟨a,b⟩:=X;cases a <;> cases b <;> first | rfl | exact absurd h3 (by decide) | exact absurd h2 (by decide)
end
section
variable {c m:Nat} {ins:Vt} {gs:List Gt} {os:Vu} {safe:Bool}
theorem BG:∃ds,bears safe c ins gs os m= .tup ds/\cV 3 (.tup ds):=by
 unfold bears;cases h:(List.range (m+1)).findSome? (fun s=>(iR (lS gs) s).findSome? (kN safe c ins gs os)) with
 | none=>exact⟨_,rfl,D3⟩
 | some d=>
   obtain⟨s,hs,h2⟩:=List.exists_of_findSome?_eq_some h;obtain⟨T,hT,h3⟩:=List.exists_of_findSome?_eq_some h2;unfold kN at h3;cases h4:((List.range (2 ^ c)).filter (xl safe c ins gs os (nZ T))).head? with
   | none=>rw [h4] at h3;cases h3
   | some p=>rw [h4] at h3;cases h3;exact⟨_,rfl,HI⟩
theorem Eu:kG (bears safe c ins gs os m) (bears safe c ins gs os m)= .ok (.bl true):=by
 obtain⟨ds,e,f⟩:=BG (safe:=safe) (c:=c) (ins:=ins) (gs:=gs) (os:=os) (m:=m);rw[e];exact NT.eq_self f (by omega)
theorem AZ(X:Bool × Bool):(lK X).isNone=!(X.1 || X.2):=by obtain⟨a,b⟩:=X;cases a <;> cases b <;> rfl
theorem Av:os.all (sB c ins gs)=((List.range (2 ^ c)).filter fun p=>os.any fun x=>(lK (pt (Wd c ins gs [] []) x p)).isNone).isEmpty:=by
 rw[Bool.eq_iff_iff,List.all_eq_true,List.isEmpty_iff,List.filter_eq_nil_iff];constructor
 .intro h p hp hq;obtain⟨x,hx,h1⟩:=List.any_eq_true.mp hq;have h2:=h x hx;unfold sB at h2;rw[Bw] at h2;have h3:=List.all_eq_true.mp h2 p hp;unfold sF at h3;rw[AZ,h3] at h1;cases h1
 .intro h x hx;unfold sB;rw[Bw];refine List.all_eq_true.mpr fun p hp=>?_
  unfold sF;cases q:(pt (Wd c ins gs [] []) x p).1 || (pt (Wd c ins gs [] []) x p).2 with
  | true=>rfl
  | false=>exact absurd (List.any_eq_true.mpr ⟨x,hx,by rw[AZ,q];rfl⟩) (h p hp)
theorem GP(c:Nat)(ins:Vt)(gs:List Gt)(os:Vu):cV 2 (EZ c ins gs os):=cV.lst fun d hd=>by
 obtain⟨x,_,rfl⟩:=List.mem_map.mp hd;exact cV.lst fun d hd=>by
  obtain⟨p,_,rfl⟩:=List.mem_map.mp hd;exact z8 _
theorem GX(c:Nat)(ins:Vt)(gs:List Gt)(os:Vu)(us:List Nat):cV 2 (.lst (us.map (o3 c ins gs os))):=cV.lst fun d hd=>by
 obtain⟨x,_,rfl⟩:=List.mem_map.mp hd;exact cV.tup fun d hd=>by
  simp only[List.mem_cons,List.not_mem_nil,or_false] at hd;rcases hd with rfl | rfl | rfl <;> exact cV.int _
theorem uM{α β:Type}(f:α->β)(z:β)(xs:List α):((List.range xs.length).map fun k=>match xs[k]? with | some x=>f x | none=>z)=xs.map f:=by
 refine List.ext_getElem? fun k=>?_
 rw[List.getElem?_map,List.getElem?_map];by_cases h:k < xs.length
 .rw [List.getElem?_range h,List.getElem?_eq_getElem h];show some (match xs[k]? with | some x=>f x | none=>z)=_
  rw[List.getElem?_eq_getElem h];rfl
 .rw [List.getElem?_eq_none (by rw[List.length_range];omega),List.getElem?_eq_none (by omega)];rfl
end
theorem EH(ns:List Int)(hn:ns.length<=63):Bd [.lst (ns.map D.int)]= .ok (.bl true):=by
 have hz:sizeLine=16777216:=sizeLine_eq;obtain⟨v0,S0,e0,l,gs,os,ev,eS,N⟩:=IQ ns (S:=[]) (fun o ho=>by cases ho)
 subst ev eS;have hcl:j9 ([]:aN):=fun o ho=>by cases ho
 have hcc:=N.c;have hgg:=N.g;have hol:=N.ol;have hpow:2 ^ l.length<=64:=Nat.pow_le_pow_right (by omega) (by omega:l.length<=6)
 have key:W3 (pC pM vz [.d (.lst (ns.map .int))] []) fun v S1=>v= .d (.bl true)/\S1=[]:=by
  refine f_ hcl (uz rfl ?_);simp only[cz,pM,List.map,List.length,List.replicate,List.cons_append,List.nil_append,Nat.reduceAdd,Nat.reduceSub];unfold vz;refine aX <| bB (by simp) <| eM <| aD <| cB (d:= .lst (ns.map .int)) rfl <| cg ⟨_,_,e0,_,rfl,?_⟩
  simp only[List.set];refine aX <| bB (by simp) <| eM <| aD <| cB (d:=ba l gs os) rfl <| aD <| cB (d:=bt []) (cZ rfl (by simp)) <| cg ?_
  refine @oJ l.length l gs os [] [] N.no rfl (by omega) N.o hcl _ ?_
  rw[show D.lst ((List.range (2 ^ l.length)).map (dm (Wd l.length l gs (nZ []) []) os))=vx l.length l gs os [] from rfl]
  refine⟨_,rfl,?_⟩;simp only[List.set];have hrows:e2 kG (eNew (d4 (d5 (ae 2)) (aK 0) (b2 Ce (eC .cn) (ae 0)) (ae 0) ["row"] [])) (eNew (eW aI)) (down [some (.d (.lst (ns.map .int))),some (.d (ba l gs os)),some (.d (vx l.length l gs os [])),none,none,none])= .ok (.bl ((List.range (2 ^ l.length)).filter fun p=>os.any fun x=>(lK (pt (Wd l.length l gs [] []) x p)).isNone).isEmpty):=by
   refine aj (a:= .lst (((List.range (2 ^ l.length)).filter fun p=>os.any fun x=>(lK (pt (Wd l.length l gs [] []) x p)).isNone).map (dm (Wd l.length l gs [] []) os))) (b:= .lst []) (dA (cX (ds:=(List.range (2 ^ l.length)).map (dm (Wd l.length l gs [] []) os)) (jI rfl) (by rw[List.length_map,List.length_range];omega) ?_)) rfl (wG (Me _ (fun p=>cV.lst fun d hd=>by obtain⟨x,_,rfl⟩:=List.mem_map.mp hd;exact z8 _) _))
   exact NT.eA (t:=aK 0) (c:=b2 Ce (eC .cn) (ae 0)) (f:=ae 0) (δ:=[.un]) (fun p=>os.any fun x=>(lK (pt (Wd l.length l gs [] []) x p)).isNone) (dm (Wd l.length l gs [] []) os) (dm (Wd l.length l gs [] []) os) fun p _=>⟨[.val (dm (Wd l.length l gs [] []) os p)],rfl,eE (a:= .cn) (b:=dm (Wd l.length l gs [] []) os p) rfl rfl (IY _ p),fun _=>rfl⟩
  rw[<-Av] at hrows;have hsnd:os.all (sB l.length l gs)=true->Kh l.length l gs os:=fun h=>G3 N.o (by rw[<-Av];exact h)
  generalize hsb:os.all (sB l.length l gs)=sb at hrows hsnd;refine aX <| bB (by simp) <| cB (d:= .bl sb) hrows ⟨_,rfl,?_⟩
  simp only[List.set];refine qG <| sj <| J2 <| eM <| aD <| cB (d:=ba l gs os) rfl <| cg <| yf (c:=l.length) N.no rfl (by omega) N.o hcl <| cB (d:= .bl sb) rfl ⟨_,_,false,rfl,rfl,by rw[hsb];cases sb <;> rfl,?_⟩
  rw[if_neg (by decide)]
  refine ni ?_;have hcols:eNew (d4 (cT (aP gU (ak (e2 bW (ae 1) (eC (.int 2))) aI))) (aK 0) i_ (eNew (d4 (d5 (ae 1)) (aK 0) i_ (e2 bW (ae 0) (ae 1)) ["row"] [0])) ["k"] [2]) (down [some (.d (.lst (ns.map .int))),some (.d (ba l gs os)),some (.d (vx l.length l gs os [])),some (.d (.bl sb)),none,none])= .ok (EZ l.length l gs os):=by
   unfold EZ;rw[<-uM _ D.cn os];refine dA (cX (ds:=(List.range os.length).map nI) ?_ (by rw[List.length_map,List.length_range];omega) ?_)
   .rw [<-fu];exact c0 (n:=os.length) (aA (ds:=[.lst (os.map BX)]) (az (aj (a:=ba l gs os) (b:= .int 2) rfl rfl rfl) rfl) (by rw[o7,List.length_map])) (by omega)
   refine NT.fg (t:=aK 0) (c:=i_) (δ:=[.un, .val (vx l.length l gs os [])]) nI _ fun k hk=>⟨[.val (nI k), .val (vx l.length l gs os [])],rfl,rfl,?_⟩
   have hko:k < os.length:=List.mem_range.mp hk;have hok:os[k]? =some os[k]:=List.getElem?_eq_getElem hko;rw[hok];refine dA (cX (ds:=(List.range (2 ^ l.length)).map (dm (Wd l.length l gs [] []) os)) (jI rfl) (by rw[List.length_map,List.length_range];omega) ?_)
   refine NT.fg (t:=aK 0) (c:=i_) (f:=e2 bW (ae 0) (ae 1)) (δ:=[.un, .val (nI k)]) (dm (Wd l.length l gs [] []) os) _ fun p _=>⟨[.val (dm (Wd l.length l gs [] []) os p), .val (nI k)],rfl,rfl,aj (a:=dm (Wd l.length l gs [] []) os p) (b:=nI k) rfl rfl (NT.iA (by rw[List.getElem?_map,hok];rfl))⟩
  refine qG <| sj <| J2 <| eM <| aD <| cB (d:=ba l gs os) rfl <| cg <| xt (c:=l.length) N.no rfl (by omega) N.o hcl <| cB (d:=EZ l.length l gs os) hcols ⟨_,_,false,rfl,rfl,yb (wG (cV.Q9 (GP _ _ _ _) (by omega))),?_⟩
  rw[if_neg (by decide)]
  refine ni ?_;cases sb with
  | false=>
    refine qG <| sj <| sZ (b:=true) rfl ?_
    rw[if_pos rfl];exact eR <| cB (d:= .bl true) rfl ⟨.d (.bl true),rfl,by unfold fH;rfl,⟨[],rfl⟩, .bl true,by unfold res;rfl,rfl,trivial⟩
  | true=>
  have hs:=hsnd rfl;refine qG <| sj <| sZ (b:=false) rfl ?_
  rw[if_neg (by decide)]
  refine ni ?_;generalize mJ:vx l.length l gs os []=pl;refine aX <| fF <| j6 (ds:=(List.range 4).map nI) ?_ ?_
  .rw [<-fu];exact c0 (n:=4) rfl (by omega)
  refine(cb (fun i δ S5=>S5=[]/\∃a4 a5,δ=[some (.d (.lst (ns.map .int))),some (.d (ba l gs os)),some (.d pl),some (.d (.bl true)),a4,a5])
   ⟨rfl,_,_,rfl⟩ ?_).mono fun o S5 ⟨P0,e5,Pf,b4,b5,hδ⟩=>⟨P0,e5,?_⟩
  .rintro i v δ S5 hv ⟨rfl,b4,b5,rfl⟩;obtain⟨m,hm,rfl⟩:=NT.ef hv;have hm3:m<=3:=by
    have:=List.mem_range.mp (List.mem_of_getElem? hm);omega
   refine⟨[some (.d (.lst (ns.map .int))),some (.d (ba l gs os)),some (.d pl),some (.d (.bl true)),some (.d (nI m)),b5],rfl,?_⟩;unfold AQ;refine fF <| j6 (ds:=[false,true].map fun s=> .str (mv s)) (jI rfl) ?_
   refine(cb (fun i δ S5=>S5=[]/\∃a5,δ=[some (.d (.lst (ns.map .int))),some (.d (ba l gs os)),some (.d pl),some (.d (.bl true)),some (.d (nI m)),a5])
    ⟨rfl,_,rfl⟩ ?_).mono fun o S5 ⟨P0,e5,Pf,c5,hδ⟩=>⟨P0,e5,Pf,_,c5,hδ⟩
   rintro j u δ S5 hu ⟨rfl,c5,rfl⟩;obtain⟨s,_,rfl⟩:=NT.ef hu;refine⟨[some (.d (.lst (ns.map .int))),some (.d (ba l gs os)),some (.d pl),some (.d (.bl true)),some (.d (nI m)),some (.d (.str (mv s)))],rfl,?_⟩;unfold AI;refine sj <| J2 <| eM <| aD <| cB (d:=ba l gs os) rfl <| aD <| cB (d:=nI m) rfl <| aD <| cB (d:= .str (mv s)) rfl <| cg <| DT (safe:=s) (c:=l.length) N.no rfl (by omega) N.o (by omega) hm3 hcl ?_
   refine eM <| aD <| cB (d:=ba l gs os) rfl <| aD <| cB (d:=pl) rfl <| aD <| cB (d:=nI m) rfl <| aD <| cB (d:= .str (mv s)) rfl <| cg ?_
   rw[<-mJ];refine @Kt l.length m l gs os s [] N.no rfl (by omega) N.o hs (by omega) hm3 hcl _ ⟨_,_,false,rfl,rfl,yb Eu,?_⟩
   rw[if_neg (by decide)]
   exact ni ⟨_,rfl,rfl,_,rfl⟩
  subst hδ;rw[Pf];refine eR <| w_and <| MN <| eM <| aD <| cB (d:=ba l gs os) rfl <| cg <| B5 (c:=l.length) N.no rfl (by omega) N.o (by omega) hcl ?_
  refine eM <| aD <| cB (d:=ba l gs os) rfl <| aD <| cB (d:=pl) rfl <| cg ?_
  rw[<-mJ];refine @yH l.length l gs os [] N.no rfl (by omega) N.o hs (by omega) hcl _ ⟨_,_, .bl true,rfl,rfl,wG (cV.Q9 (GX _ _ _ _ _) (by omega)),rfl,?_⟩
  exact MN <| cB (d:=ba l gs os) rfl <| eM <| aD <| cB (d:= .lst (ns.map .int)) rfl <| cg ⟨_,_,e0,ba l gs os,ba l gs os, .bl true,rfl,rfl,NT.eq_self N.fit (by omega), .d (.bl true),rfl,by unfold fH;rfl,⟨[],rfl⟩, .bl true,by unfold res;rfl,rfl,trivial⟩
 obtain⟨v,S1,e,rfl,rfl⟩:=key;unfold Bd NA;simp only[List.map_cons,List.map_nil];rw[e];rfl
end K41
end
open PySem PySem.W PyProof.Rows
set_option maxRecDepth 100000 in
set_option maxHeartbeats 0 in
theorem PySem.Challenge.cw_bearfaults_k41_whole_faults_borne_holds : PySem.Challenge.rw_bearfaults_k41_whole_faults_borne.Holds := by
 w_on;o_law;k_head;(case hw=>w_witness2)
 k_fill
 refine L2.L7 (l:=PySem.Challenge.rw_bearfaults_k41_whole_faults_borne) (n:=63) (k:=9) (x:="script") (g:=K41.Bd) rfl (by decide) rfl ⟨rfl,by decide,by decide⟩ (fun w h Y=>PySem.W.kIn_of Y) ?F K41.EH
 case F=>
  intro w mg fa h KX G Nk
  have qZ:L2.Def (L2.ft KX) mg "vote_of" K41.lg:=by
   dsimp only[L2.ft]
   refine' L2.ck KX G ?a ?l ?c ?k
   (case a=>k_is);(case l=>k_is);(case c=>k_is);(case k=>k_is)
  have nJ:L2.Def (L2.ft KX) mg "gate_mask" K41.iM:=by
   dsimp only[L2.ft]
   refine' L2.ck KX G ?a ?l ?c ?k
   (case a=>k_is);(case l=>k_is);(case c=>k_is);(case k=>k_is)
  have i5:L2.Def (L2.ft KX) mg "in_wire_masks" K41.eF:=by
   dsimp only[L2.ft]
   refine' L2.ck KX G ?a ?l ?c ?k
   (case a=>k_is);(case l=>k_is);(case c=>k_is);(case k=>k_is)
  have pk:L2.Def (L2.ft KX) mg "masks_at" K41.jC:=by
   dsimp only[L2.ft]
   refine' L2.ck KX G ?a ?l ?c ?k
   (case a=>k_is);(case l=>k_is);(case c=>k_is);(case k=>k_is)
  have mh:L2.Def (L2.ft KX) mg "wire_masks" K41.gy:=by
   dsimp only[L2.ft]
   refine' L2.ck KX G ?a ?l ?c ?k
   (case a=>k_is);(case l=>k_is);(case c=>k_is);(case k=>k_is)
  have nF:L2.Def (L2.ft KX) mg "out_masks" K41.iJ:=by
   dsimp only[L2.ft]
   refine' L2.ck KX G ?a ?l ?c ?k
   (case a=>k_is);(case l=>k_is);(case c=>k_is);(case k=>k_is)
  have qX:L2.Def (L2.ft KX) mg "reading" K41.lq:=by
   dsimp only[L2.ft]
   refine' L2.ck KX G ?a ?l ?c ?k
   (case a=>k_is);(case l=>k_is);(case c=>k_is);(case k=>k_is)
  have uh:L2.Def (L2.ft KX) mg "bit_at" K41.mS:=by
   dsimp only[L2.ft]
   refine' L2.ck KX G ?a ?l ?c ?k
   (case a=>k_is);(case l=>k_is);(case c=>k_is);(case k=>k_is)
  have qL:L2.Def (L2.ft KX) mg "read_at" K41.k8:=by
   dsimp only[L2.ft]
   refine' L2.ck KX G ?a ?l ?c ?k
   (case a=>k_is);(case l=>k_is);(case c=>k_is);(case k=>k_is)
  have mi:L2.Def (L2.ft KX) mg "all_inputs" K41.gG:=by
   dsimp only[L2.ft]
   refine' L2.ck KX G ?a ?l ?c ?k
   (case a=>k_is);(case l=>k_is);(case c=>k_is);(case k=>k_is)
  have qT:L2.Def (L2.ft KX) mg "mask_of" K41.lz:=by
   dsimp only[L2.ft]
   refine' L2.ck KX G ?a ?l ?c ?k
   (case a=>k_is);(case l=>k_is);(case c=>k_is);(case k=>k_is)
  have qQ:L2.Def (L2.ft KX) mg "in_mask" K41.lj:=by
   dsimp only[L2.ft]
   refine' L2.ck KX G ?a ?l ?c ?k
   (case a=>k_is);(case l=>k_is);(case c=>k_is);(case k=>k_is)
  have pq:L2.Def (L2.ft KX) mg "is_sound" K41.jN:=by
   dsimp only[L2.ft]
   refine' L2.ck KX G ?a ?l ?c ?k
   (case a=>k_is);(case l=>k_is);(case c=>k_is);(case k=>k_is)
  have qM:L2.Def (L2.ft KX) mg "columns" K41.lH:=by
   dsimp only[L2.ft]
   refine' L2.ck KX G ?a ?l ?c ?k
   (case a=>k_is);(case l=>k_is);(case c=>k_is);(case k=>k_is)
  have qV:L2.Def (L2.ft KX) mg "choices" K41.lA:=by
   dsimp only[L2.ft]
   refine' L2.ck KX G ?a ?l ?c ?k
   (case a=>k_is);(case l=>k_is);(case c=>k_is);(case k=>k_is)
  have w_:L2.Def (L2.ft KX) mg "bears" K41.qh:=by
   dsimp only[L2.ft]
   refine' L2.ck KX G ?a ?l ?c ?k
   (case a=>k_is);(case l=>k_is);(case c=>k_is);(case k=>k_is)
  have qR:L2.Def (L2.ft KX) mg "matters" K41.lG:=by
   dsimp only[L2.ft]
   refine' L2.ck KX G ?a ?l ?c ?k
   (case a=>k_is);(case l=>k_is);(case c=>k_is);(case k=>k_is)
  have k3:L2.Def (L2.ft KX) mg "_law_cell_at" K41.fP:=by
   dsimp only[L2.ft]
   refine' L2.ck KX G ?a ?l ?c ?k
   (case a=>k_is);(case l=>k_is);(case c=>k_is);(case k=>k_is)
  have kZ:L2.Def (L2.ft KX) mg "_law_numbers" K41.fI:=by
   dsimp only[L2.ft]
   refine' L2.ck KX G ?a ?l ?c ?k
   (case a=>k_is);(case l=>k_is);(case c=>k_is);(case k=>k_is)
  have pA:L2.Def (L2.ft KX) mg "_law_kind" K41.jO:=by
   dsimp only[L2.ft]
   refine' L2.ck KX G ?a ?l ?c ?k
   (case a=>k_is);(case l=>k_is);(case c=>k_is);(case k=>k_is)
  have nK:L2.Def (L2.ft KX) mg "_law_gates" K41.iL:=by
   dsimp only[L2.ft]
   refine' L2.ck KX G ?a ?l ?c ?k
   (case a=>k_is);(case l=>k_is);(case c=>k_is);(case k=>k_is)
  have pe:L2.Def (L2.ft KX) mg "_law_told" K41.jV:=by
   dsimp only[L2.ft]
   refine' L2.ck KX G ?a ?l ?c ?k
   (case a=>k_is);(case l=>k_is);(case c=>k_is);(case k=>k_is)
  have ph:L2.Def (L2.ft KX) mg "_law_read" K41.jz:=by
   dsimp only[L2.ft]
   refine' L2.ck KX G ?a ?l ?c ?k
   (case a=>k_is);(case l=>k_is);(case c=>k_is);(case k=>k_is)
  have px:L2.Def (L2.ft KX) mg "_law_outs" K41.jW:=by
   dsimp only[L2.ft]
   refine' L2.ck KX G ?a ?l ?c ?k
   (case a=>k_is);(case l=>k_is);(case c=>k_is);(case k=>k_is)
  have pf:L2.Def (L2.ft KX) mg "_law_bits" K41.jQ:=by
   dsimp only[L2.ft]
   refine' L2.ck KX G ?a ?l ?c ?k
   (case a=>k_is);(case l=>k_is);(case c=>k_is);(case k=>k_is)
  have kU:L2.Def (L2.ft KX) mg "_law_columns" K41.fD:=by
   dsimp only[L2.ft]
   refine' L2.ck KX G ?a ?l ?c ?k
   (case a=>k_is);(case l=>k_is);(case c=>k_is);(case k=>k_is)
  have mr:L2.Def (L2.ft KX) mg "_law_breaks" K41.gn:=by
   dsimp only[L2.ft]
   refine' L2.ck KX G ?a ?l ?c ?k
   (case a=>k_is);(case l=>k_is);(case c=>k_is);(case k=>k_is)
  have pB:L2.Def (L2.ft KX) mg "_law_sets" K41.jD:=by
   dsimp only[L2.ft]
   refine' L2.ck KX G ?a ?l ?c ?k
   (case a=>k_is);(case l=>k_is);(case c=>k_is);(case k=>k_is)
  have qN:L2.Def (L2.ft KX) mg "_law_net" K41.lr:=by
   dsimp only[L2.ft]
   refine' L2.ck KX G ?a ?l ?c ?k
   (case a=>k_is);(case l=>k_is);(case c=>k_is);(case k=>k_is)
  have qS:L2.Def (L2.ft KX) mg "_law_due" K41.lJ:=by
   dsimp only[L2.ft]
   refine' L2.ck KX G ?a ?l ?c ?k
   (case a=>k_is);(case l=>k_is);(case c=>k_is);(case k=>k_is)
  have k4:L2.Def (L2.ft KX) mg "_law_matters" K41.fJ:=by
   dsimp only[L2.ft]
   refine' L2.ck KX G ?a ?l ?c ?k
   (case a=>k_is);(case l=>k_is);(case c=>k_is);(case k=>k_is)
  have D_law:L2.Def (L2.ft KX) mg "law" K41.A8:=by
   dsimp only[L2.ft]
   refine' L2.ck KX G ?a ?l ?c ?k
   (case a=>k_is);(case l=>k_is);(case c=>k_is);(case k=>k_is)
  obtain⟨cl,CF⟩:∃cl,K41.Cf (L2.ft KX) mg cl:=by
   dsimp only[L2.ft]
   refine' K41.LZ KX G ?Px ?Pc ?Ld ?Pt ?P4 ?Pe ?Pr ?Ap ?j1 ?xg ?nG ?Pw ?Py ?Pk ?Pq ?Qe ?P7 ?Pg ?uj ?ug ?qY ?ik ?iq ?ic ?ec ?il ?kY ?kT ?kR ?fK ?iG ?ib ?ie ?ij ?d7 ?fm ?j0 ?j3 ?j5 ?e8 ?gO ?iy ?iu ?ix ?d8 ?ig ?gR ?gS ?gP ?dE ?eU ?gM ?gL ?gQ ?dJ ?eT
   (case Px=>k_is)
   (case Pc=>k_is)
   (case Ld=>k_is)
   (case Pt=>k_is)
   (case P4=>k_is)
   (case Pe=>k_is)
   (case Pr=>k_is)
   (case Ap=>k_is)
   (case j1=>k_is)
   (case xg=>k_is)
   (case nG=>k_is)
   (case Pw=>k_is)
   (case Py=>k_is)
   (case Pk=>k_is)
   (case Pq=>k_is)
   (case Qe=>k_is)
   (case P7=>k_is)
   (case Pg=>k_is)
   (case uj=>k_is)
   (case ug=>k_is)
   (case qY=>k_is)
   (case ik=>k_is)
   (case iq=>k_is)
   (case ic=>k_is)
   (case ec=>k_is)
   (case il=>k_is)
   (case kY=>k_is)
   (case kT=>k_is)
   (case kR=>k_is)
   (case fK=>k_is)
   (case iG=>k_is)
   (case ib=>k_is)
   (case ie=>k_is)
   (case ij=>k_is)
   (case d7=>k_is)
   (case fm=>k_is)
   (case j0=>k_is)
   (case j3=>k_is)
   (case j5=>k_is)
   (case e8=>k_is)
   (case gO=>k_is)
   (case iy=>k_is)
   (case iu=>k_is)
   (case ix=>k_is)
   (case d8=>k_is)
   (case ig=>k_is)
   (case gR=>k_is)
   (case gS=>k_is)
   (case gP=>k_is)
   (case dE=>k_is)
   (case eU=>k_is)
   (case gM=>k_is)
   (case gL=>k_is)
   (case gQ=>k_is)
   (case dJ=>k_is)
   (case eT=>k_is)
  have ei:=CF.ei
  have fQ:=CF.fQ
  have eh:=CF.eh
  have fj:=CF.fj
  have eg:=CF.eg
  have dN:=CF.dN
  have dP:=CF.dP
  have T:K41.Tp (L2.ft KX) mg cl:=by
   dsimp only[L2.ft]
   refine' ⟨PySem.W.mg_none_of KX G ?z_enumerate,PySem.W.mg_none_of KX G ?z_range,PySem.W.mg_none_of KX G ?z_len,PySem.W.mg_none_of KX G ?z_tuple,PySem.W.mg_none_of KX G ?z_reversed,PySem.W.mg_none_of KX G ?z_all,PySem.W.mg_none_of KX G ?z_zip,PySem.W.mg_none_of KX G ?z_abs,PySem.W.mg_none_of KX G ?z_min,PySem.W.mg_none_of KX G ?z_int,PySem.W.mg_none_of KX G ?z_sum,PySem.W.mg_none_of KX G ?z_max,CF.C_Bench,CF.N_Bench_net,CF.N_Bench_many_inputs,CF.N_Bench_full,CF.N_Bench_in_masks,CF.M_Bench,CF.C_Trial,CF.N_Trial_bench,CF.N_Trial_plain,CF.N_Trial_unsure,CF.M_Trial⟩
   (case z_enumerate=>k_is);(case z_range=>k_is);(case z_len=>k_is);(case z_tuple=>k_is);(case z_reversed=>k_is);(case z_all=>k_is);(case z_zip=>k_is);(case z_abs=>k_is);(case z_min=>k_is);(case z_int=>k_is);(case z_sum=>k_is);(case z_max=>k_is)
  obtain⟨fl,fd,Fl,hl⟩:=D_law
  have e0:=Nk.symm.trans hl
  cases e0
  refine' ⟨fd,?b,fun base kb nb=>K41.KR T qZ nJ i5 pk mh nF qX uh qL mi qT qQ ei fQ eh pq fj qM qV eg dN dP w_ qR k3 kZ pA nK pe ph px pf kU mr pB qN qS k4 Fl⟩
  obtain⟨_,_,_,_,_,_,_,_,_,e,_,_⟩:=Fl.ex
  subst e
  exact fun s u=> .of_eq rfl
