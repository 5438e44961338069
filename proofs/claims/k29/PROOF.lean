import PyProof.Rows.All
import Wide.All
import OpenK.AllK
import Wide.FinOn
import Lean
import PyProof.EqAt
import PyProof.EqKinds
import PyProof.TupleCall
import PyProof.Rows.StrJoin2
import PyProof.TupleOfGen
import PyProof.ListRange
import PyProof.Draws
import PyProof.Rows.StrClose3
import KE.KSortedM
import PyProof.Rows.SortWalk
import PyProof.WalkInts
import PyProof.Rows.Range3
import PyProof.ZipIter
import PyProof.ConsumeWalk
import PyProof.Rows.SeqMore
import KE.KRevIter
import KE.KRevSl
import KE.KUnpack
import KE.KDictSum
import KE.KTupSum
import OpenK.KRaise
import KE.KTryMore
import PyProof.ExcArgs
import PyProof.ExcBaseAll.ValueError
import PyProof.NsDelKeeps
import PySem.Challenge.RW_bearfaults_k29_neither_plain_nor_full
noncomputable section
set_option bootstrap.genMatcherCode false
section
open PySem
abbrev KQ:=List (Addr×Obj)
abbrev KR:=Value->Shared->Prop
abbrev KS:=List (Str×Nat)
abbrev KU:=List (Str×List Nat)
abbrev KW:=List (List Nat)
abbrev KY:=Str->Option Value
abbrev KZ:=Nat->Addr
end
def PySem.W.Fast.tw425906586220946674:=0
def PySem.W.Fast.tw13732943452885417390:=0
def PySem.W.Fast.tw13751123096774066084:=0
def PySem.W.Fast.tw4017016567239875237:=0
def PySem.W.Fast.tw8047493951348877395:=0
def PySem.W.Fast.tw6427465213460581545:=0
def PySem.W.Fast.tw17892638405309580059:=0
def PySem.W.Fast.tw4553517219224899257:=0
def PySem.W.Fast.tw15158783134398188396:=0
def PySem.W.Fast.tw16966227019665054366:=0
def PySem.W.Fast.tw1818067392063847988:=0
def PySem.W.Fast.tw6335429781036379469:=0
def PySem.W.Fast.tw16864869584194055172:=0
def PySem.W.Fast.tw17085124138223627780:=0
def PySem.W.Fast.tw5864910284613811258:=0
def PySem.W.Fast.tw1624632672878658192:=0
def PySem.W.Fast.tw8768670045465196112:=0
def PySem.W.Fast.tw6982815297782406018:=0
def PySem.W.Fast.tw15948174006149890048:=0
def PySem.W.Fast.tw4488160748899960633:=0
def PySem.W.Fast.tw12553954007744754734:=0
def PySem.W.Fast.tw5823928790800265264:=0
def PySem.W.Fast.tw4045983382383295655:=0
def PySem.W.Fast.tw2243250062100902849:=0
def PySem.W.Fast.tw9178314548104733081:=0
def PySem.W.Fast.tw11228049516311493522:=0
def PySem.W.Fast.tw13876965934462809914:=0
def PySem.W.Fast.tw9856445130724893062:=0
def PySem.W.Fast.tw3778518922401615050:=0
def PySem.W.Fast.tw2472761003668612981:=0
def PySem.W.Fast.tw12026189217650575646:=0
def PySem.W.Fast.tw14188506425803923541:=0
def PySem.W.Fast.tw9062018298847438821:=0
def PySem.W.Fast.tw3463248955512203126:=0
def PySem.W.Fast.tw8858435711994698095:=0
def PySem.W.Fast.tw962191313896789348:=0
def PySem.W.Fast.tw7198688636194124785:=0
def PySem.W.Fast.tw3372762188670895907:=0
def PySem.W.Fast.tw650150434998464236:=0
def PySem.W.Fast.tw16886706560588778810:=0
set_option Elab.async false
set_option linter.all false
set_option maxRecDepth 100000
set_option maxHeartbeats 4000000
section
namespace L2
open PySem PySem.Spec PyProof.Rows
abbrev Key:=Sum Int Str
def l3:Key->Value->Bool
 | .inl k,v=>Value.isInt k v
 | .inr x,v=>Value.isStrOf x v
def E6(w:World):Key->Int
 | .inl k=>hashInt k
 | .inr x=>hashStr w x
theorem bY:∀{k:Key} {v:Value},l3 k v=true->(∃i t,k=Sum.inl i/\v=Value.int i t)\/(∃x t,k=Sum.inr x/\v=Value.str x t)
 | .inl i,v,h=>by
   obtain⟨t,e⟩:=Value.isInt_shape (k:=i) (v:=v) h;exact .inl ⟨i,t,rfl,e⟩
 | .inr x,v,h=>by
   obtain⟨t,e⟩:=Value.isStrOf_shape (x:=x) (v:=v) h;exact .inr ⟨x,t,rfl,e⟩
theorem r9(i:Int)(t:Tok):l3 (.inl i) (.int i t)=true:=by simp [l3,Value.isInt]
theorem rX(x:Str)(t:Tok):l3 (.inr x) (.str x t)=true:=by simp [l3,Value.isStrOf]
theorem AB(a b:Int):decide ((Sum.inl a:Key)=Sum.inl b)=(a==b):=by
 by_cases e:a=b
 .subst e;simp
 .have h:¬(Sum.inl a:Key)=Sum.inl b:=fun q=>e (Sum.inl.inj q)
  rw[decide_eq_false h];exact(beq_eq_false_iff_ne.mpr e).symm
theorem zu(a b:Str):decide ((Sum.inr a:Key)=Sum.inr b)=decide (a=b):=by
 by_cases e:a=b
 .subst e;simp
 .have h:¬(Sum.inr a:Key)=Sum.inr b:=fun q=>e (Sum.inr.inj q)
  rw[decide_eq_false h,decide_eq_false e]
theorem AD(a:Int)(b:Str):decide ((Sum.inl a:Key)=Sum.inr b)=false:=decide_eq_false (fun q=>nomatch q)
theorem zt(a:Str)(b:Int):decide ((Sum.inr a:Key)=Sum.inl b)=false:=decide_eq_false (fun q=>nomatch q)
def cb(prog:Program)(w:World):PySem.KeyKind prog w Key where
 is:=l3
 hash:=E6 w
 inj:=fun v a b ha hb=>by
  rcases bY ha with⟨i,t,rfl,rfl⟩ | ⟨x,t,rfl,rfl⟩
  .rcases bY hb with⟨j,u,rfl,e⟩ | ⟨y,u,rfl,e⟩
   .injection e with e1 _;rw [e1]
   .exact nomatch e
  .rcases bY hb with⟨j,u,rfl,e⟩ | ⟨y,u,rfl,e⟩
   .exact nomatch e
   .injection e with e1 _;rw [e1]
 byValue:=fun k v h=>by
  rcases bY h with⟨i,t,rfl,rfl⟩ | ⟨x,t,rfl,rfl⟩ <;> rfl
 pyHash:=fun hv h=>by
  rcases bY hv with⟨i,t,rfl,rfl⟩ | ⟨x,t,rfl,rfl⟩
  .exact wpAny_pyHash_int h
  .exact wpAny_pyHash_str h
 eqBool:=fun hu hv h=>by
  rcases bY hu with⟨i,t,rfl,rfl⟩ | ⟨x,t,rfl,rfl⟩
  .rcases bY hv with⟨j,u,rfl,rfl⟩ | ⟨y,u,rfl,rfl⟩
   .rw [AB] at h;exact wpAny_eqBool_int h
   .rw [AD] at h;exact SeqAt.EqAt.int_str i t y u _ _ _ _ h
  .rcases bY hv with⟨j,u,rfl,rfl⟩ | ⟨y,u,rfl,rfl⟩
   .rw [zt] at h;exact SeqAt.EqAt.str_int x t j u _ _ _ _ h
   .rw [zu] at h;exact wpAny_eqBool_str h
 «strs»:=fun k x t v h=>by
  rcases bY h with⟨i,u,rfl,e⟩ | ⟨y,u,rfl,e⟩
  .exact nomatch e
  .injection e with e1 _
   subst e1;cases v <;> rfl
theorem n9(prog:Program)(w:World)(i:Int)(t:Tok):(cb prog w).is (.inl i) (.int i t)=true:=r9 i t
theorem nY(prog:Program)(w:World)(x:Str)(t:Tok):(cb prog w).is (.inr x) (.str x t)=true:=rX x t
inductive V where
 | cy | bl (b:Bool) | int (i:Int) | str (x:Str) | byt (b:Array UInt8) | flt (b:UInt64) | ref (a:Addr) | ty (n:String)
 deriving DecidableEq
def RelV:V->Value->Prop
 | .cy,u=>u=Value.none
 | .bl b,u=>u=Value.bool b
 | .int i,u=>∃t,u=Value.int i t
 | .str x,u=>∃t,u=Value.str x t
 | .byt b,u=>∃t,u=Value.bytes b t
 | .flt b,u=>∃t,u=Value.float b t
 | .ref a,u=>u=Value.ref a
 | .ty n,u=>u=Value.type n
abbrev Vals:List V->List Value->Prop:=Paired RelV
theorem Vals.length{xs:List V}{us:List Value}(r:Vals xs us):xs.length=us.length:=Paired.length r
theorem Vals.get:∀{xs:List V} {us:List Value} {i:Nat} {x:V},Vals xs us->xs[i]? =some x->∃u,us[i]? =some u/\RelV x u
 | _,_,_,_, .nil,e=>by simp at e
 | _,_,0,_, .cons r _,e=>by simp at e;subst e;exact⟨_,rfl,r⟩
 | _,_,i+1,x, .cons _ t,e=>by
   obtain⟨u,h1,h2⟩:=Vals.get (i:=i) (x:=x) t (by simpa using e)
   exact⟨u,by simpa using h1,h2⟩
theorem Vals.set{x:V}{u:Value}(r:RelV x u):∀{xs:List V} {us:List Value} (i:Nat),Vals xs us->Vals (xs.set i x) (us.set i u)
 | _,_,_, .nil=> .nil
 | _,_,0, .cons _ t=> .cons r t
 | _,_,i+1, .cons q t=> .cons q (Vals.set r i t)
theorem Vals.append:∀{xs ys:List V} {us ws:List Value},Vals xs us->Vals ys ws->Vals (xs++ys) (us++ws)
 | _,_,_,_, .nil,s=>s
 | _,_,_,_, .cons r t,s=> .cons r (Vals.append t s)
theorem Vals.take:∀{xs:List V} {us:List Value} (n:Nat),Vals xs us->Vals (xs.take n) (us.take n)
 | _,_,0,_=> .nil
 | _,_,_+1, .nil=> .nil
 | _,_,n+1, .cons r t=> .cons r (Vals.take n t)
theorem Vals.drop:∀{xs:List V} {us:List Value} (n:Nat),Vals xs us->Vals (xs.drop n) (us.drop n)
 | _,_,0,r=>r
 | _,_,_+1, .nil=> .nil
 | _,_,n+1, .cons _ t=>Vals.drop n t
def rY:Option V->Option Value->Prop
 | some v,some u=>RelV v u
 | none,none=>True
 | _,_=>False
def KV{κ:Type}:List (κ × V)->List (κ × Value)->Prop:=Paired fun(p:κ × V) (q:κ × Value)=>p.1=q.1/\RelV p.2 q.2
def kV:Key->V
 | .inl i=> .int i
 | .inr x=> .str x
inductive HO where
 | lst (xs:List V)
 | tup (xs:List V)
 | dK (aI:List (Key × V)) | dT (aI:List (List Key × V))
 | set (S:Int->Bool) (n:Nat)
 | ins (C dx:Addr) (fs:List (Str × V))
 | own (x:Addr)
 | xd (fs:List (Str × V))
 | met (f x:Addr)
 | rng (lo hi:Int)
 | jB (o:Obj) (u:HO)
 | tbl (ps:Array Value)
 | ext (φ:Heap->Prop)
abbrev Hp:=Addr->Option HO
def upd(H:Hp)(a:Addr)(o:HO):Hp:=fun b=>if b=a then some o else H b
theorem aU{a:Addr}{o:HO}:upd H a o a=some o:=by unfold upd;rw [if_pos rfl]
theorem aW{H:Hp}{a b:Addr}{o:HO}(h:b≠a):upd H a o b=H b:=by unfold upd;rw [if_neg h]
theorem xr{a:Addr}{o u:HO}:upd (upd H a o) a u=upd H a u:=by
 funext b;unfold upd;split <;> rfl
theorem aX{H:Hp}{a b:Addr}{o:HO}(h:H a=some o)(h':H b=none):a≠b:=by
 intro e;subst e;rw [h] at h';cases h'
section
variable (P:Program) (w:World)
def cT(H:Hp)(h:Heap)(a:Addr):HO->Prop
 | .lst xs=>xs.length<=sizeLine/\∃(its:List Value) (n:Nat),Vals xs its/\h.get? a=some {cls:= .type "list",data:= .seq its.toArray n}
 | .tup xs=>xs.length<=sizeLine/\∃its:List Value,Vals xs its/\IsTup h a its.toArray
 | .dK aI=>aI.length<=sizeLine/\(a==sysModules)=false/\∃vs,KV aI vs/\h.DictOf (cb P w) a vs
 | .dT aI=>aI.length<=sizeLine/\(a==sysModules)=false/\∃xs:List (List Key × Addr × Value),
    Paired (fun(p:List Key × V) (q:List Key × Addr × Value)=>p.1=q.1/\H q.2.1=some (.tup (p.1.map kV))/\RelV p.2 q.2.2) aI xs/\
    ∃o es ep,h.get? a=some o/\o.ExactDict/\o.data= .dict es ep/\es.toList=xs.map (entryOfKey (tupleKind (cb P w)))/\(xs.map (·.1)).Nodup
 | .set S n=>h.SetOf (intKind P w) a S n
 | .ins C dx fs=>H dx=some (.own a)/\fs.length<=1000/\dx≠a/\h.get? a=some (PySem.W.instObj C dx)/\
    ∃mA,h.Ns1 dx mA/\(∀f,rY (fs.lookup f) (mA f))/\PySem.Within mA (fs.map (·.1))
 | .own _=>∃o,h.get? a=some o
 | .xd fs=>∃mA,h.Ns1 a mA/\∀f,rY (fs.lookup f) (mA f)
 | .rng lo hi=>∃t u v,h.get? a=some {cls:= .type "range",data:= .fields #[.int lo t, .int hi u, .int 1 v]}
 | .jB o u=>h.get? a=some o/\cT H h a u
 | .tbl ps=>h.get? a=some {cls:= .none,data:= .fields ps}
 | .met f x=>h.get? a=some (PySem.W.methodObj (.ref f) (.ref x))
 | .ext φ=>φ h/\(∃o,h.get? a=some o)/\∀h1 h2:Heap,φ h1->(∀o,h1.get? a=some o->h2.get? a=some o)->φ h2
def ie(H:Hp)(h:Heap):Prop:=∀a o,H a=some o->cT P w H h a o
end
section
variable {P:Program} {w:World} {H H':Hp} {h h':Heap} {a:Addr} {o:HO}
theorem cT.lt(x:cT P w H h a o):a < h.objs.size:=by
 cases o with
 | lst xs=>obtain⟨_,_,_,_,e⟩:=x;exact Heap.lt_size e
 | tup xs=>obtain⟨_,_,_,p⟩:=x;exact p.lt
 | dK aI=>obtain⟨_,_,_,_,o,_,_,e,_⟩:=x;exact Heap.lt_size e
 | dT aI=>obtain⟨_,_,_,_,o,_,_,e,_⟩:=x;exact Heap.lt_size e
 | set S n=>obtain⟨o,_,_,_,e,_⟩:=x;exact Heap.lt_size e
 | ins C dx fs=>obtain⟨_,_,_,e,_⟩:=x;exact Heap.lt_size e
 | own y=>obtain⟨_,e⟩:=x;exact Heap.lt_size e
 | xd fs=>obtain⟨_,⟨_,_,_,e,_⟩,_⟩:=x;exact Heap.lt_size e
 | rng lo hi=>obtain⟨_,_,_,e⟩:=x;exact Heap.lt_size e
 | jB ob u=>obtain⟨e,_⟩:=x;exact Heap.lt_size e
 | tbl ps=>exact Heap.lt_size (show h.get? a=some _ from x)
 | met f y=>exact Heap.lt_size (show h.get? a=some _ from x)
 | ext φ=>obtain⟨_,⟨_,e⟩,_⟩:=x;exact Heap.lt_size e
theorem Paired.Co{α β:Type}{F G:α->β->Prop}:∀{C_:List α} {CU:List β},Paired F C_ CU->(∀a b,F a b->G a b)->Paired G C_ CU
 | _,_, .nil,_=> .nil
 | _,_, .cons r t,f=> .cons (f _ _ r) (Paired.Co t f)
theorem cT.o_(x:cT P w H h a o)(k:∀b u,(b=a\/H b=some (.own a))->h.get? b=some u->h'.get? b=some u)
 (ho:∀b,H b=some (.own a)->H' b=some (.own a)) (ht:∀b xs,H b=some (.tup xs)->H' b=some (.tup xs)):cT P w H' h' a o:=by
 induction o with
 | lst xs=>obtain⟨z,its,n,r,e⟩:=x;exact⟨z,its,n,r,k _ _ (.inl rfl) e⟩
 | tup xs=>obtain⟨z,its,r,ob,e,c⟩:=x;exact⟨z,its,r,ob,k _ _ (.inl rfl) e,c⟩
 | dK aI=>obtain⟨z,y,vs,r,ob,es,ep,e,c⟩:=x;exact⟨z,y,vs,r,ob,es,ep,k _ _ (.inl rfl) e,c⟩
 | dT aI=>
   obtain⟨z,y,xs,r,ob,es,ep,e,c⟩:=x;exact⟨z,y,xs,Paired.Co r fun p q z=>⟨z.1,ht _ _ z.2.1,z.2.2⟩,ob,es,ep,k _ _ (.inl rfl) e,c⟩
 | set S n=>obtain⟨ob,es,ep,t,e,c⟩:=x;exact⟨ob,es,ep,t,k _ _ (.inl rfl) e,c⟩
 | ins C dx fs=>
   obtain⟨d,z,ne,e,mA,⟨od,es,ep,e2,c⟩,r⟩:=x;exact⟨ho _ d,z,ne,k _ _ (.inl rfl) e,mA,⟨od,es,ep,k _ _ (.inr d) e2,c⟩,r⟩
 | own y=>obtain⟨ob,e⟩:=x;exact⟨ob,k _ _ (.inl rfl) e⟩
 | xd fs=>obtain⟨mA,⟨od,es,ep,e,c⟩,r⟩:=x;exact⟨mA,⟨od,es,ep,k _ _ (.inl rfl) e,c⟩,r⟩
 | rng lo hi=>obtain⟨t,u,v,e⟩:=x;exact⟨t,u,v,k _ _ (.inl rfl) e⟩
 | jB ob u ih=>obtain⟨e,q⟩:=x;exact⟨k _ _ (.inl rfl) e,ih q⟩
 | tbl ps=>
   have e:h.get? a=some {cls:= .none,data:= .fields ps}:=x;show h'.get? a=some {cls:= .none,data:= .fields ps};exact k a _ (.inl rfl) e
 | met f y=>
   have e:h.get? a=some (PySem.W.methodObj (.ref f) (.ref y)):=x;show h'.get? a=some (PySem.W.methodObj (.ref f) (.ref y));exact k a _ (.inl rfl) e
 | ext φ=>obtain⟨p,⟨o,e⟩,st⟩:=x;exact⟨st _ _ p fun o q=>k _ _ (.inl rfl) q,⟨o,k _ _ (.inl rfl) e⟩,st⟩
theorem ie.lt(x:ie P w H h)(e:H a=some o):a < h.objs.size:=(x a o e).lt
theorem ie.fresh(x:ie P w H h)(e:h.objs.size<=a):H a=none:=by
 cases q:H a with
 | none=>rfl
 | some u=>exact absurd (Nat.lt_of_lt_of_le (x.lt q) e) (Nat.lt_irrefl _)
theorem ie.kept(x:ie P w H h)(k:∀b u,h.get? b=some u->h'.get? b=some u):ie P w H h':=fun a o e=>
 (x a o e).o_ (fun b u _ q=>k b u q) (fun _ q=>q) fun _ _ q=>q
theorem ie.laid(x:ie P w H h)(k:∀b u,h.get? b=some u->h'.get? b=some u)(hp:h.objs.size<=a)(new:cT P w (upd H a o) h' a o):ie P w (upd H a o) h':=fun b u e=>by
 have hn:=x.fresh hp;by_cases hb:b=a
 .subst hb;rw [aU] at e;cases e;exact new
 .rw [aW hb] at e;exact(x b u e).o_ (fun c v _ q=>k c v q) (fun c q=>by rw[aW (aX q hn)];exact q) fun c xs q=>by rw[aW (aX q hn)];exact q
end
def Rd(H:Hp)(a:Addr)(u:HO):Prop:=H a=some u\/∃o,H a=some (.jB o u)
theorem Rd.ok{a:Addr}{u:HO}(r:Rd H a u)(x:ie P w H h):cT P w H h a u:=by
 rcases r with r | ⟨o,r⟩
 .exact x a u r
 .obtain⟨_,q⟩:=x a _ r;exact q
def CD:Option HO->Prop
 | some (.lst _)=>True
 | some (.dK _)=>True
 | some (.dT _)=>True
 | some (.set _ _)=>True
 | some (.ins _ _ _)=>True
 | some (.ext _)=>True
 | _=>False
section
variable {P:Program} {w:World} {H:Hp} {h h':Heap} {x e:Addr} {o':HO}
theorem ie.write(ok:ie P w H h)(mu:CD (H x))(he:e=x\/H e=some (.own x))(k:∀b u,b≠e->h.get? b=some u->h'.get? b=some u)(Bn:∃u,h'.get? e=some u)
 (new:cT P w (upd H x o') h' x o'):ie P w (upd H x o') h':=fun b u q=>by
 have nown:∀c y,H c=some (.own y)->c≠x:=fun c y r z=>by subst z;rw [r] at mu;exact mu
 have ntup:∀c xs,H c=some (.tup xs)->c≠x:=fun c xs r z=>by subst z;rw [r] at mu;exact mu
 by_cases hb:b=x
 .subst hb;rw [aU] at q;cases q;exact new
 .rw [aW hb] at q;by_cases hbe:b=e
  .have q':H b=some (.own x):=by
    rcases he with z | z
    .exact absurd (hbe.trans z) hb
    .rw [hbe];exact z
   rw[q] at q';cases q';obtain⟨v,hv⟩:=Bn;exact⟨v,by rw[hbe];exact hv⟩
  .refine(ok b u q).o_ (fun c v hc r=>k c v ?_ r) (fun c r=>by rw[aW (nown c b r)];exact r) fun c xs r=>by rw[aW (ntup c xs r)];exact r
   rcases hc with rfl | hc
   .exact hbe
   .rintro rfl;rcases he with z | z
    .exact nown c b hc z
    .rw [hc] at z;cases z;exact hb rfl
end
structure Un (fs ex:List Addr) (H H':Hp) (h h':Heap):Prop where
 keep:∀b o,h.get? b=some o->H b=none->b ∉ fs->b ∉ ex->h'.get? b=some o
 slot:∀b o,h.get? b=some o->H b=none->b∈fs->b ∉ ex->∃sl,h'.get? b=some {o with slots:=sl}
 free:∀b o,h.get? b=some o->H b=none->b ∉ ex->H' b=none
 there:∀b o,h.get? b=some o->b ∉ ex->∃o',h'.get? b=some o'
 tups:∀b xs,H b=some (.tup xs)->H' b=some (.tup xs)
 frzs:∀b o u,H b=some (.jB o u)->H' b=some (.jB o u)
 tbls:∀b ps,H b=some (.tbl ps)->∃more,H' b=some (.tbl (ps++more))
section
variable {fs CN ex KJ:List Addr} {H H1 H2:Hp} {h h1 h2 h':Heap} {a x e:Addr} {o:HO}
theorem Un.any(u:Un fs ex H H1 h h1){b:Addr}{ob:Obj}(q:h.get? b=some ob)(n:H b=none)(hx:b ∉ ex):∃sl,h1.get? b=some {ob with slots:=sl}:=by
 by_cases hb:b∈fs
 .exact u.slot b ob q n hb hx
 .exact⟨ob.slots,u.keep b ob q n hb hx⟩
theorem Un.kept(k:∀b u,h.get? b=some u->h'.get? b=some u):Un fs ex H H h h':=
 ⟨fun b ob q _ _ _=>k b ob q,fun b ob q _ _ _=>⟨ob.slots,k b ob q⟩,fun _ _ _ n _=>n,fun b ob q _=>⟨ob,k b ob q⟩,fun _ _ q=>q,fun _ _ _ q=>q,fun _ ps q=>⟨#[],by rw[q];simp⟩⟩
theorem Un.refl:Un fs ex H H h h:=Un.kept fun _ _ q=>q
theorem Un.laid(k:∀b u,h.get? b=some u->h'.get? b=some u)(hp:h.objs.size<=a)(hn:H a=none):Un fs ex H (upd H a o) h h' where
 keep:=fun b u q _ _ _=>k b u q
 slot:=fun b u q _ _ _=>⟨u.slots,k b u q⟩
 free:=fun b u q n _=>by rw[aW (Nat.ne_of_lt (Nat.lt_of_lt_of_le (Heap.lt_size q) hp))];exact n
 there:=fun b u q _=>⟨u,k b u q⟩
 tups:=fun b xs q=>by rw[aW (aX q hn)];exact q
 frzs:=fun b u xs q=>by rw[aW (aX q hn)];exact q
 tbls:=fun b ps q=>⟨#[],by rw[aW (aX q hn),q];simp⟩
theorem Un.write(mu:CD (H x))(he:e=x\/H e=some (.own x))(k:∀b u,b≠e->h.get? b=some u->h'.get? b=some u)(Bn:∃u,h'.get? e=some u):Un fs ex H (upd H x o) h h':=by
 have hx:∀b,H b=none->b≠x:=fun b n z=>by subst z;rw [n] at mu;exact mu
 have hb:∀b,H b=none->b≠e:=fun b n z=>by
  subst z;rcases he with r | r
  .exact hx b n r
  .rw [n] at r;cases r
 have hm:∀b u,H b=some u->¬CD (some u)->b≠x:=fun b u q nm z=>by subst z;rw [q] at mu;exact nm mu
 refine⟨fun b u q n _ _=>k b u (hb b n) q,fun b u q n _ _=>⟨u.slots,k b u (hb b n) q⟩,fun b u q n _=>by rw[aW (hx b n)];exact n,fun b u q _=>?_,
  fun b xs q=>by rw[aW (hm b _ q fun z=>z)];exact q,fun b u xs q=>by rw[aW (hm b _ q fun z=>z)];exact q,fun b ps q=>⟨#[],by rw[aW (hm b _ q fun z=>z),q];simp⟩⟩
 by_cases hbe:b=e
 .subst hbe;exact Bn
 .exact⟨u,k b u hbe q⟩
end
def wb(h:Heap)(H:Hp):List Addr:=(List.range h.objs.size).filter fun a=>(H a).isSome
def nE(h:Heap)(H:Hp):Heap:=PySem.W.hideAll h (wb h H)
theorem r6(h:Heap)(H:Hp):(nE h H).objs.size=h.objs.size:=PySem.W.hideAll_size _ _
theorem vn{h:Heap}{H:Hp}{b:Addr}{o:Obj}(e:h.get? b=some o)(n:H b=none):(nE h H).get? b=some o:=
 PySem.W.hideAll_get _ e fun hm=>by
  have q:(H b).isSome=true:=(List.mem_filter.mp hm).2;rw[n] at q;simp at q
theorem xF{h:Heap}{H:Hp}{b:Addr}{o:Obj}(e:(nE h H).get? b=some o):h.get? b=some o/\H b=none:=by
 have e':h.get? b=some o:=PySem.W.of_hideAll (wb h H) e;refine⟨e',?_⟩;cases q:H b with
 | none=>rfl
 | some x=>
   have hm:b∈wb h H:=List.mem_filter.mpr ⟨List.mem_range.mpr (Heap.lt_size e'),by simp [q]⟩
   have z:(nE h H).get? b=none:=PySem.W.hideAll_none (wb h H) hm;rw[z] at e;cases e
def xn(g h:Heap)(L:Addr):KQ:=(List.range h.objs.size).filterMap fun a=>if a=L\/(g.get? a).isSome=true then none else(h.get? a).map fun o=>(a,o)
def rest(g h:Heap)(L d:Addr):KQ:=(xn g h L).filter fun p=>decide (p.1≠d)
structure Mod (K:W.Frag) (mg:KY) (base:Heap):Prop where
 kin:K.In base
 glob:base.Ns mainGlobals mg
 blt:∃mb,base.Ns builtinsNs mb/\∀x:Str,x≠"__name__"->mb x=bootBuiltins x
 nolimit:base.NoLimit
structure Cx where
 prog:Program
 w:World
 K:W.Frag
 mg:KY
 base:Heap
 A:Around
 N:List Str
 s₀:Shared
 H₀:Hp
 env:Env
 outer:List Env
 stack:List Env
 ex:List Addr
 fn:Str->Bool
 calm:Bool
 pn:KQ
 xe:KR
def iC(l:List Env):List Addr:=l.filterMap (·.frame)
abbrev Cx.fs(X:Cx):List Addr:=iC X.outer
def Az(sc:Scope)(x:Str):Prop:=sc.names.lookup x=some .local\/sc.names.lookup x=some .cell\/sc.names.lookup x=some .free
def Loc(sc:Scope)(x:Str):Prop:=sc.names.lookup x=some .local\/sc.names.lookup x=some .cell
def Look(env:Env)(h:Heap)(m:KY)(x:Str)(u:Value):Prop:=
 (env.kindOf x=some .local/\m x=some u)\/((env.kindOf x=some .cell\/env.kindOf x=some .free)/\∃c,env.cells.lookup x=some c/\h.IsCell c (some u))
structure Cx.Ok (X:Cx):Prop where
 mod:Mod X.K X.mg X.base
 kind:X.env.scope.kind= .function
 glob:X.env.globals=mainGlobals
 blt:X.env.builtins=builtinsNs
 above:X.s₀.heap.objs.size<=X.env.locals
 inj:∀x y c,X.env.cells.lookup x=some c->X.env.cells.lookup y=some c->x=y
 has:∀x,(X.env.kindOf x=some .cell\/X.env.kindOf x=some .free)->∃c,X.env.cells.lookup x=some c
 cab:∀x c,X.fn x=true->X.env.cells.lookup x=some c->X.s₀.heap.objs.size<=c
 hd:X.calm=true->X.A.handled=none
 frames:X.A.frames=some X.stack
 stk:X.stack=X.outer\/(X.stack=X.env ::X.outer/\X.env.frame=some X.env.locals)
 exf:∀b∈X.ex,b≠X.env.locals/\∀x c,X.env.cells.lookup x=some c->c≠b
 bs:∀b o,X.base.get? b=some o->X.s₀.heap.get? b=some o/\X.H₀ b=none
 bsz:X.base.objs.size<=X.s₀.heap.objs.size
 noex:∀b o,X.base.get? b=some o->b ∉ X.ex
 exfs:∀b∈X.ex,b ∉ X.fs
 jC:X.s₀.heap.FunFrames X.base X.outer
 frf:∀b∈X.fs,X.H₀ b=none
structure Inv (X:Cx) (pins:KQ) (σ:List (Option V)) (H:Hp) (s:Shared):Prop where
 ok:X.Ok
 os:s.os=X.s₀.os
 bare:AllBare s.gens
 base:Un X.fs X.ex X.H₀ H X.s₀.heap s.heap
 loc:∃m,s.heap.Ns X.env.locals m/\∀(i:Nat) (x:Str) (v:V),X.N[i]? =some x->σ[i]? =some (some v)->Az X.env.scope x->∃u,RelV v u/\Look X.env s.heap m x u
 cell:∀x c,X.env.cells.lookup x=some c->∃v,s.heap.IsCell c v
 free:H X.env.locals=none
 freeC:∀x c,X.env.cells.lookup x=some c->H c=none
 pin:∀p∈X.pn++pins,s.heap.get? p.1=some p.2/\H p.1=none/\p.1≠X.env.locals/\p.1 ∉ X.fs/\∀v,p.2.data≠ .cell v
 hok:ie X.prog X.w H s.heap
 len:σ.length=X.N.length
section
variable {X:Cx} {pins:KQ} {σ:List (Option V)} {H H':Hp} {s:Shared} {h':Heap}
theorem Cx.Ok.EG(ok:X.Ok){b:Addr}{o:Obj}(e:X.base.get? b=some o):b ∉ X.fs:=fun hb=>by
 have:=(ok.jC.mem hb).1;rw[e] at this;cases this
theorem Inv.bs(I:Inv X pins σ H s):∀b o,X.base.get? b=some o->s.heap.get? b=some o/\H b=none:=fun b o e=>
 ⟨I.base.keep b o (I.ok.bs b o e).1 (I.ok.bs b o e).2 (I.ok.EG e) (I.ok.noex b o e),I.base.free b o (I.ok.bs b o e).1 (I.ok.bs b o e).2 (I.ok.noex b o e)⟩
theorem Inv.bk(I:Inv X pins σ H s):∀b o,X.base.get? b=some o->s.heap.get? b=some o:=fun b o e=>(I.bs b o e).1
theorem Inv.mod(I:Inv X pins σ H s):Mod X.K X.mg X.base:=I.ok.mod
theorem Inv.ve(I:Inv X pins σ H s):X.K.In s.heap:=I.ok.mod.kin.keeps I.bk
theorem Inv.lt(I:Inv X pins σ H s):X.env.locals < s.heap.objs.size:=let⟨_,hn,_⟩:=I.loc;hn.lt
theorem Inv.sz(I:Inv X pins σ H s):X.s₀.heap.objs.size<=s.heap.objs.size:=Nat.le_trans I.ok.above (Nat.le_of_lt I.lt)
theorem Inv.EE(I:Inv X pins σ H s){a:Addr}(h:s.heap.objs.size<=a):a ∉ X.fs:=fun hb=>by
 obtain⟨_,o,ho,_⟩:=I.ok.jC.mem hb;exact absurd (Nat.lt_of_lt_of_le (Heap.lt_size ho) (Nat.le_trans I.sz h)) (Nat.lt_irrefl _)
theorem Inv.vH(I:Inv X pins σ H s):∀x c,X.env.cells.lookup x=some c->c≠X.env.locals:=fun x c e z=>by
 obtain⟨v,o,ho,hd⟩:=I.cell x c e;obtain⟨m,⟨o',es,ep,pj,JN,_⟩,_⟩:=I.loc;rw[z,pj] at ho;cases ho;rw [JN] at hd;cases hd
theorem Inv.jC(I:Inv X pins σ H s):s.heap.FunFrames X.base X.outer:=by
 have all:∀(l:List Env),(∀b∈iC l,b∈X.fs)->X.s₀.heap.FunFrames X.base l->s.heap.FunFrames X.base l:=by
  intro l
  induction l with
  | nil=>intro _ _;trivial
  | cons env r ih=>
    intro hs hl;obtain⟨hk,⟨L,o,hf,hn,ho,hd⟩,hr⟩:=hl;have hL:L∈X.fs:=hs L (by unfold iC;rw [List.filterMap_cons,hf];exact List.mem_cons_self)
    obtain⟨sl,e⟩:=I.base.slot L o ho (I.ok.frf L hL) hL fun z=>I.ok.exfs L z hL
    exact⟨hk,⟨L,_,hf,hn,e,hd⟩,ih (fun b hb=>hs b (by unfold iC;rw [List.filterMap_cons,hf];exact List.mem_cons_of_mem _ hb)) hr⟩
 exact all X.outer (fun _ hb=>hb) I.ok.jC
theorem Inv.stack(I:Inv X pins σ H s):s.heap.FunFrames X.base X.stack:=by
 rcases I.ok.stk with e | ⟨e,hf⟩
 .rw [e];exact I.jC
 .rw [e];obtain⟨m,hn,_⟩:=I.loc;refine .cons (by rw[I.ok.kind];decide) hf hn ?_ I.jC
  exact Heap.get?_none_of_le (Nat.le_trans I.ok.bsz I.ok.above)
theorem Inv.pJ(I:Inv X pins σ H s):∀b∈iC X.stack,b∈X.env.locals ::X.fs:=fun b hb=>by
 rcases I.ok.stk with e | ⟨e,hf⟩
 .rw [e] at hb;exact List.mem_cons_of_mem _ hb
 .rw [e] at hb;unfold iC at hb;rw[List.filterMap_cons,hf] at hb;exact hb
theorem Inv.hW(I:Inv X pins σ H s):∀b∈iC X.stack,H b=none:=fun b hb=>by
 rcases List.mem_cons.mp (I.pJ b hb) with e | hb
 .rw [e];exact I.free
 .obtain⟨_,o,ho,_⟩:=I.ok.jC.mem hb;exact I.base.free b o ho (I.ok.frf b hb) fun z=>I.ok.exfs b z hb
theorem Inv.step{g':Array GenState}{t':Nat}{d':Drawn}{ch:List Addr}(I:Inv X pins σ H s)
 (wg:∀b∈ch,(b∈X.ex\/X.s₀.heap.objs.size<=b)/\b≠X.env.locals/\(∀x c,X.env.cells.lookup x=some c->c≠b)/\∀p∈X.pn++pins,p.1≠b)
 (keep:∀b o,b≠X.env.locals->b ∉ X.fs->b ∉ ch->s.heap.get? b=some o->H b=none->h'.get? b=some o)
 (slot:∀b o,b≠X.env.locals->b∈X.fs->b ∉ ch->s.heap.get? b=some o->H b=none->∃sl,h'.get? b=some {o with slots:=sl}) (free:∀b o,b ∉ ch->s.heap.get? b=some o->H b=none->H' b=none)
 (there:∀b o,b ∉ ch->s.heap.get? b=some o->∃o',h'.get? b=some o')
 (tups:∀b xs,H b=some (.tup xs)->H' b=some (.tup xs)) (frzs:∀b o u,H b=some (.jB o u)->H' b=some (.jB o u)) (tbls:∀b ps,H b=some (.tbl ps)->∃more,H' b=some (.tbl (ps++more)))
 (ns:∀m,s.heap.Ns X.env.locals m->h'.Ns X.env.locals m) (hok:ie X.prog X.w H' h') (hg:AllBare g') :
 Inv X pins σ H' {s with heap:=h',gens:=g',drawn:=d',toks:=t'}:=by
 have neL:∀b o,X.s₀.heap.get? b=some o->b≠X.env.locals:=fun b o e=>Nat.ne_of_lt (Nat.lt_of_lt_of_le (Heap.lt_size e) I.ok.above)
 have neC:∀b o,X.s₀.heap.get? b=some o->b ∉ X.ex->b ∉ ch:=fun b o e hx hb=>by
  rcases(wg b hb).1 with z | z
  .exact hx z
  .exact absurd (Nat.lt_of_lt_of_le (Heap.lt_size e) z) (Nat.lt_irrefl _)
 have cellK:∀x c,X.env.cells.lookup x=some c->∀v,s.heap.IsCell c v->h'.IsCell c v:=fun x c e v ⟨o,ho,hd⟩=>by
  have nch:c ∉ ch:=fun z=>(wg c z).2.2.1 x c e rfl
  by_cases hc:c∈X.fs
  .obtain⟨sl,q⟩:=slot c o (I.vH x c e) hc nch ho (I.freeC x c e);exact⟨_,q,hd⟩
  .exact⟨o,keep c o (I.vH x c e) hc nch ho (I.freeC x c e),hd⟩
 refine⟨I.ok,I.os,hg,⟨fun b o e n hb hx=>?_,fun b o e n hb hx=>?_,fun b o e n hx=>?_,fun b o e hx=>?_,fun b xs e=>tups b xs (I.base.tups b xs e),fun b o xs e=>frzs b o xs (I.base.frzs b o xs e),fun b ps e=>?_⟩,?_,fun x c e=>?_,?_,fun x c e=>?_,fun p hp=>?_,hok,I.len⟩
 .exact keep b o (neL b o e) hb (neC b o e hx) (I.base.keep b o e n hb hx) (I.base.free b o e n hx)
 .obtain⟨sl,e1⟩:=I.base.slot b o e n hb hx;obtain⟨Jl,e2⟩:=slot b _ (neL b o e) hb (neC b o e hx) e1 (I.base.free b o e n hx);exact⟨Jl,e2⟩
 .obtain⟨o',e1⟩:=I.base.there b o e hx;exact free b o' (neC b o e hx) e1 (I.base.free b o e n hx)
 .obtain⟨o',e1⟩:=I.base.there b o e hx;exact there b o' (neC b o e hx) e1
 .obtain⟨m1,e1⟩:=I.base.tbls b ps e;obtain⟨m2,e2⟩:=tbls b _ e1;exact⟨m1++m2,by rw[e2,Array.append_assoc]⟩
 .obtain⟨m,hn,hl⟩:=I.loc;refine⟨m,ns m hn,fun i x v e1 e2 e3=>?_⟩
  obtain⟨u,r,l⟩:=hl i x v e1 e2 e3;refine⟨u,r,?_⟩;rcases l with l | ⟨k,c,e,z⟩
  .exact .inl l
  .exact .inr ⟨k,c,e,cellK x c e _ z⟩
 .obtain⟨v,z⟩:=I.cell x c e;exact⟨v,cellK x c e v z⟩
 .obtain⟨m,⟨o,_,_,ho,_⟩,_⟩:=I.loc;exact free _ o (fun z=>(wg _ z).2.1 rfl) ho I.free
 .obtain⟨v,o,ho,hd⟩:=I.cell x c e;exact free c o (fun z=>(wg c z).2.2.1 x c e rfl) ho (I.freeC x c e)
 .obtain⟨e,n,ne,nf,d⟩:=I.pin p hp;have nch:p.1 ∉ ch:=fun z=>(wg p.1 z).2.2.2 p hp rfl
  exact⟨keep p.1 p.2 ne nf nch e n,free p.1 p.2 nch e n,ne,nf,d⟩
theorem Inv.un{t':Nat}(I:Inv X pins σ H s)(u:Un X.fs [] H H' s.heap h')(hok:ie X.prog X.w H' h'):Inv X pins σ H' {s with heap:=h',toks:=t'}:=by
 obtain⟨m,⟨o,es,ep,ho,r⟩,_⟩:=id I.loc;obtain⟨sl,hL⟩:=u.any ho I.free (by simp)
 exact I.step (g':=s.gens) (d':=s.drawn) (ch:=[]) (fun _ z=>nomatch z) (fun b o _ hb _ e n=>u.keep b o e n hb (by simp)) (fun b o _ hb _ e n=>u.slot b o e n hb (by simp)) (fun b o _ e n=>u.free b o e n (by simp)) (fun b o _ e=>u.there b o e (by simp)) u.tups u.frzs u.tbls (fun m' hm=>by
  obtain⟨o',Fd,Gi,pj,r'⟩:=hm;rw[ho] at pj;cases pj;exact⟨_,Fd,Gi,hL,r'⟩) hok I.bare
theorem Inv.call{g':Array GenState}{t':Nat}{d':Drawn}{ch:List Addr}(I:Inv X pins σ H s)(u:Un (iC X.stack) ch H H' s.heap h')(hok:ie X.prog X.w H' h')(hg:AllBare g')
 (wg:∀b∈ch,(b∈X.ex\/X.s₀.heap.objs.size<=b)/\b≠X.env.locals/\(∀x c,X.env.cells.lookup x=some c->c≠b)/\∀p∈X.pn++pins,p.1≠b) :
 Inv X pins σ H' {s with heap:=h',gens:=g',drawn:=d',toks:=t'}:=by
 obtain⟨m,⟨o,es,ep,ho,r⟩,_⟩:=id I.loc;obtain⟨sl,hL⟩:=u.any ho I.free fun z=>(wg _ z).2.1 rfl
 exact I.step (ch:=ch) wg (fun b o hL hb hc e n=>u.keep b o e n (fun z=>(List.mem_cons.mp (I.pJ b z)).elim hL hb) hc) (fun b o _ _ hc e n=>u.any e n hc) (fun b o hc e n=>u.free b o e n hc) (fun b o hc e=>u.there b o e hc) u.tups u.frzs u.tbls (fun m' hm=>by
  obtain⟨o',Fd,Gi,pj,r'⟩:=hm;rw[ho] at pj;cases pj;exact⟨_,Fd,Gi,hL,r'⟩) hok hg
theorem Inv.turned{t':Nat}{it:Addr}(I:Inv X pins σ H s)(k:∀b o,b≠it->s.heap.get? b=some o->h'.get? b=some o)(hn:H it=none)(hL:it≠X.env.locals)
 (h1:it∈X.ex\/X.s₀.heap.objs.size<=it) (h2:∀x c,X.env.cells.lookup x=some c->c≠it) (h3:∀p∈X.pn++pins,p.1≠it):Inv X pins σ H {s with heap:=h',toks:=t'}:=by
 have nit:∀b u,H b=some u->b≠it:=fun b u e z=>by rw[z,hn] at e;cases e
 refine I.step (g':=s.gens) (d':=s.drawn) (ch:=[it]) (fun b hb=>?_) (fun b o _ _ hc e _=>k b o (fun z=>hc (by simp [z])) e) (fun b o _ _ hc e _=>⟨o.slots,k b o (fun z=>hc (by simp [z])) e⟩) (fun _ _ _ _ n=>n)
  (fun b o hc e=>⟨o,k b o (fun z=>hc (by simp [z])) e⟩) (fun _ _ e=>e) (fun _ _ _ e=>e) (fun b ps e=>⟨#[],by rw[e];simp⟩) (fun m hm=>?_) (fun b u e=>?_) I.bare
 .have e:b=it:=by simpa using hb
  subst e;exact⟨h1,hL,h2,h3⟩
 .obtain⟨o,es,ep,ho,r⟩:=hm;exact⟨o,es,ep,k _ o (Ne.symm hL) ho,r⟩
 .refine(I.hok b u e).o_ (fun c v hc q=>k c v ?_ q) (fun _ q=>q) fun _ _ q=>q
  rcases hc with z | z
  .rw [z];exact nit b u e
  .exact nit c _ z
theorem Inv.tok(I:Inv X pins σ H s)(t:Nat):Inv X pins σ H {s with toks:=t}:=I.un (h':=s.heap) (t':=t) Un.refl I.hok
theorem Inv.kept{t':Nat}(I:Inv X pins σ H s)(k:∀b u,s.heap.get? b=some u->h'.get? b=some u):Inv X pins σ H {s with heap:=h',toks:=t'}:=I.un (Un.kept k) (I.hok.kept k)
theorem Inv.laid{a:Addr}{o:HO}{t':Nat}(I:Inv X pins σ H s)(k:∀b u,s.heap.get? b=some u->h'.get? b=some u)(hp:s.heap.objs.size<=a)(new:cT X.prog X.w (upd H a o) h' a o) :
 Inv X pins σ (upd H a o) {s with heap:=h',toks:=t'}:=I.un (Un.laid k hp (I.hok.fresh hp)) (I.hok.laid k hp new)
theorem Inv.write{x e:Addr}{o:HO}{t':Nat}(I:Inv X pins σ H s)(mu:CD (H x))(he:e=x\/H e=some (.own x))(k:∀b u,b≠e->s.heap.get? b=some u->h'.get? b=some u)(Bn:∃u,h'.get? e=some u)
 (new:cT X.prog X.w (upd H x o) h' x o):Inv X pins σ (upd H x o) {s with heap:=h',toks:=t'}:=I.un (Un.write mu he k Bn) (I.hok.write mu he k Bn new)
theorem Inv.rj{fO:KQ}(I:Inv X pins σ H s)(h:∀p∈fO,s.heap.get? p.1=some p.2/\H p.1=none/\p.1≠X.env.locals/\p.1 ∉ X.fs/\∀v,p.2.data≠ .cell v):Inv X fO σ H s:=
 ⟨I.ok,I.os,I.bare,I.base,I.loc,I.cell,I.free,I.freeC,fun p hp=>(List.mem_append.mp hp).elim (fun z=>I.pin p (List.mem_append_left _ z)) (h p),I.hok,I.len⟩
theorem kY{N:List Str}(hN:N.Nodup){i j:Nat}(a:N[i]? =some x)(b:N[j]? =some x):i=j:=by
 obtain⟨h1,e1⟩:=List.getElem?_eq_some_iff.mp a;obtain⟨h2,e2⟩:=List.getElem?_eq_some_iff.mp b;exact(List.getElem_inj hN).mp (e1.trans e2.symm)
theorem lU{M:Model}{A:Around}{E:KR}{i:Nat}{x:Str}{v:V}{u:Value}{Q:Unit->Shared->Prop}(I:Inv X pins σ H s)(hN:X.N.Nodup)(hi:X.N[i]? =some x)(hx:Loc X.env.scope x)(r:RelV v u)
 (h:∀s',Inv X pins (σ.set i (some v)) H s'->(∃a,Heap.SameBut a s.heap s'.heap/\(a=X.env.locals\/X.env.cells.lookup x=some a))->Q () s') (hf:X.fn x=true\/X.env.scope.names.lookup x=some .local:=by first | exact .inl rfl | exact .inr rfl | assumption):wpAny M A (storeName X.env x u) Q E s:=by
 obtain⟨m,hn,hl⟩:=id I.loc;have hcls:(X.env.scope.kind== .class || (X.env.scope.kind== .module && X.env.locals !=X.env.globals))=false:=by rw[I.ok.kind];rfl
 have hiσ:i < σ.length:=by rw[I.len];exact(List.getElem?_eq_some_iff.mp hi).1
 have vH:=I.vH;have tracked:∀{a:Addr} {h':Heap},(∃o,s.heap.get? a=some o/\H a=none)->Heap.SameBut a s.heap h'->ie X.prog X.w H h':=fun {a h'} ha hs b ob e=>by
  obtain⟨_,_,hfree⟩:=ha;refine(I.hok b ob e).o_ (fun c w' hc q=>(hs.2 c ?_).trans q) (fun _ q=>q) fun _ _ q=>q
  rintro rfl;rcases hc with rfl | hc
  .rw [hfree] at e;cases e
  .rw [hfree] at hc;cases hc
 rcases hx with hk | hk
 .refine wpAny_storeName_local hk hn (fun h' Fw hs=>?_) hcls
  obtain⟨oL,_,_,hoL,_⟩:=id hn;refine h _ ⟨I.ok,I.os,I.bare,⟨fun b o e n hb hx=>?_,fun b o e n hb hx=>?_,I.base.free,fun b o e hx=>?_,I.base.tups,I.base.frzs,I.base.tbls⟩,⟨_,Fw,fun j y v' e1 e2 e3=>?_⟩,fun y c e=>?_,I.free,I.freeC,fun p hp=>?_,tracked ⟨oL,hoL,I.free⟩ hs,by simpa using I.len⟩ ⟨_,hs, .inl rfl⟩
  .exact(hs.2 b (Nat.ne_of_lt (Nat.lt_of_lt_of_le (Heap.lt_size e) I.ok.above))).trans (I.base.keep b o e n hb hx)
  .obtain⟨sl,e1⟩:=I.base.slot b o e n hb hx;exact⟨sl,(hs.2 b (Nat.ne_of_lt (Nat.lt_of_lt_of_le (Heap.lt_size e) I.ok.above))).trans e1⟩
  .obtain⟨o',e1⟩:=I.base.there b o e hx;exact⟨o',(hs.2 b (Nat.ne_of_lt (Nat.lt_of_lt_of_le (Heap.lt_size e) I.ok.above))).trans e1⟩
  .by_cases hj:j=i
   .subst hj;rw[hi] at e1;cases e1;rw[List.getElem?_set_self hiσ] at e2;cases e2;exact⟨u,r, .inl ⟨hk,by simp⟩⟩
   .rw [List.getElem?_set_ne (Ne.symm hj)] at e2;obtain⟨u',r',q⟩:=hl j y v' e1 e2 e3;refine⟨u',r',?_⟩;rcases q with⟨k,e⟩ | ⟨k,c,e,z⟩
    .refine .inl ⟨k,?_⟩;have:y≠x:=fun e=>hj (kY hN e1 (e▸hi))
     simp [this,e]
    .exact .inr ⟨k,c,e,z.sameBut hs (vH y c e)⟩
  .obtain⟨w',z⟩:=I.cell y c e;exact⟨w',z.sameBut hs (vH y c e)⟩
  .obtain⟨e,n,ne,nf,d⟩:=I.pin p hp;exact⟨(hs.2 p.1 ne).trans e,n,ne,nf,d⟩
 .have hfn:X.fn x=true:=by
   rcases hf with z | z
   .exact z
   .rw [z] at hk;cases hk
  obtain⟨c,hc⟩:=I.ok.has x (.inl hk);obtain⟨w',z⟩:=I.cell x c hc;refine wpAny_storeName_cell I.ok.kind hk hc z (fun h' sW hs=>?_)
  obtain⟨oc,hoc,hocd⟩:=id z;refine h {s with heap:=h'} ⟨I.ok,I.os,I.bare,⟨fun b o e n hb hx=>?_,fun b o e n hb hx=>?_,I.base.free,fun b o e hx=>?_,I.base.tups,I.base.frzs,I.base.tbls⟩,⟨m,hn.sameBut hs (Ne.symm (vH x c hc)),fun j y v' e1 e2 e3=>?_⟩,fun y c' e=>?_,I.free,I.freeC,fun p hp=>?_,tracked ⟨oc,hoc,I.freeC x c hc⟩ hs,by simpa using I.len⟩ ⟨c,hs, .inr hc⟩
  .exact(hs.2 b (Nat.ne_of_lt (Nat.lt_of_lt_of_le (Heap.lt_size e) (I.ok.cab x c hfn hc)))).trans (I.base.keep b o e n hb hx)
  .obtain⟨sl,e1⟩:=I.base.slot b o e n hb hx;exact⟨sl,(hs.2 b (Nat.ne_of_lt (Nat.lt_of_lt_of_le (Heap.lt_size e) (I.ok.cab x c hfn hc)))).trans e1⟩
  .obtain⟨o',e1⟩:=I.base.there b o e hx;exact⟨o',(hs.2 b (Nat.ne_of_lt (Nat.lt_of_lt_of_le (Heap.lt_size e) (I.ok.cab x c hfn hc)))).trans e1⟩
  .by_cases hj:j=i
   .subst hj;rw[hi] at e1;cases e1;rw[List.getElem?_set_self hiσ] at e2;cases e2;exact⟨u,r, .inr ⟨.inl hk,c,hc,sW⟩⟩
   .rw [List.getElem?_set_ne (Ne.symm hj)] at e2;obtain⟨u',r',q⟩:=hl j y v' e1 e2 e3;refine⟨u',r',?_⟩;rcases q with q | ⟨k,c',e,z'⟩
    .exact .inl q
    .refine .inr ⟨k,c',e,z'.sameBut hs ?_⟩;rintro rfl;exact hj (kY hN e1 (I.ok.inj _ _ _ e hc▸hi))
  .by_cases hcc:c'=c
   .subst hcc;exact⟨_,sW⟩
   .obtain⟨w2,z2⟩:=I.cell y c' e;exact⟨w2,z2.sameBut hs hcc⟩
  .obtain⟨e,n,ne,nf,d⟩:=I.pin p hp;refine⟨(hs.2 p.1 ?_).trans e,n,ne,nf,d⟩;intro q;rw[q,hoc] at e;have q':oc=p.2:=Option.some.inj e;exact d w' (by rw[<-q'];exact hocd)
theorem kO{M:Model}{A:Around}{E:KR}{i:Nat}{x:Str}{v:V}{u:Value}{Q:Unit->Shared->Prop}(I:Inv X pins σ H s)(hN:X.N.Nodup)(hi:X.N[i]? =some x)(hx:Loc X.env.scope x)(r:RelV v u)
 (h:∀s',Inv X pins (σ.set i (some v)) H s'->Q () s') (hf:X.fn x=true\/X.env.scope.names.lookup x=some .local:=by first | exact .inl rfl | exact .inr rfl | assumption):wpAny M A (storeName X.env x u) Q E s:=
 lU I hN hi hx r (fun s' I' _=>h s' I') hf
theorem Inv.yM{s':Shared}{ch:List Addr}(I:Inv X pins σ H s)(ho:s'.os=s.os)(u:Un (iC X.stack) ch H H' s.heap s'.heap)(hok:ie X.prog X.w H' s'.heap)(hg:AllBare s'.gens)
 (wg:∀b∈ch,(b∈X.ex\/X.s₀.heap.objs.size<=b)/\b≠X.env.locals/\(∀x c,X.env.cells.lookup x=some c->c≠b)/\∀p∈X.pn++pins,p.1≠b):Inv X pins σ H' s':=by
 obtain⟨h',g',d',t',o'⟩:=s';have e:o'=s.os:=ho;subst e;exact I.call (g':=g') (t':=t') (d':=d') u hok hg wg
end
abbrev XK:=Value->Option Addr->Hp->Prop
abbrev St:=List (Option V)
abbrev VK:=V->Hp->Prop
abbrev TE:=St->Hp->VK->Prop
abbrev TT:=St->Hp->(Bool->Hp->Prop)->Prop
abbrev TA:=St->Hp->(List V->Hp->Prop)->Prop
structure Ends where
 nx:St->Hp->Prop
 rt:VK
 bk:St->Hp->Prop:=fun _ _=>False
 ct:St->Hp->Prop:=fun _ _=>False
abbrev TS:=Ends->St->Hp->Prop
def EP(X:Cx)(pins:KQ)(σ:St)(Q:VK)(u:Value)(s':Shared):Prop:=∃v H',Inv X pins σ H' s'/\RelV v u/\Q v H'
def TP(X:Cx)(pins:KQ)(σ:St)(Q:Bool->Hp->Prop)(b:Bool)(s':Shared):Prop:=∃H',Inv X pins σ H' s'/\Q b H'
def AP(X:Cx)(pins:KQ)(σ:St)(Q:List V->Hp->Prop)(us:List Value)(s':Shared):Prop:=∃vs H',Inv X pins σ H' s'/\Vals vs us/\Q vs H'
def SP(X:Cx)(pins:KQ)(D:Ends)(f:Flow)(s':Shared):Prop:=
 match f with
 | .next=>∃bR H',Inv X pins bR H' s'/\D.nx bR H'
 | .brk=>∃bR H',Inv X pins bR H' s'/\D.bk bR H'
 | .cont=>∃bR H',Inv X pins bR H' s'/\D.ct bR H'
 | .ret u=>∃v bR H',Inv X pins bR H' s'/\RelV v u/\D.rt v H'
def PE(X:Cx)(e:Expr)(t:TE):Prop:=
 ∀(pins:KQ) (s:Shared) (σ:St) (H:Hp) (Q:VK),Inv X pins σ H s->t σ H Q->wpAny (model X.prog X.w) X.A (eval e X.env) (EP X pins σ Q) X.xe s
def PT(X:Cx)(e:Expr)(t:TT):Prop:=
 ∀(pins:KQ) (s:Shared) (σ:St) (H:Hp) (Q:Bool->Hp->Prop),Inv X pins σ H s->t σ H Q->wpAny (model X.prog X.w) X.A (isTrue e X.env (eval e X.env)) (TP X pins σ Q) X.xe s
def PW(X:Cx)(e:Expr)(t:TT):Prop:=
 ∀(whole:Sem Value) (pins:KQ) (s:Shared) (σ:St) (H:Hp) (Q:Bool->Hp->Prop),Inv X pins σ H s->t σ H Q->wpAny (model X.prog X.w) X.A (isTrue e X.env whole) (TP X pins σ Q) X.xe s
theorem PW.pt{X:Cx}{t:TT}(h:PW X e t):PT X e t:=h _
def PA(X:Cx)(es:List Expr)(t:TA):Prop:=
 ∀(pos:Pos) (pins:KQ) (s:Shared) (σ:St) (H:Hp) (Q:List V->Hp->Prop),Inv X pins σ H s->t σ H Q->wpAny (model X.prog X.w) X.A (spliced (backTo pos (starEach es X.env))) (AP X pins σ Q) X.xe s
def PS(X:Cx)(st:Stmt)(t:TS):Prop:=
 ∀(pins:KQ) (s:Shared) (σ:St) (H:Hp) (D:Ends),Inv X pins σ H s->t D σ H->wpAny (model X.prog X.w) X.A (exec st X.env) (SP X pins D) X.xe s
def mD(X:Cx)(st:List Stmt)(t:TS):Prop:=
 ∀(pins:KQ) (s:Shared) (σ:St) (H:Hp) (D:Ends),Inv X pins σ H s->t D σ H->wpAny (model X.prog X.w) X.A (execs st X.env) (SP X pins D) X.xe s
theorem cN{α:Type}{t:Sem α}{Q Q':α->Shared->Prop}{M:Model}{E:KR}{s:Shared}(h:wpAny M A t Q E s)(hQ:∀a s,Q a s->Q' a s):wpAny M A t Q' E s:=wpAny_mono h hQ fun _ _ x=>x
section
variable {X:Cx}
def EC(i:Nat):TE:=fun σ H Q=>∃v,σ[i]? =some (some v)/\Q v H
def tC(v:V):TE:=fun _ H Q=>Q v H
theorem ni{i:Nat}{pos:Pos}(hN:X.N[i]? =some x)(hv:Az X.env.scope x)(hd:(x==("__debug__":Str))=false:=by decide)(lK:(x==("__classdict__":Str))=false:=by decide):PE X (.Name x pos) (EC i):=by
 intro pins s σ H Q I h;obtain⟨v,e,h⟩:=h;obtain⟨m,hn,hl⟩:=I.loc;obtain⟨u,r,l⟩:=hl i x v hN e hv;have fin:EP X pins σ Q u s:=⟨v,H,I,r,h⟩;rcases l with⟨hk,hm⟩ | ⟨hk,c,hc,hcell⟩
 .exact wpAny_Name (wpAny_loadName_local I.ok.kind hk hn hm fin) hd
 .rcases hk with hk | hk
  .exact wpAny_Name (wpAny_loadName_cell I.ok.kind hk hc hcell fin) hd
  .exact wpAny_Name (wpAny_loadName_free I.ok.kind hk hc hcell fin lK) hd
theorem ky{i j pos}:PE X (.Constant (.int i) j pos) (tC (.int i)):=fun _ _ _ H _ I h=>wpAny_Constant_int ⟨.int i,H,I.tok _,⟨_,rfl⟩,h⟩
theorem Bv{b j pos}:PE X (.Constant (.bool b) j pos) (tC (.bl b)):=fun _ _ _ H _ I h=>Constant_bool ⟨.bl b,H,I,rfl,h⟩
theorem kG{x j pos}:PE X (.Constant (.str x) j pos) (tC (.str x)):=fun _ _ _ H _ I h=>Calls.Constant_str ⟨.str x,H,I.tok _,⟨_,rfl⟩,h⟩
def Gl(X:Cx)(x:Str):Prop:=X.env.kindOf x=some .globalImplicit
theorem kh{E:KR}{pins:KQ}{s:Shared}{σ:St}{H:Hp}{x:Str}{u:Value}{pos:Pos}{Q:KR}(I:Inv X pins σ H s)(hg:Gl X x)(hm:X.mg x=some u)(h:Q u s)
 (hd:(x==("__debug__":Str))=false:=by decide):wpAny (model X.prog X.w) X.A (eval (.Name x pos) X.env) Q E s:=
 Calls.Name_function_global I.ok.kind hg (Calls.loadGlobal_global (by rw[I.ok.glob];exact I.mod.glob.keeps I.bk) hm h) hd
theorem nB{E:KR}{pins:KQ}{s:Shared}{σ:St}{H:Hp}{x:Str}{u:Value}{pos:Pos}{Q:KR}(I:Inv X pins σ H s)(hg:Gl X x)(hm:X.mg x=none)(hv:bootBuiltins x=some u)(h:Q u s)
 (hn:x≠"__name__":=by decide) (hd:(x==("__debug__":Str))=false:=by decide):wpAny (model X.prog X.w) X.A (eval (.Name x pos) X.env) Q E s:=by
 obtain⟨mb,h1,h2⟩:=I.mod.blt;exact Calls.Name_function_global I.ok.kind hg (Calls.loadGlobal_builtin (by rw[I.ok.glob];exact I.mod.glob.keeps I.bk) hm (by rw[I.ok.blt];exact h1.keeps I.bk) ((h2 x hn).trans hv) h) hd
theorem cA{v:V}{u:Value}{pos:Pos}(hg:Gl X x)(hm:X.mg x=some u)(r:RelV v u)(hd:(x==("__debug__":Str))=false:=by decide):PE X (.Name x pos) (tC v):=
 fun _ _ _ H _ I h=>kh I hg hm ⟨v,H,I,r,h⟩ hd
theorem xD{v:V}{u:Value}{pos:Pos}(hg:Gl X x)(hm:X.mg x=none)(hv:bootBuiltins x=some u)(r:RelV v u)(hn:x≠"__name__":=by decide)(hd:(x==("__debug__":Str))=false:=by decide):PE X (.Name x pos) (tC v):=
 fun _ _ _ H _ I h=>nB I hg hm hv ⟨v,H,I,r,h⟩ hn hd
def Dp(ta tb:TE)(k:Int->Int->Hp->Prop):St->Hp->Prop:=fun σ H=>ta σ H fun x H1=>tb σ H1 fun y H2=>∃i j,x= .int i/\y= .int j/\k i j H2
def IW(ta tb:TE):TE:=fun σ H Q=>Dp ta tb (fun i j H2=>Q (.int (i+j)) H2) σ H
def HI(ta tb:TE):TE:=fun σ H Q=>Dp ta tb (fun i j H2=>Q (.int (i - j)) H2) σ H
def HR(ta tb:TE):TE:=fun σ H Q=>Dp ta tb (fun i j H2=>(-(2 ^ 64) < i/\i < 2 ^ 64)/\Q (.int (i*j)) H2) σ H
variable {a b:Expr} {ta tb:TE} {pos:Pos}
def PC(X:Cx)(op:CmpOp)(a b:Expr)(t:TE):Prop:=
 ∀(pins:KQ) (s:Shared) (σ:St) (H:Hp) (Q:VK),Inv X pins σ H s->t σ H Q->
  wpAny (model X.prog X.w) X.A (eval a X.env) (fun v s₁=>wpAny (model X.prog X.w) X.A (eval b X.env) (fun u vU=>wpAny (model X.prog X.w) X.A (compareOp op v u) (EP X pins σ Q) X.xe vU) X.xe s₁) X.xe s
def rF(p:Int->Int->Bool)(ta tb:TE):TE:=fun σ H Q=>Dp ta tb (fun i j H2=>Q (.bl (p i j)) H2) σ H
abbrev Kg:TE->TE->TE:=rF fun i j=>decide (i < j)
abbrev J0:TE->TE->TE:=rF fun i j=>decide (i<=j)
abbrev J4:TE->TE->TE:=rF fun i j=>decide (j < i)
abbrev Ki:TE->TE->TE:=rF fun i j=>decide (j<=i)
abbrev HP:TE->TE->TE:=rF fun i j=>decide (i=j)
abbrev HZ:TE->TE->TE:=rF fun i j=>!decide (i=j)
def IA(ta:TE):TE:=fun σ H Q=>ta σ H fun x H1=>Q (.bl (decide (x= .cy))) H1
def GN(ta:TE):TE:=fun σ H Q=>ta σ H fun x H1=>Q (.bl (!decide (x= .cy))) H1
def tB(t:TE):TT:=fun σ H Q=>t σ H fun x H1=>∃c,x= .bl c/\Q c H1
variable {tA DS:TT} {rest:List Expr}
def DZ(t u:TT):TT:=fun σ H Q=>t σ H fun c H1=>if c=true then u σ H1 Q else Q false H1
def ID(t u:TT):TT:=fun σ H Q=>t σ H fun c H1=>if c=true then Q true H1 else u σ H1 Q
def EH(t:TT):TT:=fun σ H Q=>t σ H fun c H1=>Q (!c) H1
theorem xg(ha:PT X a tA):PW X (.BoolOp .And [a] pos) tA:=by
 intro wh pins s σ H Q I h;refine isTrue_and (cN (ha pins s σ H Q I h) fun c s1 e=>?_)
 cases c with
 | true=>exact isTrue_and_nil e
 | false=>exact e
theorem ur(ha:PT X a tA):PW X (.BoolOp .Or [a] pos) tA:=by
 intro wh pins s σ H Q I h;refine isTrue_or (cN (ha pins s σ H Q I h) fun c s1 e=>?_)
 cases c with
 | false=>exact isTrue_or_nil e
 | true=>exact e
theorem y_(ha:PT X a tA)(hb:PW X (.BoolOp .And (b ::rest) pos) DS):PW X (.BoolOp .And (a ::b ::rest) pos) (DZ tA DS):=by
 intro wh pins s σ H Q I h;refine isTrue_and (cN (ha pins s σ H _ I h) fun c s1 ⟨H1,I1,q1⟩=>?_)
 cases c with
 | true=>exact hb wh pins s1 σ H1 Q I1 q1
 | false=>exact⟨H1,I1,q1⟩
theorem yy(ha:PT X a tA)(hb:PW X (.BoolOp .Or (b ::rest) pos) DS):PW X (.BoolOp .Or (a ::b ::rest) pos) (ID tA DS):=by
 intro wh pins s σ H Q I h;refine isTrue_or (cN (ha pins s σ H _ I h) fun c s1 ⟨H1,I1,q1⟩=>?_)
 cases c with
 | true=>exact⟨H1,I1,q1⟩
 | false=>exact hb wh pins s1 σ H1 Q I1 q1
theorem An(ha:PT X a tA):PT X (.UnaryOp .Not a pos) (EH tA):=by
 intro pins s σ H Q I h;exact isTrue_not (ha pins s σ H (fun c H1=>Q (!c) H1) I h)
def CL(ta tb:TE):TE:=fun σ H Q=>ta σ H fun x H1=>∃c,x= .bl c/\if c=true then tb σ H1 Q else Q (.bl false) H1
def Ex(ta tb:TE):TE:=fun σ H Q=>ta σ H fun x H1=>∃c,x= .bl c/\if c=true then Q (.bl true) H1 else tb σ H1 Q
def G8(ta:TE):TE:=fun σ H Q=>ta σ H fun x H1=>∃c,x= .bl c/\Q (.bl (!c)) H1
theorem um{op}{t:TE}(h:PE X a t):PE X (.BoolOp op [a] pos) t:=fun pins s σ H Q I hw=>BoolOp_one (h pins s σ H Q I hw)
theorem zS(ha:PE X a ta)(hb:PE X (.BoolOp .And (b ::rest) pos) tb):PE X (.BoolOp .And (a ::b ::rest) pos) (CL ta tb):=by
 intro pins s σ H Q I h;refine BoolOp_and (cN (ha pins s σ H _ I h) fun v s1 ⟨x,H1,I1,r1,q1⟩=>?_)
 obtain⟨c,rfl,q1⟩:=q1;cases r1;refine wpAny_truthy_bool ?_;cases c with
 | true=>exact hb pins s1 σ H1 Q I1 q1
 | false=>exact⟨.bl false,H1,I1,rfl,q1⟩
theorem B6(ha:PE X a ta)(hb:PE X (.BoolOp .Or (b ::rest) pos) tb):PE X (.BoolOp .Or (a ::b ::rest) pos) (Ex ta tb):=by
 intro pins s σ H Q I h;refine BoolOp_or (cN (ha pins s σ H _ I h) fun v s1 ⟨x,H1,I1,r1,q1⟩=>?_)
 obtain⟨c,rfl,q1⟩:=q1;cases r1;refine wpAny_truthy_bool ?_;cases c with
 | false=>exact hb pins s1 σ H1 Q I1 q1
 | true=>exact⟨.bl true,H1,I1,rfl,q1⟩
def Kf(t:TT)(ta tb:TE):TE:=fun σ H Q=>t σ H fun c H1=>if c=true then ta σ H1 Q else tb σ H1 Q
end
def iX(K:W.Frag)(H:Hp)(a:Addr)(xs:List V):Prop:=
 Rd H a (.lst xs)\/
  ∃(o:Obj) (its:Array Value) (n:Nat),K.lookup a=some o/\o.cls= .type "list"/\o.dict=none/\o.data= .seq its n/\its.size<=sizeLine/\Vals xs its.toList
def jU(K:W.Frag)(H:Hp)(a:Addr)(xs:List V):Prop:=
 Rd H a (.tup xs)\/
  ∃(o:Obj) (its:Array Value) (n:Nat),K.lookup a=some o/\o.cls= .type "tuple"/\o.data= .seq its n/\its.size<=sizeLine/\Vals xs its.toList
def Ey:Value->Option V
 | .none=>some .cy
 | .bool b=>some (.bl b)
 | .int i _=>some (.int i)
 | .str x _=>some (.str x)
 | .bytes b _=>some (.byt b)
 | .float b _=>some (.flt b)
 | .ref a=>some (.ref a)
 | .type n=>some (.ty n)
 | _=>none
theorem RelV.abs{x:V}{u:Value}(r:RelV x u):Ey u=some x:=by
 cases x with
 | cy=>cases r;rfl
 | bl _=>cases r;rfl
 | int _=>obtain⟨t,rfl⟩:=r;rfl
 | str _=>obtain⟨t,rfl⟩:=r;rfl
 | byt _=>obtain⟨t,rfl⟩:=r;rfl
 | flt _=>obtain⟨t,rfl⟩:=r;rfl
 | ref _=>cases r;rfl
 | ty _=>cases r;rfl
theorem RelV.inj{x y:V}{u:Value}(r:RelV x u)(q:RelV y u):x=y:=Option.some.inj (r.abs.symm.trans q.abs)
theorem Vals.inj:∀{xs ys:List V} {us:List Value},Vals xs us->Vals ys us->xs=ys
 | _,_,_, .nil, .nil=>rfl
 | _,_,_, .cons r t, .cons r' t'=>by rw[r.inj r',Vals.inj t t']
section
variable {X:Cx} {pins:KQ} {σ:St} {H:Hp} {s:Shared} {a:Addr} {xs ys:List V}
theorem iX.of{K:W.Frag}(h:H a=some (.lst xs)):iX K H a xs:= .inl (.inl h)
theorem Inv.list(I:Inv X pins σ H s)(h:iX X.K H a xs):∃its:List Value,Vals xs its/\PlainL s.heap a its.toArray/\xs.length<=sizeLine:=by
 rcases h with h | ⟨o,its,n,hk,hc,hd,hs,hz,r⟩
 .obtain⟨z,its,n,r,e⟩:=h.ok I.hok;exact⟨its,r,⟨_,n,e,rfl,rfl,rfl⟩,z⟩
 .refine⟨its.toList,r,⟨o,n,I.ve a o hk,hc,hd,by simpa using hs⟩,?_⟩
  have e:=r.length;simp only[Array.length_toList] at e;omega
theorem Inv.tuple(I:Inv X pins σ H s)(h:jU X.K H a xs):∃its:List Value,Vals xs its/\IsTup s.heap a its.toArray/\xs.length<=sizeLine:=by
 rcases h with h | ⟨o,its,n,hk,hc,hs,hz,r⟩
 .obtain⟨z,its,r,p⟩:=h.ok I.hok;exact⟨its,r,p,z⟩
 .refine⟨its.toList,r,⟨o,I.ve a o hk,hc,n,by simpa using hs⟩,?_⟩
  have e:=r.length;simp only[Array.length_toList] at e;omega
theorem Inv.tL(I:Inv X pins σ H s)(h:iX X.K H a xs)(h':iX X.K H a ys):xs=ys:=by
 obtain⟨its,r,⟨o,n,e,_,_,d⟩,_⟩:=I.list h;obtain⟨its',r',⟨o',n',e',_,_,d'⟩,_⟩:=I.list h';rw[e] at e';cases e';rw[d] at d';injection d' with d1 _
 have:its=its':=by simpa using congrArg Array.toList d1
 subst this;exact r.inj r'
theorem Inv.rP(I:Inv X pins σ H s)(h:jU X.K H a xs)(h':jU X.K H a ys):xs=ys:=by
 obtain⟨its,r,⟨o,e,_,n,d⟩,_⟩:=I.tuple h;obtain⟨its',r',⟨o',e',_,n',d'⟩,_⟩:=I.tuple h';rw[e] at e';cases e';rw[d] at d';injection d' with d1 _
 have:its=its':=by simpa using congrArg Array.toList d1
 subst this;exact r.inj r'
end
abbrev Cx.lp(X:Cx)(E:KR):Cx:={X with xe:=E}
abbrev Cx.xl(X:Cx):Cx:=X.lp fun _ _=>False
theorem Cx.Ok.lp{X:Cx}(ok:X.Ok)(E:KR):(X.lp E).Ok:=
 ⟨ok.mod,ok.kind,ok.glob,ok.blt,ok.above,ok.inj,ok.has,ok.cab,ok.hd,ok.frames,ok.stk,ok.exf,ok.bs,ok.bsz,ok.noex,ok.exfs,ok.jC,ok.frf⟩
theorem Cx.Ok.gF{X:Cx}{E:KR}(ok:(X.lp E).Ok):X.Ok:=
 ⟨ok.mod,ok.kind,ok.glob,ok.blt,ok.above,ok.inj,ok.has,ok.cab,ok.hd,ok.frames,ok.stk,ok.exf,ok.bs,ok.bsz,ok.noex,ok.exfs,ok.jC,ok.frf⟩
section
variable {X:Cx} {pins:KQ} {σ:St} {H:Hp} {s:Shared} {E:KR}
theorem Inv.lp(I:Inv X pins σ H s)(E:KR):Inv (X.lp E) pins σ H s:=⟨I.ok.lp E,I.os,I.bare,I.base,I.loc,I.cell,I.free,I.freeC,I.pin,I.hok,I.len⟩
theorem Inv.gF(I:Inv (X.lp E) pins σ H s):Inv X pins σ H s:=⟨I.ok.gF,I.os,I.bare,I.base,I.loc,I.cell,I.free,I.freeC,I.pin,I.hok,I.len⟩
theorem SP.gF{D:Ends}{f:Flow}{s':Shared}(h:SP (X.lp E) pins D f s'):SP X pins D f s':=by
 cases f with
 | next=>obtain⟨bR,H',I,q⟩:=h;exact⟨bR,H',I.gF,q⟩
 | brk=>obtain⟨bR,H',I,q⟩:=h;exact⟨bR,H',I.gF,q⟩
 | cont=>obtain⟨bR,H',I,q⟩:=h;exact⟨bR,H',I.gF,q⟩
 | ret u=>obtain⟨v,bR,H',I,r,q⟩:=h;exact⟨v,bR,H',I.gF,r,q⟩
theorem mD.xl{st:List Stmt}{t:TS}(h:mD X.xl st t):mD X st t:=fun pins s σ H D I hw=>
 wpAny_mono (h pins s σ H D (I.lp _) hw) (fun _ _ q=>q.gF) fun _ _ z=>False.elim z
end
section
variable {X:Cx} {st:Stmt} {rest:List Stmt} {t u:TS} {e:Expr} {te:TE} {pos:Pos}
def BV:TS:=fun D σ H=>D.nx σ H
def BQ(t u:TS):TS:=fun D σ H=>t {D with nx:=u D} σ H
theorem qA:mD X [] BV:=fun _ _ σ H _ I h=>wpAny_execs_nil ⟨σ,H,I,h⟩
theorem kJ(h1:PS X st t)(h2:mD X rest u):mD X (st ::rest) (BQ t u):=by
 intro pins s σ H D I h;refine wpAny_execs_cons (cN (h1 pins s σ H {D with nx:=u D} I h) fun f s1 q=>?_)
 cases f with
 | next=>
   obtain⟨bR,H',I',q⟩:=q;exact h2 pins s1 bR H' D I' q
 | ret v=>exact q
 | brk=>exact q
 | cont=>exact q
theorem my(h1:PS X st t):mD X [st] t:=by
 intro pins s σ H D I h;refine wpAny_execs_cons (cN (h1 pins s σ H D I h) fun f s1 q=>?_)
 cases f with
 | next=>exact wpAny_execs_nil q
 | ret v=>exact q
 | brk=>exact q
 | cont=>exact q
def E5:TS:=fun D σ H=>D.bk σ H
def G7:TS:=fun D σ H=>D.ct σ H
theorem Inv.quiet{pins:KQ}{s:Shared}(I:Inv X pins σ H s):interactive X.env=false:=by simp [interactive,I.ok.kind]
def B4(te:TE):TS:=fun D σ H=>te σ H fun _ H1=>D.nx σ H1
theorem mU(he:PE X e te)(hs:swapsWith e none pos.line X.env=pure false:=by rfl):PS X (.Expr e pos) (B4 te):=by
 intro pins s σ H D I h;exact wpAny_Expr_any (cN (he pins s σ H _ I h) fun v s1 ⟨x,H1,I1,r1,q1⟩=>⟨σ,H1,I1,q1⟩) I.quiet hs
def D_(te:TE):TS:=fun D σ H=>te σ H D.rt
theorem uz(he:PE X e te):PS X (.Return (some e) pos) (D_ te):=by
 intro pins s σ H D I h;exact wpAny_Return_some (cN (he pins s σ H _ I h) fun v s1 ⟨x,H1,I1,r1,q1⟩=>⟨x,σ,H1,I1,r1,q1⟩)
def GW:TS:=fun D _ H=>D.rt .cy H
def Cw(c:TT)(t u:TS):TS:=fun D σ H=>c σ H fun b H1=>if b=true then t D σ H1 else u D σ H1
theorem yQ{tc:TT}(hc:PT X c tc)(ha:mD X a t)(hb:mD X b u):PS X (.If c a b pos) (Cw tc t u):=by
 intro pins s σ H D I h;refine wpAny_If (cN (hc pins s σ H _ I h) fun d s1 ⟨H1,I1,q1⟩=>?_)
 cases d with
 | true=>exact ha pins s1 σ H1 D I1 q1
 | false=>exact hb pins s1 σ H1 D I1 q1
def Es:TS:=fun _ _ _=>False
end
abbrev TG:=V->St->Hp->(St->Hp->Prop)->Prop
abbrev sQ:=List V->St->Hp->(St->Hp->Prop)->Prop
def PG(X:Cx)(target:Expr)(t:TG):Prop:=
 ∀(pins:KQ) (s:Shared) (σ:St) (H:Hp) (v:V) (u:Value) (Q:St->Hp->Prop),Inv X pins σ H s->RelV v u->t v σ H Q->
  wpAny (model X.prog X.w) X.A (assign target X.env u) (fun _ s'=>∃bR H',Inv X pins bR H' s'/\Q bR H') X.xe s
def vX(X:Cx)(ts:List Expr)(t:sQ):Prop:=
 ∀(pins:KQ) (s:Shared) (σ:St) (H:Hp) (vs:List V) (us:List Value) (Q:St->Hp->Prop),Inv X pins σ H s->Vals vs us->t vs σ H Q->
  wpAny (model X.prog X.w) X.A (assignInOrder ((assignEach ts X.env).map (·.2)) us) (fun _ s'=>∃bR H',Inv X pins bR H' s'/\Q bR H') X.xe s
abbrev xV:=V->V->V->Hp->(Hp->Prop)->Prop
def Cr(X:Cx)(t:xV):Prop:=
 ∀(pins:KQ) (s:Shared) (σ:St) (H:Hp) (o i v:V) (ov iv u:Value) (Q:Hp->Prop),Inv X pins σ H s->RelV o ov->RelV i iv->RelV v u->t o i v H Q->
  wpAny (model X.prog X.w) X.A (setItem ov iv u) (fun _ s'=>∃H',Inv X pins σ H' s'/\Q H') X.xe s
abbrev Dk:=V->V->Hp->VK->Prop
def Ke(X:Cx)(op:Operator)(t:Dk):Prop:=
 ∀(pins:KQ) (s:Shared) (σ:St) (H:Hp) (x y:V) (v u:Value) (Q:VK),Inv X pins σ H s->RelV x v->RelV y u->t x y H Q->
  wpAny (model X.prog X.w) X.A (inplaceOp op v u) (EP X pins σ Q) X.xe s
section
variable {X:Cx} {pos:Pos}
def l8(i:Nat):TG:=fun v σ H Q=>Q (σ.set i (some v)) H
theorem qR{i:Nat}(hN:X.N.Nodup)(hi:X.N[i]? =some x)(hx:Loc X.env.scope x)(hf:X.fn x=true\/X.env.scope.names.lookup x=some .local:=by first | exact .inl rfl | exact .inr rfl | assumption):PG X (.Name x pos) (l8 i):=by
 intro pins s σ H v u Q I r h;exact wpAny_assign_Name (kO I hN hi hx r (fun s' I'=>⟨_,H,I',h⟩) hf)
def Ed:sQ:=fun vs σ H Q=>vs=[]/\Q σ H
def BR(t:TG)(u:sQ):sQ:=fun vs σ H Q=>∃v r,vs=v ::r/\t v σ H fun bR H'=>u r bR H' Q
theorem qV:vX X [] Ed:=by
 intro pins s σ H vs us Q I r h;obtain⟨e,h⟩:=h;subst e;cases r;exact assignInOrder_nil ⟨σ,H,I,h⟩
theorem oI{e:Expr}{es:List Expr}{t:TG}{u:sQ}(h1:PG X e t)(h2:vX X es u)
 (hs:(assignEach (e ::es) X.env).map (·.2)=assign e X.env ::(assignEach es X.env).map (·.2):=by rfl):vX X (e ::es) (BR t u):=by
 intro pins s σ H vs us Q I r h;obtain⟨v,vr,e1,h⟩:=h;subst e1;cases r with
 | cons r rr=>
   rw[hs];refine assignInOrder_cons (cN (h1 pins s σ H _ _ _ I r h) fun _ s1 ⟨A0,H1,I1,q1⟩=>?_)
   exact h2 pins s1 A0 H1 _ _ Q I1 rr q1
def D1(K:W.Frag)(n:Nat)(t:sQ):TG:=fun v σ H Q=>∃a xs,v= .ref a/\jU K H a xs/\xs.length=n/\t xs σ H Q
theorem vc{es:List Expr}{k:Nat}{t:sQ}{n:Nat}(hc:X.calm=true)(h:vX X es t)
 (hn:(assignEach es X.env).length=n:=by rfl) (lJ:(assignEach es X.env).findIdx? (·.1)=none:=by rfl):PG X (.Tuple es k pos) (D1 X.K n t):=by
 intro pins s σ H v u Q I r hw;obtain⟨a,xs,e1,hq,hl,hw⟩:=hw;subst e1;cases r;obtain⟨its,rv,ht,hz⟩:=I.tuple hq;refine assign_Tuple_tuple (I.ok.hd hc) ht (by simp [hn,<-hl,rv.length]) lJ fun h' hx=>?_
 have I1:Inv X pins σ H {s with heap:=h'}:=I.kept (t':=s.toks) fun b o e=>hx b o (Nat.ne_of_lt (Heap.lt_size e)) e
 exact h pins _ σ H xs _ Q I1 (by simpa using rv) hw
def BW(to ti:TE)(t:xV):TG:=fun v σ H Q=>to σ H fun o H1=>ti σ H1 fun i H2=>t o i v H2 fun H3=>Q σ H3
theorem mW{o i:Expr}{to ti:TE}{t:xV}(ho:PE X o to)(hi:PE X i ti)(hs:Cr X t)
 (ha:∀v,assign (.Subscript o i pos) X.env v=(do
   let ov <-holding [v] (eval o X.env)
   let iv <-holding [v,ov] (eval i X.env)
   standAt pos
   holding [v,ov,iv] (setItem ov iv v)
   release [v,ov,iv] []):=by intro _;rfl):PG X (.Subscript o i pos) (BW to ti t):=by
 intro pins s σ H v u Q I r h;rw[ha];refine wpAny_bind (wpAny_holding (cN (ho pins s σ H _ I h) fun ov s1 ⟨x,H1,I1,r1,q1⟩=>?_))
 refine wpAny_bind (wpAny_holding (cN (hi pins s1 σ H1 _ I1 q1) fun iv s2 ⟨y,H2,I2,r2,q2⟩=>?_))
 refine wpAny_bind (wpAny_standAt (wpAny_bind (wpAny_holding (cN (hs pins s2 σ H2 x y v ov iv u _ I2 r1 r2 r q2) fun _ s3 ⟨H3,I3,q3⟩=>?_))))
 exact wpAny_release ⟨σ,H3,I3,q3⟩
def uH(te:TE)(g:TG):TS:=fun D σ H=>te σ H fun x H1=>g x σ H1 D.nx
theorem vJ{tg e:Expr}{te:TE}{g:TG}(he:PE X e te)(hg:PG X tg g)(hs:swapsWithSole [tg] e pos.line X.env=pure false:=by rfl)(hw:swappedStores [tg] e X.env=pure none:=by rfl)
 (h1:(assignEach [tg] X.env).map (·.2)=[assign tg X.env]:=by rfl):PS X (.Assign [tg] e pos) (uH te g):=by
 intro pins s σ H D I h;refine wpAny_Assign_stores (cN (he pins s σ H _ I h) fun v s1 ⟨x,H1,I1,r1,q1⟩=>?_) hs hw
 rw[h1];exact cN (hg pins s1 σ H1 x v _ I1 r1 q1) fun _ s2 q=>q
theorem qg{i:Nat}{te:TE}(hN:X.N.Nodup)(hi:X.N[i]? =some x)(hx:Loc X.env.scope x)(he:PE X e te)(hs:swapsWith e (some (.Name x pos')) pos.line X.env=pure false:=by rfl)(hf:X.fn x=true\/X.env.scope.names.lookup x=some .local:=by first | exact .inl rfl | exact .inr rfl | assumption) :
 PS X (.Assign [.Name x pos'] e pos) (uH te (l8 i)):=by
 intro pins s σ H D I h;refine wpAny_Assign_Name (cN (he pins s σ H _ I h) fun v s1 ⟨y,H1,I1,r1,q1⟩=>?_) hs
 exact kO I1 hN hi hx r1 (fun s2 I2=>⟨_,H1,I2,q1⟩) hf
def Hy(i j:Nat)(ta:TA):TS:=fun D σ H=>ta σ H fun vs H1=>∃v w,vs=[v,w]/\D.nx ((σ.set i (some v)).set j (some w)) H1
def IB(i:Nat)(te:TE)(ti:Dk):TS:=fun D σ H=>∃x,σ[i]? =some (some x)/\te σ H fun y H1=>ti x y H1 fun z H2=>D.nx (σ.set i (some z)) H2
def GO(to ti te:TE)(Fp:V->V->Hp->VK->Prop)(Jr:Dk)(FE:xV):TS:=fun D σ H=>to σ H fun o H1=>ti σ H1 fun i H2=>Fp o i H2 fun x H3=>te σ H3 fun y H4=>Jr x y H4 fun z H5=>FE o i z H5 fun H6=>D.nx σ H6
def IU(X:Cx)(t:V->V->Hp->VK->Prop):Prop:=
 ∀(pins:KQ) (s:Shared) (σ:St) (H:Hp) (o i:V) (ov iv:Value) (Q:VK),Inv X pins σ H s->RelV o ov->RelV i iv->t o i H Q->
  wpAny (model X.prog X.w) X.A (getItem ov iv) (EP X pins σ Q) X.xe s
def Kn(f:Int->Int->Int):Dk:=fun x y H Q=>∃i j,x= .int i/\y= .int j/\Q (.int (f i j)) H
end
section
variable {X:Cx} {pos:Pos}
def EN(c:TT)(tb:TS):TS:=fun D σ H=>∃W:Nat->St->Hp->Prop,(∃m,W m σ H)/\∀m σ H,W m σ H->
 c σ H fun b H1=>if b=true then ∃N:St->Hp->Prop,(∀bR H',N bR H'->∃m',m' < m/\W m' bR H')/\tb {D with nx:=N,ct:=N,bk:=D.nx} σ H1 else D.nx σ H1
end
structure It where
 go:Nat->Hp->Prop
 yld:Nat->Hp->V->Hp->Prop
 stop:Nat->Hp->Prop
def j9(X:Cx)(pins:KQ)(H:Hp)(b:Addr):Prop:=
 H b=none/\b≠X.env.locals/\b ∉ X.fs/\(b∈X.ex\/X.s₀.heap.objs.size<=b)/\(∀x c,X.env.cells.lookup x=some c->c≠b)/\∀p∈X.pn++pins,p.1≠b
theorem Inv.sj{X:Cx}{pins:KQ}{H H':Hp}{s:Shared}{b:Addr}(I:Inv X pins σ H s)(hb:s.heap.objs.size<=b)(hn:H' b=none):j9 X pins H' b:=by
 refine⟨hn,Nat.ne_of_gt (Nat.lt_of_lt_of_le I.lt hb),I.EE hb, .inr (Nat.le_trans I.sz hb),fun x c e z=>?_,fun p hp z=>?_⟩
 .obtain⟨v,q⟩:=I.cell x c e;exact absurd (Nat.lt_of_lt_of_le q.lt (by rw[z];exact hb)) (Nat.lt_irrefl _)
 .exact absurd (Nat.lt_of_lt_of_le (Heap.lt_size (I.pin p hp).1) (by rw[z];exact hb)) (Nat.lt_irrefl _)
structure Turn (P:Program) (w:World) (K:W.Frag) (tg:Expr) (J:It) (fp:List Addr) (it:Addr) (tn:Nat->Heap->Prop):Prop where
 mem:it∈fp
 obj:∀i h,tn i h->∀b∈fp,∃o,h.get? b=some o/\∀v,o.data≠ .cell v
 keep:∀i h h',tn i h->(∀b∈fp,∀o,h.get? b=some o->h'.get? b=some o)->tn i h'
 item:∀(X:Cx),X.prog=P->X.w=w->X.K=K->X.calm=true->∀(i:Nat) (pins:KQ) (s:Shared) (σ:St) (H:Hp) (E:KR),Inv X pins σ H s->(∀b∈fp,j9 X pins H b)->tn i s.heap->J.go i H->
  wpAny (model P w) X.A (pyNext (.ref it)) (fun r s1=>∃u,r=some u/\
   wpAny (model P w) X.A (letOwnedTupleGo tg (.ref it) u) (fun _ s2=>∃x H',Inv X pins σ H' s2/\RelV x u/\J.yld i H x H'/\tn (i+1) s2.heap/\∀b∈fp,H' b=none) E s1) E s
 done:∀(X:Cx),X.prog=P->X.w=w->X.K=K->X.calm=true->∀(i:Nat) (pins:KQ) (s:Shared) (σ:St) (H:Hp) (E:KR),Inv X pins σ H s->(∀b∈fp,j9 X pins H b)->tn i s.heap->J.stop i H->
  wpAny (model P w) X.A (pyNext (.ref it)) (fun r s1=>r=none/\Inv X pins σ H s1) E s
 self:∀(A:Around) (i:Nat) (s:Shared) (Q:KR) (E:KR),tn i s.heap->Q (.ref it) s->wpAny (model P w) A (pyIter (.ref it)) Q E s
abbrev TI:=St->Hp->(It->Hp->Prop)->Prop
def Hd(X:Cx)(pins:KQ)(σ:St)(tg:Expr)(R:It->Hp->Prop)(DO:Value)(s2:Shared):Prop:=
 ∃(it:Addr) (fp:List Addr) (tn:Nat->Heap->Prop) (J:It) (H':Hp),DO= .ref it/\Inv X pins σ H' s2/\Turn X.prog X.w X.K tg J fp it tn/\tn 0 s2.heap/\(∀b∈fp,j9 X pins H' b)/\R J H'
def PI(X:Cx)(tg iter:Expr)(wi:TI):Prop:=
 ∀(pins:KQ) (s:Shared) (σ:St) (H:Hp) (R:It->Hp->Prop),Inv X pins σ H s->wi σ H R->
  wpAny (model X.prog X.w) X.A (eval iter X.env) (fun v s1=>wpAny (model X.prog X.w) X.A (pyIter v) (Hd X pins σ tg R) X.xe s1) X.xe s
theorem ud{M:Model}{A:Around}{E:KR}{s:Shared}{tg:Expr}{it:Addr}{u:Value}{o:Obj}{n:String}{vs:Array Value}{Q:Unit->Shared->Prop}(ho:s.heap.get? it=some o)(hc:o.cls= .type n)(hd:o.data= .fields vs)
 (hn:["enumerate","zip","dict_itemiterator","dict_reverseitemiterator","odict_iterator","itertools.zip_longest","itertools.pairwise"].contains n=false) (hQ:Q () s):wpAny M A (letOwnedTupleGo tg (.ref it) u) Q E s:=by
 unfold letOwnedTupleGo;cases tg <;> first
  | exact wpAny_pure hQ
  | (cases u <;> first
      | exact wpAny_pure hQ
      | (refine wpAny_bind (wpAny_load ho ?_)
         rw[hc,hd];show wpAny M A (if(["enumerate","zip","dict_itemiterator","dict_reverseitemiterator","odict_iterator","itertools.zip_longest","itertools.pairwise"].contains n && vs[0]? ==some (rawInt _))=true then _ else _) Q E s
         rw[if_neg (by intro h;rw [hn,Bool.false_and] at h;cases h)]
         exact wpAny_pure hQ))
def GS(K:W.Frag)(a:Addr):It:=
 ⟨fun i H=>∃xs x,iX K H a xs/\xs[i]? =some x,fun i H x H'=>H'=H/\∀xs,iX K H a xs->xs[i]? =some x,fun i H=>∃xs,iX K H a xs/\xs.length<=i⟩
def G1(K:W.Frag)(a:Addr):It:=
 ⟨fun i H=>∃xs x,jU K H a xs/\xs[i]? =some x,fun i H x H'=>H'=H/\∀xs,jU K H a xs->xs[i]? =some x,fun i H=>∃xs,jU K H a xs/\xs.length<=i⟩
def Cj(lo:Int)(n:Nat):It:=⟨fun i _=>i < n,fun i H x H'=>H'=H/\x= .int (lo+i),fun i _=>n<=i⟩
theorem lM{K:W.Frag}(a it:Addr):Turn P w K tg (GS K a) [it] it (fun i h=>h.IsListIter it a i) where
 mem:=by simp
 obj:=fun i h st b hb=>by
  have e:b=it:=by simpa using hb
  subst e;obtain⟨o,e,c,d⟩:=st;exact⟨o,e,fun v z=>by rw[d] at z;cases z⟩
 keep:=fun i h h' st k=>st.at fun o e=>k it (by simp) o e
 item:=by
  intro X hP hw hK hc i pins s σ H E I hf st hg;subst hP hw hK;obtain⟨xs,x,hq,hx⟩:=hg;obtain⟨its,rv,p,hz⟩:=I.list hq;obtain⟨u,hu,ru⟩:=rv.get hx;obtain⟨f0,f1,f2,f3,f4,f5⟩:=hf it (by simp)
  refine wpAny_pyNext_list_item st p.isList (x:=u) (by simpa using hu) fun h' yS sb=>?_
  have I1:Inv X pins σ H {s with heap:=h'}:=I.turned (t':=s.toks) (fun b o hb e=>(sb.2 b hb).trans e) f0 f1 f3 f4 f5
  obtain⟨o,e,c,d⟩:=id yS;exact⟨u,rfl,ud (s:={s with heap:=h'}) e c d (by decide) ⟨x,H,I1,ru,⟨rfl,fun ys hy=>by rw[I.tL hy hq];exact hx⟩,yS,fun b hb=>(hf b hb).1⟩⟩
 done:=by
  intro X hP hw hK hc i pins s σ H E I hf st hg;subst hP hw hK;obtain⟨xs,hq,hx⟩:=hg;obtain⟨its,rv,p,hz⟩:=I.list hq;obtain⟨f0,f1,f2,f3,f4,f5⟩:=hf it (by simp)
  have hl:=rv.length;exact wpAny_pyNext_list_end (I.ok.hd hc) st p.isList (by simp;omega) fun h' eb=>⟨rfl,I.turned (t':=s.toks) (fun b o hb e=>eb b o hb e) f0 f1 f3 f4 f5⟩
 self:=fun _ _ _ _ _ st h=>wpAny_pyIter_listiter st h
theorem qo{K:W.Frag}(a it:Addr):Turn P w K tg (G1 K a) [it] it (fun i h=>h.IsTupleIter it a i) where
 mem:=by simp
 obj:=fun i h st b hb=>by
  have e:b=it:=by simpa using hb
  subst e;obtain⟨o,e,c,d⟩:=st;exact⟨o,e,fun v z=>by rw[d] at z;cases z⟩
 keep:=fun i h h' st k=>st.at fun o e=>k it (by simp) o e
 item:=by
  intro X hP hw hK hc i pins s σ H E I hf st hg;subst hP hw hK;obtain⟨xs,x,hq,hx⟩:=hg;obtain⟨its,rv,p,hz⟩:=I.tuple hq;obtain⟨u,hu,ru⟩:=rv.get hx;obtain⟨f0,f1,f2,f3,f4,f5⟩:=hf it (by simp)
  refine wpAny_pyNext_tuple_item st (show s.heap.IsTuple a its.toArray from p) (x:=u) (by simpa using hu) fun h' yS sb=>?_
  have I1:Inv X pins σ H {s with heap:=h'}:=I.turned (t':=s.toks) (fun b o hb e=>(sb.2 b hb).trans e) f0 f1 f3 f4 f5
  obtain⟨o,e,c,d⟩:=id yS;exact⟨u,rfl,ud (s:={s with heap:=h'}) e c d (by decide) ⟨x,H,I1,ru,⟨rfl,fun ys hy=>by rw[I.rP hy hq];exact hx⟩,yS,fun b hb=>(hf b hb).1⟩⟩
 done:=by
  intro X hP hw hK hc i pins s σ H E I hf st hg;subst hP hw hK;obtain⟨xs,hq,hx⟩:=hg;obtain⟨its,rv,p,hz⟩:=I.tuple hq;obtain⟨f0,f1,f2,f3,f4,f5⟩:=hf it (by simp)
  have hl:=rv.length;exact wpAny_pyNext_tuple_end (I.ok.hd hc) st (show s.heap.IsTuple a its.toArray from p) (by simp;omega) fun h' eb=>⟨rfl,I.turned (t':=s.toks) (fun b o hb e=>eb b o hb e) f0 f1 f3 f4 f5⟩
 self:=fun _ _ _ _ _ st h=>wpAny_pyIter_tupleiter st h
theorem pP{K:W.Frag}(it:Addr)(lo:Int)(n:Nat):Turn P w K tg (Cj lo n) [it] it (fun i h=>IsRangeIter h it (lo+(i:Nat)*1) ((n:Int) - (i:Nat)) 1) where
 mem:=by simp
 obj:=fun i h st b hb=>by
  have e:b=it:=by simpa using hb
  subst e;exact⟨_,st,fun v z=>by
   have z':Data.fields _=Data.cell v:=z;cases z'⟩
 keep:=fun i h h' st k=>k it (by simp) _ st
 item:=by
  intro X hP hw hK hc i pins s σ H E I hf st hg;subst hP hw hK;obtain⟨f0,f1,f2,f3,f4,f5⟩:=hf it (by simp)
  have W:=Walks.range (prog:=X.prog) (w:=X.w) (I.ok.hd hc) it lo 1 n;refine W.item i s _ _ hg st fun v h' tk hv yS kk=>?_
  obtain⟨t,rfl⟩:=hv;have I1:Inv X pins σ H {s with heap:=h',toks:=tk}:=I.turned (fun b o hb e=>kk b o (by simpa using hb) e) f0 f1 f3 f4 f5
  refine⟨_,rfl,ud (s:={s with heap:=h',toks:=tk}) (n:="range_iterator") yS rfl rfl (by decide) ⟨.int (lo+i),H,I1,⟨t,?_⟩,⟨rfl,rfl⟩,yS,fun b hb=>(hf b hb).1⟩⟩
  rw[Int.mul_one]
 done:=by
  intro X hP hw hK hc i pins s σ H E I hf st hg;subst hP hw hK;obtain⟨f0,f1,f2,f3,f4,f5⟩:=hf it (by simp)
  exact wpAny_pyNext_range_end (I.ok.hd hc) st (by have:n<=i:=hg;omega) fun h' eb=>⟨rfl,I.turned (t':=s.toks) (fun b o hb e=>eb b o hb e) f0 f1 f3 f4 f5⟩
 self:=fun _ _ _ _ _ st h=>wpAny_pyIter_rangeiter st h
section
variable {X:Cx} {tg:Expr}
def Hb(K:W.Frag)(tl:TE):TI:=fun σ H R=>tl σ H fun x H1=>∃a,x= .ref a/\(∃xs,iX K H1 a xs)/\R (GS K a) H1
def D7(K:W.Frag)(tl:TE):TI:=fun σ H R=>tl σ H fun x H1=>∃a,x= .ref a/\(∃xs,jU K H1 a xs)/\R (G1 K a) H1
theorem ui{pins:KQ}{σ:St}{H:Hp}{s:Shared}{R:It->Hp->Prop}{E:KR}{lo hi:Int}{t u v:Tok}{tk:Nat}(I:Inv X pins σ H s)(h1: -(2 ^ 62)<=lo)(h2:lo < 2 ^ 62)(h3: -(2 ^ 62)<=hi)(h4:hi < 2 ^ 62)
 (q:R (Cj lo (hi - lo).toNat) H):wpAny (model X.prog X.w) X.A (pyIter (.ref s.heap.objs.size)) (Hd X pins σ tg R) E {s with heap:=s.heap.push {cls:= .type "range",data:= .fields #[.int lo t, .int hi u, .int 1 v]},toks:=tk}:=by
 refine wpAny_pyIter_range (IsRange.new ..) (small_one h1 h2 h3 h4) ?_;have I1:Inv X pins σ H {s with heap:=s.heap.push {cls:= .type "range",data:= .fields #[.int lo t, .int hi u, .int 1 v]},toks:=tk}:=I.kept fun b o e=>Heap.get?_push_of_some _ e
 refine⟨(s.heap.push {cls:= .type "range",data:= .fields #[.int lo t, .int hi u, .int 1 v]}).objs.size,[(s.heap.push {cls:= .type "range",data:= .fields #[.int lo t, .int hi u, .int 1 v]}).objs.size],_,_,H,rfl,
  I1.kept (t':=tk) fun b o e=>Heap.get?_push_of_some _ e,pP _ lo (hi - lo).toNat,?_,fun b hb=>?_,q⟩
 .have e1:lo+((0:Nat):Int)*1=lo:=by simp
  have e2:(((hi - lo).toNat:Nat):Int) - ((0:Nat):Int)=Builtin.Range.rangeSize lo hi 1:=by rw[rangeSize_one];split <;> omega
  show IsRangeIter _ _ (lo+((0:Nat):Int)*1) ((((hi - lo).toNat:Nat):Int) - ((0:Nat):Int)) 1;rw[e1,e2];exact Heap.get?_push_size _ rfl
 .have e:b=(s.heap.push {cls:= .type "range",data:= .fields #[.int lo t, .int hi u, .int 1 v]}).objs.size:=by simpa using hb
  subst e;exact I1.sj (Nat.le_refl _) (I1.hok.fresh (Nat.le_refl _))
def md(ta:TA):TI:=fun σ H R=>ta σ H fun vs H1=>∃j:Int,vs=[.int j]/\ -(2 ^ 62)<=j/\j < 2 ^ 62/\R (Cj 0 j.toNat) H1
def GV(ta:TA):TI:=fun σ H R=>ta σ H fun vs H1=>∃i j:Int,vs=[.int i, .int j]/\(-(2 ^ 62)<=i/\i < 2 ^ 62/\ -(2 ^ 62)<=j/\j < 2 ^ 62)/\R (Cj i (j - i).toNat) H1
theorem lQ{ta:TA}{p pos:Pos}(hg:Gl X "range")(hm:X.mg "range"=none)(ha:PA X [a] ta)(hs:starEach [a] X.env=[(false,eval a X.env)]:=by rfl):PI X tg (.Call (.Name "range" p) [a] [] pos) (md ta):=by
 intro pins s σ H R I h;refine Call_ (nB I hg hm boot_range (PyProof.Rows.callWith_type1 (cN (ha pos pins s σ H _ I h) fun us s1 ⟨vs,H1,I1,r1,q1⟩=>?_) hs rfl))
 obtain⟨j,e,q1,q2,q⟩:=q1;subst e;cases r1 with
 | cons r rr=>
   cases rr;obtain⟨t,rfl⟩:=r;exact call_range_1 (ui I1 (by omega) (by omega) q1 q2 (by simpa using q))
def D6(wi:TI)(g:TG)(tb:TS):TS:=fun D σ H=>wi σ H fun J H1=>∃W:Nat->Nat->St->Hp->Prop,(∃m,W 0 m σ H1)/\∀i m σ H,W i m σ H->
 (J.stop i H/\D.nx σ H)\/(J.go i H/\∃N:St->Hp->Prop,(∀bR H',N bR H'->∃m',m' < m/\W (i+1) m' bR H')/\∀x H',J.yld i H x H'->g x σ H' fun qw H2=>tb {D with nx:=N,ct:=N,bk:=D.nx} qw H2)
def iI(fp:List Addr)(h:Heap):KQ:=fp.filterMap fun b=>(h.get? b).map fun o=>(b,o)
theorem fY{fp:List Addr}{h:Heap}{b:Addr}{o:Obj}(hb:b∈fp)(e:h.get? b=some o):(b,o)∈iI fp h:=List.mem_filterMap.mpr ⟨b,hb,by rw[e];rfl⟩
theorem rH{fp:List Addr}{h:Heap}{p:Addr × Obj}(hp:p∈iI fp h):p.1∈fp/\h.get? p.1=some p.2:=by
 obtain⟨b,hb,e⟩:=List.mem_filterMap.mp hp;cases q:h.get? b with
 | none=>rw [q] at e;cases e
 | some o=>
   rw[q] at e;have e':(b,o)=p:=Option.some.inj e;subst e';exact⟨hb,q⟩
theorem Inv.pinned{pins:KQ}{s:Shared}{fp:List Addr}(I:Inv X pins σ H s)(hf:∀b∈fp,j9 X pins H b)(ho:∀b∈fp,∃o,s.heap.get? b=some o/\∀v,o.data≠ .cell v):Inv X (pins++iI fp s.heap) σ H s:=
 I.rj fun p hp=>(List.mem_append.mp hp).elim (fun z=>I.pin p (List.mem_append_right _ z)) fun z=>by
  obtain⟨hb,e⟩:=rH z;obtain⟨f0,f1,f2,_⟩:=hf p.1 hb;obtain⟨o,e',d⟩:=ho p.1 hb;rw[e] at e';cases e';exact⟨e,f0,f1,f2,d⟩
theorem Inv.i9{pins pl:KQ}{s:Shared}(I:Inv X (pins++pl) σ H s):Inv X pins σ H s:=I.rj fun p hp=>I.pin p (List.mem_append_right _ (List.mem_append_left _ hp))
theorem za{iter:Expr}{body:List Stmt}{wi:TI}{g:TG}{tb:TS}{pos:Pos}(hp:PassesOwn (model X.prog X.w) X.A X.env X.xe)(hc:X.calm=true)(hi:PI X tg iter wi)(hg:PG X tg g)(hb:mD X body tb)
 (hs:∀x,foldedSetIterable iter X.env x=pure x:=by intro _;rfl):PS X (.For tg iter body [] pos) (D6 wi g tb):=by
 intro pins s σ H D I h;refine wpAny_For (cN (hi pins s σ H _ I h) fun v s1 h1=>cN h1 fun DO s2 h2=>?_) hs
 obtain⟨it,fp,tn,J,H2,e,I2,T,AY,f2,W,⟨m0,w0⟩,turn⟩:=h2;subst e;have stat:∀{H':Hp},(∀b∈fp,H' b=none)->∀b∈fp,j9 X pins H' b:=fun hn b hb=>⟨hn b hb,(f2 b hb).2⟩
 refine codeAny_forLoop_any (fun n s'=>∃i bR H',Inv X pins bR H' s'/\tn i s'.heap/\(∀b∈fp,H' b=none)/\W i n bR H') ?_ m0 ⟨0,σ,H2,I2,AY,fun b hb=>(f2 b hb).1,w0⟩
 rintro n s3 ⟨i,yR,H3,I3,yg,CZ,w3⟩;rcases turn i n yR H3 w3 with⟨stop,qn⟩ | ⟨go,N,hN,step⟩
 .refine wpAny_passesOwn hp (cN (T.done X rfl rfl rfl hc i pins s3 yR H3 X.xe I3 (stat CZ) yg stop) fun r s4 ⟨hr,I4⟩=>?_)
  subst hr;exact wpAny_execs_nil ⟨yR,H3,I4,qn⟩
 .refine wpAny_passesOwn hp (cN (T.item X rfl rfl rfl hc i pins s3 yR H3 X.xe I3 (stat CZ) yg go) fun r s4 ⟨u,hr,h4⟩=>?_)
  subst hr;refine wpAny_passesOwn hp (cN h4 fun _ s5 ⟨x,H5,I5,r5,y5,A4,FR⟩=>?_)
  have I5':=I5.pinned (stat FR) (T.obj _ _ A4);refine wpAny_passesOwn hp (cN (hg _ s5 yR H5 x u _ I5' r5 (step x H5 y5)) fun _ s6 ⟨CT,H6,I6,q6⟩=>?_)
  refine wpAny_passesOwn hp (cN (hb _ s6 CT H6 _ I6 q6) fun f s7 q7=>?_)
  have again:∀{pd:St} {H7:Hp},Inv X (pins++iI fp s5.heap) pd H7 s7->N pd H7->∃m,m < n/\∃i bR H',Inv X pins bR H' s7/\tn i s7.heap/\(∀b∈fp,H' b=none)/\W i m bR H':=fun {pd H7} I7 n7=>by
   obtain⟨m',hm,w7⟩:=hN pd H7 n7;refine⟨m',hm,i+1,pd,H7,I7.i9,T.keep _ _ _ A4 fun b hb o e=>(I7.pin (b,o) (List.mem_append_right _ (List.mem_append_right _ (fY hb e)))).1,fun b hb=>?_,w7⟩
   obtain⟨o,e,d⟩:=T.obj _ _ A4 b hb;exact(I7.pin (b,o) (List.mem_append_right _ (List.mem_append_right _ (fY hb e)))).2.1
  cases f with
  | next=>obtain⟨pd,H7,I7,n7⟩:=q7;exact again I7 n7
  | cont=>obtain⟨pd,H7,I7,n7⟩:=q7;exact again I7 n7
  | brk=>obtain⟨pd,H7,I7,q7⟩:=q7;exact⟨pd,H7,I7.i9,q7⟩
  | ret v=>obtain⟨x7,pd,H7,I7,r7,q7⟩:=q7;exact⟨x7,pd,H7,I7.i9,r7,q7⟩
end
abbrev R2:=V->V->Hp->VK->Prop
def j_(X:Cx)(f:Value->Value->Sem Value)(r:R2):Prop:=
 ∀(pins:KQ) (s:Shared) (σ:St) (H:Hp) (x y:V) (v u:Value) (Q:VK),Inv X pins σ H s->RelV x v->RelV y u->r x y H Q->
  wpAny (model X.prog X.w) X.A (f v u) (EP X pins σ Q) X.xe s
def EK(X:Cx)(f:Value->Sem Value)(r:V->Hp->VK->Prop):Prop:=
 ∀(pins:KQ) (s:Shared) (σ:St) (H:Hp) (x:V) (v:Value) (Q:VK),Inv X pins σ H s->RelV x v->r x H Q->
  wpAny (model X.prog X.w) X.A (f v) (EP X pins σ Q) X.xe s
def eX(X:Cx)(f:Value)(r:List V->Hp->VK->Prop):Prop:=
 ∀(pins:KQ) (s:Shared) (σ:St) (H:Hp) (xs:List V) (us:List Value) (Q:VK),Inv X pins σ H s->Vals xs us->r xs H Q->
  wpAny (model X.prog X.w) X.A (call f us) (EP X pins σ Q) X.xe s
def EZ(X:Cx)(r:V->Hp->(Bool->Hp->Prop)->Prop):Prop:=
 ∀(pins:KQ) (s:Shared) (σ:St) (H:Hp) (x:V) (v:Value) (Q:Bool->Hp->Prop),Inv X pins σ H s->RelV x v->r x H Q->
  wpAny (model X.prog X.w) X.A (truthy v) (TP X pins σ Q) X.xe s
def Bf(r:R2)(ta tb:TE):TE:=fun σ H Q=>ta σ H fun x H1=>tb σ H1 fun y H2=>r x y H2 Q
def HF(r:V->Hp->VK->Prop)(ta:TE):TE:=fun σ H Q=>ta σ H fun x H1=>r x H1 Q
def rI(C:Int->Int->Prop)(g:Int->Int->V):R2:=fun x y H Q=>∃i j,x= .int i/\y= .int j/\C i j/\Q (g i j) H
def yN(g:Int->Int->V):R2:=fun x y H Q=>∃i j,x= .int i/\y= .int j/\Q (g i j) H
def rU(g:Int->V):V->Hp->VK->Prop:=fun x H Q=>∃i,x= .int i/\Q (g i) H
section
variable {X:Cx} {a b c:Expr} {ta tb tc:TE} {pos:Pos}
theorem zK(ha:PE X a ta)(hb:PE X b tb){pins:KQ}{s:Shared}{σ:St}{H:Hp}{R:V->V->Hp->Prop}(I:Inv X pins σ H s)
 (h:ta σ H fun x H1=>tb σ H1 fun y H2=>R x y H2) {Q:KR} {f:Value->Value->Sem Value}
 (hf:∀v u s2 x y H2,Inv X pins σ H2 s2->RelV x v->RelV y u->R x y H2->wpAny (model X.prog X.w) X.A (f v u) Q X.xe s2) :
 wpAny (model X.prog X.w) X.A (eval a X.env) (fun v s₁=>wpAny (model X.prog X.w) X.A (eval b X.env) (fun u vU=>wpAny (model X.prog X.w) X.A (f v u) Q X.xe vU) X.xe s₁) X.xe s:=by
 refine cN (ha pins s σ H _ I h) fun v s1 ⟨x,H1,I1,r1,q1⟩=>?_
 refine cN (hb pins s1 σ H1 _ I1 q1) fun u s2 ⟨y,H2,I2,r2,q2⟩=>?_
 exact hf v u s2 x y H2 I2 r1 r2 q2
theorem yw{op:Operator}{r:R2}(ho:j_ X (binaryOp op) r)(ha:PE X a ta)(hb:PE X b tb):PE X (.BinOp a op b pos) (Bf r ta tb):=by
 intro pins s σ H Q I h;exact wpAny_BinOp (zK ha hb I h fun v u s2 x y H2 I2 rx ry q=>ho pins s2 σ H2 x y v u Q I2 rx ry q)
theorem CA{op:UnaryOp}{r:V->Hp->VK->Prop}(ho:EK X (unaryOp op) r)(ha:PE X a ta):PE X (.UnaryOp op a pos) (HF r ta):=by
 intro pins s σ H Q I h;exact UnaryOp_ (cN (ha pins s σ H _ I h) fun v s1 ⟨x,H1,I1,r1,q1⟩=>ho pins s1 σ H1 x v Q I1 r1 q1)
theorem Du{f:Value->Value->Sem Value}{C:Int->Int->Prop}{g:Int->Int->Int}
 (rule:∀(i j:Int) (t u:Tok) (s:Shared) (Q:KR) (E:KR),C i j->Q (.int (g i j) s.toks) {s with toks:=s.toks+1}->wpAny (model X.prog X.w) X.A (f (.int i t) (.int j u)) Q E s) :
 j_ X f (rI C fun i j=> .int (g i j)):=by
 intro pins s σ H x y v u Q I rx ry h;obtain⟨i,j,rfl,rfl,hc,q⟩:=h;obtain⟨t,rfl⟩:=rx;obtain⟨t',rfl⟩:=ry;exact rule i j t t' s _ _ hc ⟨.int (g i j),H,I.tok _,⟨_,rfl⟩,q⟩
theorem BL{f:Value->Value->Sem Value}{g:Int->Int->Int}
 (rule:∀(i j:Int) (t u:Tok) (s:Shared) (Q:KR) (E:KR),Q (.int (g i j) s.toks) {s with toks:=s.toks+1}->wpAny (model X.prog X.w) X.A (f (.int i t) (.int j u)) Q E s) :
 j_ X f (yN fun i j=> .int (g i j)):=by
 intro pins s σ H x y v u Q I rx ry h;obtain⟨i,j,rfl,rfl,q⟩:=h;obtain⟨t,rfl⟩:=rx;obtain⟨t',rfl⟩:=ry;exact rule i j t t' s _ _ ⟨.int (g i j),H,I.tok _,⟨_,rfl⟩,q⟩
theorem CG{f:Value->Value->Sem Value}{g:Int->Int->Bool}
 (rule:∀(i j:Int) (t u:Tok) (s:Shared) (Q:KR) (E:KR),Q (.bool (g i j)) s->wpAny (model X.prog X.w) X.A (f (.int i t) (.int j u)) Q E s) :
 j_ X f (yN fun i j=> .bl (g i j)):=by
 intro pins s σ H x y v u Q I rx ry h;obtain⟨i,j,rfl,rfl,q⟩:=h;obtain⟨t,rfl⟩:=rx;obtain⟨t',rfl⟩:=ry;exact rule i j t t' s _ _ ⟨.bl (g i j),H,I,rfl,q⟩
def EI(i j:Int):Prop:=0 < j/\j < 1073741824
def Gz(i j:Int):Prop:=j≠0/\j.natAbs < 1073741824
def D3(i j:Int):Prop:=0<=j/\j<=1000000/\i.natAbs < 2 ^ 64
def zy(i j:Int):Prop:=(-(2 ^ 64) < i/\i < 2 ^ 64)\/(-(2 ^ 64) < j/\j < 2 ^ 64)
theorem zy.ok{i j:Int}(h:zy i j):IntMulOk i j:=by
 rcases h with⟨h1,h2⟩ | ⟨h1,h2⟩
 .exact .of_left (intBits_le_64 h1 h2)
 .exact .of_right (intBits_le_64 h1 h2)
theorem y9:j_ X (binaryOp .Add) (yN fun i j=> .int (i+j)):=BL fun _ _ _ _ _ _ _ q=>add_int q
theorem Aa:j_ X (binaryOp .Sub) (yN fun i j=> .int (i - j)):=BL fun _ _ _ _ _ _ _ q=>sub_int q
theorem Ap:j_ X (binaryOp .Mult) (rI zy fun i j=> .int (i*j)):=Du fun _ _ _ _ _ _ _ hc q=>mul_int q hc.ok
theorem xC:j_ X (binaryOp .FloorDiv) (rI EI fun i j=> .int (i / j)):=Du fun i j _ _ _ _ _ hc q=>by
 have h1:(0:Int) < j:=hc.1;have h2:j < 1073741824:=hc.2;exact floordiv_int (by omega) (by rw[Int.fdiv_eq_ediv_of_nonneg i (by omega)];exact q) (.inl (PyProof.noPylong_small (by omega)))
theorem Ad:j_ X (binaryOp .Mod) (rI (fun _ j=>0 < j) fun i j=> .int (i % j)):=Du fun i j _ _ _ _ _ hc q=>by
 have h1:(0:Int) < j:=hc;exact mod_int' (by omega) (by rw[Int.fmod_eq_emod_of_nonneg i (by omega)];exact q)
theorem Ag:j_ X (binaryOp .Pow) (rI D3 fun i j=> .int (i ^ j.toNat)):=Du fun _ _ _ _ _ _ _ hc q=>pow_int_small hc.1 hc.2.1 hc.2.2 q
theorem HY{f:Value->Sem Value}{g:Int->Int}
 (rule:∀(i:Int) (t:Tok) (s:Shared) (Q:KR) (E:KR),Q (.int (g i) s.toks) {s with toks:=s.toks+1}->wpAny (model X.prog X.w) X.A (f (.int i t)) Q E s) :
 EK X f (rU fun i=> .int (g i)):=by
 intro pins s σ H x v Q I rx h;obtain⟨i,rfl,q⟩:=h;obtain⟨t,rfl⟩:=rx;exact rule i t s _ _ ⟨.int (g i),H,I.tok _,⟨_,rfl⟩,q⟩
theorem y7:EK X (unaryOp .USub) (rU fun i=> .int (-i)):=HY fun _ _ _ _ _ q=>neg_int q
end
def Bx:V->V->Bool
 | .cy, .cy=>true | .cy, .int _=>true | .int _, .cy=>true | .cy, .bl _=>true | .bl _, .cy=>true | .cy, .str _=>true | .str _, .cy=>true
 | .int _, .int _=>true | .bl _, .bl _=>true | .str _, .str _=>true | .byt _, .byt _=>true
 | .int _, .str _=>true | .str _, .int _=>true | .bl _, .str _=>true | .str _, .bl _=>true
 | _,_=>false
def Jg:R2:=fun x y H Q=>Bx x y=true/\Q (.bl (decide (x=y))) H
def Jb:R2:=fun x y H Q=>Bx x y=true/\Q (.bl (!decide (x=y))) H
theorem q8{i j:Int}:decide (V.int i=V.int j)=(i==j):=by
 rw[Bool.eq_iff_iff];simp
theorem tM{i j:Bool}:decide (V.bl i=V.bl j)=(i==j):=by
 rw[Bool.eq_iff_iff];simp
theorem rq:decide (V.str i=V.str j)=(i==j):=by
 rw[Bool.eq_iff_iff];simp
theorem qM{i j:Array UInt8}:decide (V.byt i=V.byt j)=(i.toList==j.toList):=by
 rw[Bool.eq_iff_iff];cases i;cases j;simp
section
variable {X:Cx} {a b c:Expr} {ta tb tc:TE} {pos:Pos}
theorem bF{pins:KQ}{s:Shared}{Q:VK}{k k':Bool}(I:Inv X pins σ H s)(q:Q (.bl k) H)(e:k=k'):EP X pins σ Q (.bool k') s:=by
 subst e;exact⟨.bl k,H,I,rfl,q⟩
theorem uC:j_ X (compareOp .Eq) Jg:=by
 intro pins s σ H x y v u Q I rx ry h;obtain⟨hs,q⟩:=h;cases x with
 | cy=>
   cases rx;cases y with
   | cy=>cases ry;exact PySem.EqNone.eq_none_none (bF I q (by simp))
   | bl j=>cases ry;exact PySem.EqNone.eq_none_bool (bF I q (by simp))
   | int j=>obtain⟨t',rfl⟩:=ry;exact PySem.EqNone.eq_none_int (bF I q (by simp))
   | str j=>obtain⟨t',rfl⟩:=ry;exact PySem.EqNone.eq_none_str (bF I q (by simp))
   | _=>exact absurd (show false=true from hs) Bool.false_ne_true
 | bl i=>
   cases rx;cases y with
   | cy=>cases ry;exact PySem.EqNone.eq_bool_none (bF I q (by simp))
   | bl j=>cases ry;exact eq_bool (bF I q tM)
   | str j=>obtain⟨t',rfl⟩:=ry;exact PySem.EqMixed.eq_bool_str (bF I q (by simp))
   | _=>exact absurd (show false=true from hs) Bool.false_ne_true
 | int i=>
   obtain⟨t,rfl⟩:=rx;cases y with
   | cy=>cases ry;exact PySem.EqNone.eq_int_none (bF I q (by simp))
   | int j=>obtain⟨t',rfl⟩:=ry;exact eq_int (bF I q q8)
   | str j=>obtain⟨t',rfl⟩:=ry;exact PySem.EqMixed.eq_int_str (bF I q (by simp))
   | _=>exact absurd (show false=true from hs) Bool.false_ne_true
 | str i=>
   obtain⟨t,rfl⟩:=rx;cases y with
   | cy=>cases ry;exact PySem.EqNone.eq_str_none (bF I q (by simp))
   | bl j=>cases ry;exact PySem.EqMixed.eq_str_bool (bF I q (by simp))
   | int j=>obtain⟨t',rfl⟩:=ry;exact PySem.EqMixed.eq_str_int (bF I q (by simp))
   | str j=>obtain⟨t',rfl⟩:=ry;exact eq_str (bF I q rq)
   | _=>exact absurd (show false=true from hs) Bool.false_ne_true
 | byt i=>
   obtain⟨t,rfl⟩:=rx;cases y with
   | byt j=>obtain⟨t',rfl⟩:=ry;exact PySem.W.eq_bytes (bF I q qM)
   | _=>exact absurd (show false=true from hs) Bool.false_ne_true
 | _=>cases y <;> exact absurd (show false=true from hs) Bool.false_ne_true
theorem uS:j_ X (compareOp .NotEq) Jb:=by
 intro pins s σ H x y v u Q I rx ry h;obtain⟨hs,q⟩:=h;cases x with
 | cy=>
   cases rx;cases y with
   | cy=>cases ry;exact PySem.EqNone.ne_none_none (bF I q (by simp))
   | bl j=>cases ry;exact PySem.EqNone.ne_none_bool (bF I q (by simp))
   | int j=>obtain⟨t',rfl⟩:=ry;exact PySem.EqNone.ne_none_int (bF I q (by simp))
   | str j=>obtain⟨t',rfl⟩:=ry;exact PySem.EqNone.ne_none_str (bF I q (by simp))
   | _=>exact absurd (show false=true from hs) Bool.false_ne_true
 | bl i=>
   cases rx;cases y with
   | cy=>cases ry;exact PySem.EqNone.ne_bool_none (bF I q (by simp))
   | bl j=>cases ry;exact ne_bool (bF I q (congrArg not tM))
   | str j=>obtain⟨t',rfl⟩:=ry;exact PySem.EqMixed.ne_bool_str (bF I q (by simp))
   | _=>exact absurd (show false=true from hs) Bool.false_ne_true
 | int i=>
   obtain⟨t,rfl⟩:=rx;cases y with
   | cy=>cases ry;exact PySem.EqNone.ne_int_none (bF I q (by simp))
   | int j=>obtain⟨t',rfl⟩:=ry;exact ne_int (bF I q (congrArg not q8))
   | str j=>obtain⟨t',rfl⟩:=ry;exact PySem.EqMixed.ne_int_str (bF I q (by simp))
   | _=>exact absurd (show false=true from hs) Bool.false_ne_true
 | str i=>
   obtain⟨t,rfl⟩:=rx;cases y with
   | cy=>cases ry;exact PySem.EqNone.ne_str_none (bF I q (by simp))
   | bl j=>cases ry;exact PySem.EqMixed.ne_str_bool (bF I q (by simp))
   | int j=>obtain⟨t',rfl⟩:=ry;exact PySem.EqMixed.ne_str_int (bF I q (by simp))
   | str j=>obtain⟨t',rfl⟩:=ry;exact ne_str (bF I q (congrArg not rq))
   | _=>exact absurd (show false=true from hs) Bool.false_ne_true
 | byt i=>
   obtain⟨t,rfl⟩:=rx;cases y with
   | byt j=>obtain⟨t',rfl⟩:=ry;exact PySem.W.ne_bytes (bF I q (congrArg not qM))
   | _=>exact absurd (show false=true from hs) Bool.false_ne_true
 | _=>cases y <;> exact absurd (show false=true from hs) Bool.false_ne_true
theorem BK:j_ X (compareOp .Gt) (yN fun i j=> .bl (decide (j < i))):=CG fun _ _ _ _ _ _ _ q=>gt_int q
theorem BG:j_ X (compareOp .GtE) (yN fun i j=> .bl (decide (j<=i))):=CG fun _ _ _ _ _ _ _ q=>ge_int q
def isObj:HO->Bool
 | .lst _=>true
 | .ins _ _ _=>true
 | _=>false
theorem cM(b:Expr){op:CmpOp}(h:op≠ .In:=by decide)(h2:op≠ .NotIn:=by decide):behindInMarks op b=false:=by
 have e1:(op==CmpOp.In)=false:=by cases op <;> first | rfl | exact absurd rfl h
 have e2:(op==CmpOp.NotIn)=false:=by cases op <;> first | rfl | exact absurd rfl h2
 cases b <;> simp [behindInMarks,e1,e2]
theorem qE{op:CmpOp}{r:R2}(ho:j_ X (compareOp op) r)(ha:PE X a ta)(hb:PE X b tb)(hm:behindInMarks op b=false):PE X (.Compare a [op] [b] pos) (Bf r ta tb):=by
 intro pins s σ H Q I h;exact wpAny_Compare1 (zK ha hb I h fun v u s2 x y H2 I2 rx ry q=>ho pins s2 σ H2 x y v u Q I2 rx ry q) hm
def Br(t:TE):TT:=fun σ H Q=>t σ H fun x H'=>∃k,x= .bl k/\Q k H'
theorem rf{op:CmpOp}{r:R2}(ho:j_ X (compareOp op) r)(ha:PE X a ta)(hb:PE X b tb)(hm:behindInMarks op b=false):PT X (.Compare a [op] [b] pos) (Br (Bf r ta tb)):=by
 intro pins s σ H Q I h;refine wpAny_isTrue_Compare1 (cN (ha pins s σ H _ I h) fun v s1 ⟨x,H1,I1,r1,q1⟩=>cN (hb pins s1 σ H1 _ I1 q1) fun u s2 ⟨y,H2,I2,r2,q2⟩=>
  cN (ho pins s2 σ H2 x y v u _ I2 r1 r2 q2) fun c s3 ⟨z,H3,I3,r3,k,e,q3⟩=>?_) hm
 subst e;cases r3;exact wpAny_truthy_bool ⟨H3,I3,q3⟩
def Ei(r r':R2)(ta tb tc:TE):TE:=fun σ H Q=>ta σ H fun x H1=>tb σ H1 fun y H2=>r x y H2 fun z H3=>∃k,z= .bl k/\
 (if k=true then tc σ H3 fun w' H4=>r' y w' H4 Q else Q (.bl false) H3)
def x8(K:W.Frag)(x:V)(H:Hp)(k:Bool):Prop:=
 match x with
 | .cy=>k=false
 | .bl b=>k=b
 | .int i=>k=(i !=0)
 | .str y=>y.length<=sizeLine/\k=((y.length:Int) !=0)
 | .byt y=>y.size<=sizeLine/\k=((y.size:Int) !=0)
 | .ref p=>(∃xs,iX K H p xs/\k=!xs.isEmpty)\/(∃xs,jU K H p xs/\k=!xs.isEmpty)\/∃aI,H p=some (.dK aI)/\k=!aI.isEmpty
 | _=>False
theorem qq{κ:Type}{aI:List (κ × V)}{vs:List (κ × Value)}(r:KV aI vs):(!vs.isEmpty)=!aI.isEmpty:=by
 cases r <;> rfl
theorem kW{xs:List V}{its:List Value}(r:Vals xs its):(!its.toArray.isEmpty)=!xs.isEmpty:=by
 cases r <;> simp
theorem jS:(sizeLine:Nat) < 2 ^ 63:=by rw[sizeLine_eq];decide
theorem AI:EZ X (fun x H Q=>∃k,x8 X.K x H k/\Q k H):=by
 intro pins s σ H x v Q I rx h;obtain⟨k,e,q⟩:=h;have hl:=jS;have hs:sizeLine=16777216:=sizeLine_eq;cases x with
 | cy=>
   cases rx;have e':k=false:=e;subst e';exact truthy_none ⟨H,I,q⟩
 | bl b=>
   cases rx;have e':k=b:=e;subst e';exact wpAny_truthy_bool ⟨H,I,q⟩
 | int i=>
   obtain⟨t,rfl⟩:=rx;have e':k=(i !=0):=e;subst e';exact PySem.P.truthy_int ⟨H,I,q⟩
 | str y=>
   obtain⟨t,rfl⟩:=rx;obtain⟨hy,e'⟩:y.length<=sizeLine/\k=((y.length:Int) !=0):=e;subst e';exact PySem.P.truthy_str (by omega) ⟨H,I.tok _,q⟩
 | byt y=>
   obtain⟨t,rfl⟩:=rx;obtain⟨hy,e'⟩:y.size<=sizeLine/\k=((y.size:Int) !=0):=e;subst e';exact PySem.W.truthy_bytes (by omega) ⟨H,I.tok _,q⟩
 | ref p=>
   cases rx;have e':(∃xs,iX X.K H p xs/\k=!xs.isEmpty)\/(∃xs,jU X.K H p xs/\k=!xs.isEmpty)\/∃aI,H p=some (.dK aI)/\k=!aI.isEmpty:=e;rcases e' with⟨xs,hx,e'⟩ | ⟨xs,hx,e'⟩ | ⟨aI,hx,e'⟩
   .subst e';obtain⟨its,r,pl,hz⟩:=I.list hx;have hlen:=r.length;exact wpAny_truthy_list pl.isList (by simp only[List.size_toArray];omega) ⟨H,I.tok _,by rw[kW r];exact q⟩
   .subst e';obtain⟨its,r,pl,hz⟩:=I.tuple hx;have hlen:=r.length;exact truthy_tuple pl (by simp only[List.size_toArray];omega) ⟨H,I.tok _,by rw[kW r];exact q⟩
   .subst e';obtain⟨hz,hS,vs,r,m⟩:aI.length<=sizeLine/\(p==sysModules)=false/\∃vs,KV aI vs/\s.heap.DictOf (cb X.prog X.w) p vs:=I.hok p _ hx;have hlen:aI.length=vs.length:=Paired.length r;exact wpAny_truthy_dict hS m (by omega) ⟨H,I.tok _,by rw[qq r];exact q⟩
 | _=>exact(show False from e).elim
theorem oX(ha:PE X a ta)(he:∀whole,isTrue a X.env whole=(do let v <-whole;standAt a.pos;holding [v] (truthy v))) :
 PT X a (fun σ H Q=>ta σ H fun x H'=>∃k,x8 X.K x H' k/\Q k H'):=by
 intro pins s σ H Q I h;exact isTrue_plain (cN (ha pins s σ H _ I h) fun v s1 ⟨x,H1,I1,r1,q1⟩=>AI pins s1 σ H1 x v Q I1 r1 q1) (he _)
theorem pW:j_ X (binaryOp .Add) (fun x y H Q=>∃i j,x= .str i/\y= .str j/\i.length+j.length<=sizeLine/\Q (.str (i++j)) H):=by
 intro pins s σ H x y v u Q I rx ry h;obtain⟨i,j,rfl,rfl,hz,q⟩:=h;obtain⟨t,rfl⟩:=rx;obtain⟨t',rfl⟩:=ry;exact add_str (fun t' tk=>⟨.str (i++j),H,I.tok _,⟨_,rfl⟩,q⟩) hz
def B9(b:Expr):Prop:=∀o i,subscripted b false o i=operate [o,i] (getItem o i)
theorem vals1{x:V}{us:List Value}(r:Vals [x] us):∃u,us=[u]/\RelV x u:=by
 cases r with
 | cons r1 r2=>cases r2;exact⟨_,rfl,r1⟩
theorem vals2{x y:V}{us:List Value}(r:Vals [x,y] us):∃u w',us=[u,w']/\RelV x u/\RelV y w':=by
 cases r with
 | cons r1 r2=>
   cases r2 with
   | cons r3 r4=>cases r4;exact⟨_,_,rfl,r1,r3⟩
theorem rV(hc:X.calm=true):eX X (.builtin "min") (fun xs H Q=>∃i j,xs=[.int i, .int j]/\Q (.int (if j < i then j else i)) H):=by
 intro pins s σ H xs us Q I r h;obtain⟨i,j,rfl,q⟩:=h;obtain⟨u,w',rfl,⟨t,rfl⟩,⟨t',rfl⟩⟩:=vals2 r;refine min_two_ints (I.ok.hd hc) fun h' tk k=>⟨_,H,I.kept k,?_,q⟩
 by_cases hj:j < i
 .rw [if_pos hj,if_pos hj];exact⟨_,rfl⟩
 .rw [if_neg hj,if_neg hj];exact⟨_,rfl⟩
theorem su:eX X (.type "int") (fun xs H Q=>(∃i,xs=[.int i]/\Q (.int i) H)\/∃k,xs=[.bl k]/\Q (.int (if k then 1 else 0)) H):=by
 intro pins s σ H xs us Q I r h;rcases h with⟨i,rfl,q⟩ | ⟨k,rfl,q⟩
 .obtain⟨u,rfl,t,rfl⟩:=vals1 r;exact call_int_int ⟨.int i,H,I,⟨_,rfl⟩,q⟩
 .obtain⟨u,rfl,r1⟩:=vals1 r;cases r1;exact call_int_bool ⟨.int (if k then 1 else 0),H,I.tok _,⟨_,rfl⟩,q⟩
def EW(K:W.Frag)(x:V)(H:Hp)(n:Nat):Prop:=
 match x with
 | .str y=>y.length<=sizeLine/\n=y.length
 | .byt y=>y.size<=sizeLine/\n=y.size
 | .ref p=>(∃xs,iX K H p xs/\n=xs.length)\/∃xs,jU K H p xs/\n=xs.length
 | _=>False
theorem uc:eX X (.builtin "len") (fun xs H Q=>∃x n,xs=[x]/\EW X.K x H n/\Q (.int n) H):=by
 intro pins s σ H xs us Q I r h;obtain⟨x,n,rfl,e,q⟩:=h;obtain⟨u,rfl,rx⟩:=vals1 r;have hl:=jS;have hs:sizeLine=16777216:=sizeLine_eq;cases x with
 | str y=>
   obtain⟨t,rfl⟩:=rx;obtain⟨hy,e'⟩:y.length<=sizeLine/\n=y.length:=e;subst e';exact len_str (by omega) ⟨.int _,H,I.tok _,⟨_,rfl⟩,q⟩
 | byt y=>
   obtain⟨t,rfl⟩:=rx;obtain⟨hy,e'⟩:y.size<=sizeLine/\n=y.size:=e;subst e';exact PySem.W.len_bytes (by omega) ⟨.int _,H,I.tok _,⟨_,rfl⟩,q⟩
 | ref p=>
   cases rx;have e':(∃xs,iX X.K H p xs/\n=xs.length)\/∃xs,jU X.K H p xs/\n=xs.length:=e;rcases e' with⟨xs,hx,e'⟩ | ⟨xs,hx,e'⟩
   .subst e';obtain⟨its,r',pl,hz⟩:=I.list hx;have hlen:=r'.length;exact Calls.call_len_list pl.isList (by simp only[List.size_toArray];omega) ⟨.int xs.length,H,I.tok _,⟨_,by simp only[List.size_toArray];rw [hlen]⟩,q⟩
   .subst e';obtain⟨its,r',pl,hz⟩:=I.tuple hx;have hlen:=r'.length;exact len_tuple pl (by simp only[List.size_toArray];omega) ⟨.int xs.length,H,I.tok _,⟨_,by simp only[List.size_toArray];rw [hlen]⟩,q⟩
 | _=>exact(show False from e).elim
end
structure HG (h:Heap) (x dx C:Addr) (mA:KY):Prop where
 obj:h.get? x=some (PySem.W.instObj C dx)
 ns:h.Ns1 dx mA
 ne:dx≠x
section
variable {prog:Program} {w:World} {A:Around} {E:KR} {s:Shared} {K:W.Frag} {x dx C f:Addr} {mA:KY} {name:Str} {v:Value}
end
def zB(f:Str)(v:V):List (Str × V)->List (Str × V)
 | []=>[(f,v)]
 | (g,x) ::r=>if g=f then(g,v) ::r else(g,x) ::zB f v r
section
variable {P:Program} {w:World} {H H':Hp} {h h':Heap} {a C dx:Addr} {fs CN:List (Str × V)}
end
structure Bd (K:W.Frag) (C:Addr):Prop where
 pg:PySem.W.plainGet K C Str.empty=true
 hd:PySem.W.hasDictIn K C=true
 po:PySem.W.plainOver K C=true
 sa:PySem.W.findIn K (.ref C) "__setattr__"=some (some (.builtin "object.__setattr__"))
def p9(K:W.Frag)(C:Addr)(f:Str):Prop:=PySem.W.findIn K (.ref C) f=some none
structure Iu (K:W.Frag) (C:Addr) (f:Str) (v:V) (u:Value):Prop where
 at_:PySem.W.findIn K (.ref C) f=some (some u)
 rel:RelV v u
 get:PySem.W.specialIn K u "__get__"=some none
 cp:PySem.W.copiedNames.contains f=false
structure Meth (K:W.Frag) (C:Addr) (m:Str) (f:Addr):Prop where
 at_:PySem.W.findIn K (.ref C) m=some (some (.ref f))
 fn:PySem.W.isFn K (.ref f)=true
 kp:PySem.W.keepIn K (.ref f)=true
section
variable {X:Cx} {pins:KQ} {σ:St} {H:Hp} {s:Shared} {a C dx:Addr} {fs:List (Str × V)} {f:Str} {v:V} {A:Around} {E:KR}
end
def HV(K:W.Frag)(ta:TE)(f:Str):TE:=fun σ H Q=>ta σ H fun x H1=>∃a C dx fs v,x= .ref a/\H1 a=some (.ins C dx fs)/\Bd K C/\p9 K C f/\fs.lookup f=some v/\Q v H1
def IE(K:W.Frag)(ta:TE)(f:Str):TE:=fun σ H Q=>ta σ H fun x H1=>∃a C dx fs v u,x= .ref a/\H1 a=some (.ins C dx fs)/\Bd K C/\Iu K C f v u/\fs.lookup f=none/\Q v H1
def IP(K:W.Frag)(ta tv:TE)(f:Str):TS:=fun D σ H=>tv σ H fun y H1=>ta σ H1 fun x H2=>∃a C dx fs,x= .ref a/\H2 a=some (.ins C dx fs)/\Bd K C/\p9 K C f/\fs.length < 1000/\
 D.nx σ (upd H2 a (.ins C dx (zB f y fs)))
def Ji(X:Cx)(op:Operator)(rd:V->V->Hp->VK->Prop):Prop:=
 ∀(pins:KQ) (s:Shared) (σ:St) (H:Hp) (x y:V) (u v:Value) (Q:VK),Inv X pins σ H s->RelV x u->RelV y v->rd x y H Q->wpAny (model X.prog X.w) X.A (inplaceOp op u v) (EP X pins σ Q) X.xe s
def Dl(K:W.Frag)(ta tv:TE)(rd:V->V->Hp->VK->Prop)(f:Str):TS:=fun D σ H=>ta σ H fun x H1=>∃a C dx fs v,x= .ref a/\H1 a=some (.ins C dx fs)/\Bd K C/\p9 K C f/\fs.lookup f=some v/\
 tv σ H1 fun y H2=>rd v y H2 fun z H3=>∃dx' CN,H3 a=some (.ins C dx' CN)/\CN.length < 1000/\D.nx σ (upd H3 a (.ins C dx' (zB f z CN)))
section
variable {X:Cx} {o e value:Expr} {f:Str} {pos pos' pe:Pos} {ta tv:TE}
def II:V->V->Hp->VK->Prop:=fun x y H Q=>∃i j,x= .int i/\y= .int j/\Q (.int (i+j)) H
def Ie:V->V->Hp->VK->Prop:=fun x y H Q=>∃i j,x= .int i/\y= .int j/\Q (.int (i - j)) H
end
section
variable {X:Cx} {pins:KQ} {σ:St} {H:Hp} {s:Shared} {A:Around} {E:KR} {Q:KR} {c:Value} {b:Bool}
inductive kz (K:W.Frag) (H:Hp):V->Value->Prop where
 | cy:kz K H .cy (.type "NoneType")
 | bl (x:Bool):kz K H (.bl x) (.type "bool")
 | int (i:Int):kz K H (.int i) (.type "int")
 | str (x:Str):kz K H (.str x) (.type "str")
 | flt (x:UInt64):kz K H (.flt x) (.type "float")
 | lst {a:Addr} {xs:List V} (e:H a=some (.lst xs)):kz K H (.ref a) (.type "list")
 | jB {a:Addr} {o:Obj} {xs:List V} (e:H a=some (.jB o (.lst xs))):kz K H (.ref a) (.type "list")
 | tup {a:Addr} {xs:List V} (e:H a=some (.tup xs)):kz K H (.ref a) (.type "tuple")
 | dK {a:Addr} {aI:List (Key × V)} (e:H a=some (.dK aI)):kz K H (.ref a) (.type "dict")
 | dT {a:Addr} {aI:List (List Key × V)} (e:H a=some (.dT aI)):kz K H (.ref a) (.type "dict")
 | ins {a C dx:Addr} {fs:List (Str × V)} (e:H a=some (.ins C dx fs)) (cl:Bd K C) (ha:PySem.W.findIn K (.ref C) "__class__"=some (some (.builtin "object.__class__")))
    (hn:PySem.W.specialIn K (.builtin "object.__class__") "__get__"=some (some (.builtin "getset_descriptor.__get__"))) (KD:PySem.W.takesIn K (.builtin "object.__class__")=some true)
    (hm:PySem.W.mroIn K C (.type "object")=some true):kz K H (.ref a) (.ref C)
end
structure dH (k:Nat) (A:Around):Prop where
 hd:A.handled=none
 dp:A.depth+3*k+5 < recursionLimit
 un:A.units+16*k+200 < cLine
theorem dH.mono{j k:Nat}(r:dH k A)(h:j<=k):dH j A:=⟨r.hd,by have:=r.dp;omega,by have:=r.un;omega⟩
theorem dH.deeper{k:Nat}{A:Around}(r:dH (k+1) A)(env:Env):dH k (A.deeper env):=
 ⟨r.hd,by have:=r.dp;show A.depth+1+3*k+5 < _;omega,by have:=r.un;show A.units+3+16*k+200 < _;omega⟩
theorem dH.depth{k:Nat}{A:Around}(r:dH k A):A.depth < recursionLimit:=by have:=r.dp;omega
theorem dH.units{k:Nat}{A:Around}(r:dH k A):A.units+64 < cLine:=by have:=r.un;omega
def Ej:TA:=fun _ H Q=>Q [] H
def CB(ta:TE)(tr:TA):TA:=fun σ H Q=>ta σ H fun x H1=>tr σ H1 fun xs H2=>Q (x ::xs) H2
section
variable {X:Cx} {e:Expr} {es:List Expr} {te:TE} {t:TA} {pos:Pos}
theorem eP:PA X [] Ej:=fun _ _ _ _ H Q I h=>Calls.spliced_nil ⟨[],H,I, .nil,h⟩
theorem c1(ha:PE X e te)(hr:PA X es t)(hs:starEach (e ::es) X.env=(false,eval e X.env) ::starEach es X.env:=by rfl):PA X (e ::es) (CB te t):=by
 intro pos pins s σ H Q I h;rw[hs];show wpAny _ _ (spliced ((false,eval e X.env) ::backTo pos (starEach es X.env))) _ _ s;refine Calls.spliced_cons (cN (ha pins s σ H _ I h) fun u s1 ⟨x,H1,I1,r1,q1⟩=>?_)
 exact cN (hr pos pins s1 σ H1 _ I1 q1) fun us s2 ⟨xs,H2,I2,r2,q2⟩=>⟨x ::xs,H2,I2, .cons r1 r2,q2⟩
def EJ(t:TA):TE:=fun σ H Q=>t σ H fun xs H1=>xs.length<=sizeLine/\∀p,H1 p=none->Q (.ref p) (upd H1 p (.tup xs))
def EU(t:TA):TE:=fun σ H Q=>t σ H fun xs H1=>xs.length<=sizeLine/\∀p,H1 p=none->Q (.ref p) (upd H1 p (.lst xs))
theorem qp{x1}(h:PA X es t):PE X (.Tuple es x1 pos) (EJ t):=by
 intro pins s σ H Q I hq;refine wpAny_Tuple_spliced (cN (h pos pins s σ H _ I hq) fun us s1 ⟨xs,H1,I1,r,z,q⟩=>⟨by rw[<-r.length];exact z,?_⟩)
 have hf:H1 s1.heap.objs.size=none:=I1.hok.fresh (Nat.le_refl _);refine⟨.ref s1.heap.objs.size,upd H1 s1.heap.objs.size (.tup xs),I1.laid (t':=s1.toks) (fun b u e=>Heap.get?_push_of_some _ e) (Nat.le_refl _) ?_,rfl,q _ hf⟩
 exact⟨z,us,r,⟨_,Heap.get?_push_size _ rfl,rfl,_,rfl⟩⟩
theorem vy(h:PA X es t):PE X (.List es pos) (EU t):=by
 intro pins s σ H Q I hq;refine wpAny_List_spliced (cN (h pos pins s σ H _ I hq) fun us s1 ⟨xs,H1,I1,r,z,q⟩=>⟨by rw[<-r.length];exact z,?_⟩)
 have hf:H1 s1.heap.objs.size=none:=I1.hok.fresh (Nat.le_refl _);refine⟨.ref s1.heap.objs.size,upd H1 s1.heap.objs.size (.lst xs),I1.laid (t':=s1.toks) (fun b u e=>Heap.get?_push_of_some _ e) (Nat.le_refl _) ?_,rfl,q _ hf⟩
 exact⟨z,us,0,r,Heap.get?_push_size _ rfl⟩
end
abbrev Sp:=List V->Hp->VK->XK->Prop
abbrev sT:=List Env->Hp->Shared->XK->Value->Shared->Prop
structure xZ (P:Program) (w:World) (K:W.Frag) (mg:KY) (base:Heap) (A:Around) (outer:List Env) (s:Shared) (H:Hp):Prop where
 frames:A.frames=some outer
 mod:Mod K mg base
 bs:∀b o,base.get? b=some o->s.heap.get? b=some o/\H b=none
 bsz:base.objs.size<=s.heap.objs.size
 jC:s.heap.FunFrames base outer
 frf:∀b∈iC outer,H b=none
 hok:ie P w H s.heap
 bare:AllBare s.gens
def CE(outer:List Env)(P:Program)(w:World)(H:Hp)(s:Shared)(Q:VK)(u:Value)(s':Shared):Prop:=
 ∃v H',s'.os=s.os/\AllBare s'.gens/\Un (iC outer) [] H H' s.heap s'.heap/\ie P w H' s'.heap/\RelV v u/\Q v H'
def CR(CX:sT)(outer:List Env)(P:Program)(w:World)(H:Hp)(s:Shared)(Q:VK)(E:XK)(r:Result)(s':Shared):Prop:=
 match r with
 | .ok (.ret u)=>CE outer P w H s Q u s'
 | .ok _=>False
 | .error e=>CX outer H s E e s'
structure eU (P:Program) (w:World) (K:W.Frag) (mg:KY) (base:Heap) (CX:sT) (k:Nat) (f:Addr) (fd:FuncData) (ps:List Str) (sp:Sp):Prop where
 len:∀vs H Q E,sp vs H Q E->vs.length=ps.length
 run:∀(A:Around) (outer:List Env) (s:Shared) (H:Hp) (args:Args) (us:List Value) (vs:List V) (Q:VK) (E:XK),dH k A->xZ P w K mg base A outer s H->BindsTo s fd args (ps.zip us)->Vals vs us->sp vs H Q E->
  codeAny (model P w) A (.call (.ref f) args) (CR CX outer P w H s Q E) s
theorem eU.imp{P:Program}{w:World}{K:W.Frag}{mg:KY}{base:Heap}{CX:sT}{k:Nat}{f:Addr}{fd:FuncData}{ps:List Str}{sp Hl:Sp}(F:eU P w K mg base CX k f fd ps sp)
 (h:∀vs H Q E,Hl vs H Q E->sp vs H Q E):eU P w K mg base CX k f fd ps Hl:=
 ⟨fun vs H Q E q=>F.len vs H Q E (h _ _ _ _ q),fun A outer s H args us vs Q E hr he hb hv hs=>F.run A outer s H args us vs Q E hr he hb hv (h _ _ _ _ hs)⟩
section
variable {X:Cx} {pins:KQ} {σ:St} {H:Hp} {s s':Shared}
theorem Inv.Eu(I:Inv X pins σ H s):xZ X.prog X.w X.K X.mg X.base X.A X.stack s H:=
 ⟨I.ok.frames,I.ok.mod,I.bs,Nat.le_trans I.ok.bsz I.sz,I.stack,I.hW,I.hok,I.bare⟩
theorem Inv.after{Q:VK}{u:Value}(I:Inv X pins σ H s)(h:CE X.stack X.prog X.w H s Q u s'):EP X pins σ Q u s':=by
 obtain⟨v,H',os,bare,un,hok,r,q⟩:=h;obtain⟨hh,g,d,t,JC⟩:=s';obtain rfl:JC=s.os:=os;exact⟨v,H',I.call (h':=hh) (g':=g) (d':=d) (t':=t) (ch:=[]) un hok bare (fun b z=>absurd z (by simp)),r,q⟩
end
def By(sp:Sp)(sV:List V)(E:XK)(t:TA):TE:=fun σ H Q=>t σ H fun vs H1=>sp (vs++sV) H1 Q E
def Hc(C:Addr)(m:Str)(sp:Sp)(sV:List V)(E:XK)(ta:TE)(t:TA):TE:=fun σ H Q=>ta σ H fun x H1=>∃a dx fs,x= .ref a/\H1 a=some (.ins C dx fs)/\fs.lookup m=none/\
 t σ H1 fun vs H2=>sp (x ::(vs++sV)) H2 Q E
def GK(C:Addr)(sp:Sp)(sV:List V)(E:XK)(t:TA):TE:=fun σ H Q=>t σ H fun vs H1=>∀x dx,H1 x=none->H1 dx=none->dx≠x->
 sp (.ref x ::(vs++sV)) (upd (upd H1 dx (.own x)) x (.ins C dx [])) (fun v H2=>v= .cy/\Q (.ref x) H2) E
def Binds(K:W.Frag)(fd:FuncData)(ps:List Str)(ds:List Value):Prop:=
 ∀(s:Shared) (us:List Value),K.In s.heap->(us++ds).length=ps.length->BindsTo s fd ⟨us,[]⟩ (ps.zip (us++ds))
theorem Binds.all{K:W.Frag}{fd:FuncData}{ps:List Str}(h:∀us:List Value,us.length=ps.length->bindArgs fd ⟨us,[]⟩=pure (ps.zip us)):Binds K fd ps []:=fun s us _ hl=>by
 rw[List.append_nil] at hl ⊢;exact .of_eq (h us hl)
def Passes(CX:sT)(X:Cx)(E:XK):Prop:=∀(pins:KQ) (σ:St) (H:Hp) (s:Shared) (e:Value) (s':Shared),Inv X pins σ H s->CX X.stack H s E e s'->X.xe e s'
section
variable {X:Cx} {CX:sT} {k:Nat} {f C:Addr} {fd:FuncData} {ps:List Str} {sp:Sp} {sV:List V} {ds:List Value} {E:XK} {x m:Str} {p pos apos:Pos} {e o:Expr} {es:List Expr} {ta:TE} {t:TA}
theorem zY{pins:KQ}{σ:St}{H:Hp}{s:Shared}{Q:VK}{us:List Value}{vs:List V}(F:eU X.prog X.w X.K X.mg X.base CX k f fd ps sp)(hr:dH k X.A)(hb:Binds X.K fd ps ds)(hd:Vals sV ds)(hx:Passes CX X E)
 (I:Inv X pins σ H s) (r:Vals vs us) (h:sp (vs++sV) H Q E):wpAny (model X.prog X.w) X.A (call (.ref f) us) (EP X pins σ Q) X.xe s:=by
 have r2:Vals (vs++sV) (us++ds):=r.append hd;have hl:(us++ds).length=ps.length:=by rw[<-r2.length];exact F.len _ _ _ _ h
 refine wpAny_call (codeAny_mono (F.run X.A X.stack s H ⟨us,[]⟩ (us++ds) (vs++sV) Q E hr I.Eu (hb s us I.ve hl) r2 h) fun r s' hq=>?_)
 cases r with
 | error e=>exact hx pins σ H s e s' I hq
 | ok fl=>
   cases fl with
   | ret u=>exact I.after hq
   | next=>exact False.elim hq
   | brk=>exact False.elim hq
   | cont=>exact False.elim hq
theorem mY(F:eU X.prog X.w X.K X.mg X.base CX k f fd ps sp)(hr:dH k X.A)(hg:Gl X x)(hm:X.mg x=some (.ref f))(hk:PySem.W.keepIn X.K (.ref f)=true)(hb:Binds X.K fd ps ds)(hd:Vals sV ds)(hx:Passes CX X E)
 (ha:PA X (e ::es) t) (ik:(x==("__debug__":Str))=false:=by decide) (he:starEach (e ::es) X.env=(false,eval e X.env) ::starEach es X.env:=by rfl) (fP:(backTo pos (starEach es X.env)).any (·.1)=false:=by rfl) :
 PE X (.Call (.Name x p) (e ::es) [] pos) (By sp sV E t):=by
 intro pins s σ H Q I h;refine wpAny_Call_Name_kw (kh I hg hm ?_ ik);refine PySem.W.callWith_K (h₀:=X.base) I.ok.mod.kin hk (cN (ha pos pins s σ H _ I h) fun us s1 ⟨vs,H1,I1,r,q⟩=>⟨I1.ve,?_⟩) he fP
 exact zY F hr hb hd hx I1 r q
structure Mk (K:W.Frag) (C f:Addr):Prop where
 makes:PySem.W.makesIn K C=true
 init:PySem.W.findIn K (.ref C) "__init__"=some (some (.ref f))
 fn:PySem.W.isFn K (.ref f)=true
 kp:PySem.W.keepIn K (.ref C)=true
end
def PK(X:Cx)(Hn:List Keyword)(t:TA):Prop:=
 ∀(pos:Pos) (pins:KQ) (s:Shared) (σ:St) (H:Hp) (Q:List V->Hp->Prop),Inv X pins σ H s->t σ H Q->wpAny (model X.prog X.w) X.A (evalAll ((backToKw pos (keywordEach Hn X.env)).map (·.2))) (AP X pins σ Q) X.xe s
section
variable {X:Cx} {CX:sT} {k:Nat} {f C:Addr} {fd:FuncData} {ps ks:List Str} {sp:Sp} {E:XK} {x m:Str} {p pos apos JD:Pos} {e o:Expr} {es:List Expr} {Hn:List Keyword} {te ta:TE} {t tk:TA} {nm:Option Str}
structure Ez (K:W.Frag) (fd:FuncData) (ps ks:List Str) (g:List Value->List Value->List Value) (gV:List V->List V->List V):Prop where
 to:∀(s:Shared) (us ws:List Value),K.In s.heap->(g us ws).length=ps.length->BindsTo s fd ⟨us,ks.zip ws⟩ (ps.zip (g us ws))
 rel:∀{vs:List V} {us:List Value} {zs:List V} {ws:List Value},Vals vs us->Vals zs ws->Vals (gV vs zs) (g us ws)
def Ek(sp:Sp)(gV:List V->List V->List V)(E:XK)(t tk:TA):TE:=fun σ H Q=>t σ H fun vs H1=>tk σ H1 fun zs H2=>sp (gV vs zs) H2 Q E
variable {g:List Value->List Value->List Value} {gV:List V->List V->List V}
end
structure bH (N P:List Str) (sc:Scope):Prop where
 kind:sc.kind= .function
 co:sc.isCoroutine=false
 gen:sc.isGenerator=false
 nd:N.Nodup
 pre:N.take P.length=P
 par:∀x∈P,sc.names.lookup x=some .local\/sc.names.lookup x=some .cell
 nofree:∀y∈sc.names,y.2≠ .free
theorem mj{kindOf:Str->Option NameKind}:∀{binds:List (Str × Value)} {m:KY},(∀v,(x,v) ∉ binds)->bindL kindOf binds m x=m x
 | [],_,_=>rfl
 | (n,v) ::r,m,h=>by
   unfold bindL;rw[mj fun w hw=>h w (List.mem_cons_of_mem _ hw)]
   split
   .have:x≠n:=by rintro rfl;exact h v List.mem_cons_self
    simp [this]
   .rfl
theorem lP{kindOf:Str->Option NameKind}:∀{binds:List (Str × Value)} {m:KY},(∀v,(x,v) ∉ binds)->bindC kindOf binds m x=m x
 | [],_,_=>rfl
 | (n,v) ::r,m,h=>by
   unfold bindC;rw[lP fun w hw=>h w (List.mem_cons_of_mem _ hw)]
   split
   .rfl
   .have:x≠n:=by rintro rfl;exact h v List.mem_cons_self
    simp [this]
theorem lW{kindOf:Str->Option NameKind}{v:Value}:∀{P:List Str} {vs:List Value} {i:Nat} {m:KY},P.Nodup->P[i]? =some x->vs[i]? =some v->kindOf x=some .local->
 bindL kindOf (P.zip vs) m x=some v
 | [],_,_,_,_,h,_,_=>by simp at h
 | _ ::_,[],_,_,_,_,h,_=>by simp at h
 | p ::P,w ::vs,0,m,nd,h1,h2,hk=>by
   simp at h1 h2;subst h1;subst h2;show bindL kindOf ((p,w) ::P.zip vs) m p=_;unfold bindL;rw[mj fun v hv=>(List.nodup_cons.mp nd).1 (List.of_mem_zip hv).1,if_pos hk]
   simp
 | p ::P,w ::vs,i+1,m,nd,h1,h2,hk=>by
   show bindL kindOf ((p,w) ::P.zip vs) m x=_;unfold bindL;exact lW (i:=i) (List.nodup_cons.mp nd).2 (by simpa using h1) (by simpa using h2) hk
theorem lL{kindOf:Str->Option NameKind}{v:Value}:∀{P:List Str} {vs:List Value} {i:Nat} {m:KY},P.Nodup->P[i]? =some x->vs[i]? =some v->kindOf x≠some .local->
 bindC kindOf (P.zip vs) m x=some v
 | [],_,_,_,_,h,_,_=>by simp at h
 | _ ::_,[],_,_,_,_,h,_=>by simp at h
 | p ::P,w ::vs,0,m,nd,h1,h2,hk=>by
   simp at h1 h2;subst h1;subst h2;show bindC kindOf ((p,w) ::P.zip vs) m p=_;unfold bindC;rw[lP fun v hv=>(List.nodup_cons.mp nd).1 (List.of_mem_zip hv).1,if_neg hk]
   simp
 | p ::P,w ::vs,i+1,m,nd,h1,h2,hk=>by
   show bindC kindOf ((p,w) ::P.zip vs) m x=_;unfold bindC;exact lL (i:=i) (List.nodup_cons.mp nd).2 (by simpa using h1) (by simpa using h2) hk
def start(N:List Str)(vs:List V):St:=vs.map some++List.replicate (N.length - vs.length) none
def gU(CX:sT)(P:Program)(w:World)(K:W.Frag)(mg:KY)(base:Heap)(N:List Str)(qual:Str)(scope:Scope)(f:Addr)(cd:Value)(A:Around)(outer:List Env)(s:Shared)(H:Hp)(E:XK):Cx where
 prog:=P
 w:=w
 K:=K
 mg:=mg
 base:=base
 A:=A.deeper (envOfC qual scope s.heap.objs.size f cd)
 N:=N
 s₀:=s
 H₀:=H
 env:=envOfC qual scope s.heap.objs.size f cd
 outer:=outer
 stack:=envOfC qual scope s.heap.objs.size f cd ::outer
 ex:=[]
 calm:=true
 fn:=fun _=>true
 pn:=[]
 xe:=fun e s'=>wpAny (model P w) (A.deeper (envOfC qual scope s.heap.objs.size f cd)) (leaving (envOfC qual scope s.heap.objs.size f cd) e) (fun _ Gd=>CX outer H s E e Gd) (fun e' Gd=>CX outer H s E e' Gd) s'
theorem ku{sc:Scope}{n:Nat}(h:sc.names.lookup x=some .cell):∃c,(cellsFrom n sc.names []).lookup x=some c:=by
 have q:=PySem.W.cellsFrom_some sc.names n [] (.inl h);exact Option.isSome_iff_exists.mp q
theorem sv{CX:sT}{P:Program}{w:World}{K:W.Frag}{mg:KY}{base:Heap}{N ps:List Str}{qual:Str}{scope:Scope}{f:Addr}{cd:Value}{A:Around}{outer:List Env}{s s1:Shared}{H:Hp}{E:XK}{us:List Value}{vs:List V}
 (S:bH N ps scope) (hd:A.handled=none) (e0:xZ P w K mg base A outer s H) (hl:vs.length=ps.length) (r:Vals vs us)
 (x:InCallC s s.heap.objs.size (bindL (envOfC qual scope s.heap.objs.size f cd).kindOf (ps.zip us) fun _=>none) (cellsFrom (s.heap.objs.size+1) scope.names []) (bindC (envOfC qual scope s.heap.objs.size f cd).kindOf (ps.zip us) fun _=>none) s1) :
 Inv (gU CX P w K mg base N qual scope f cd A outer s H E) [] (start N vs) H s1:=by
 have fP:ps.length<=N.length:=by have:=congrArg List.length S.pre;rw [List.length_take] at this;omega
 obtain⟨h1,tk,rfl,hk⟩:=x.done;have noA:∀b:Addr,b ∉ (gU CX P w K mg base N qual scope f cd A outer s H E).ex:=fun b z=>absurd (show b∈([]:List Addr) from z) (by simp)
 refine⟨⟨e0.mod,S.kind,rfl,rfl,Nat.le_refl _,fun y z c h1 h2=>?_,fun y hy=>?_,fun y c _ h=>?_,fun _=>hd,Around.frames_deeper e0.frames, .inr ⟨rfl,rfl⟩,fun b z=>absurd z (noA b),e0.bs,e0.bsz,fun b _ _=>noA b,fun b z=>absurd z (noA b),e0.jC,e0.frf⟩,
  rfl,e0.bare,Un.kept hk,⟨_,x.toInCall.ns,fun i y v h1 h2 h3=>?_⟩,fun y c h=>⟨_,x.cell y c h⟩,e0.hok.fresh (Nat.le_refl _),fun y c h=>?_,fun p hp=>absurd (show p∈([]:KQ) from hp) (by simp),e0.hok.kept hk,?_⟩
 .exact name_of_addr x.apart (PySem.mem_of_lookup h1) (PySem.mem_of_lookup h2)
 .have hy:scope.names.lookup y=some .cell\/scope.names.lookup y=some .free:=hy;rcases hy with hy | hy
  .exact ku hy
  .exact absurd rfl (S.nofree _ (PySem.mem_of_lookup hy))
 .exact Nat.le_of_lt (x.above y c (PySem.mem_of_lookup h))
 .have hi:i < vs.length:=by
   unfold start at h2;by_cases hi:i < vs.length
   .exact hi
   .rw [List.getElem?_append_right (by simpa using hi)] at h2
    rw[List.getElem?_replicate] at h2;split at h2 <;> cases h2
  have ha:vs[i]? =some v:=by
   unfold start at h2;rw[List.getElem?_append_left (by simpa using hi),List.getElem?_map] at h2
   cases e:vs[i]? with
   | none=>rw [e] at h2;cases h2
   | some a=>rw [e] at h2;cases h2;rfl
  obtain⟨u,hu,rv⟩:=r.get ha;have hp:ps[i]? =some y:=by
   rw[<-S.pre,List.getElem?_take_of_lt (by omega)];exact h1
  have ndP:ps.Nodup:=by rw[<-S.pre];exact S.nd.sublist (List.take_sublist _ _)
  refine⟨u,rv,?_⟩;rcases S.par y (List.mem_of_getElem? hp) with k | k
  .exact .inl ⟨k,lW ndP hp hu k⟩
  .obtain⟨c,e⟩:=ku (n:=s.heap.objs.size+1) k;refine .inr ⟨.inl k,c,e,?_⟩;have q:=x.cell y c e;rw[lL ndP hp hu (by show scope.names.lookup y≠_;rw [k];decide)] at q
   exact q
 .exact e0.hok.fresh (Nat.le_of_lt (x.above y c (PySem.mem_of_lookup h)))
 .unfold start;show _=N.length;rw[List.length_append,List.length_map,List.length_replicate];omega
theorem yo{CX:sT}{P:Program}{w:World}{K:W.Frag}{mg:KY}{base:Heap}{k:Nat}{f:Addr}{name qual:Str}{params:Arguments}{body:List Stmt}{scope:Scope}{dV kV doc pm df ct oc:Value}{an od:Option Addr}
 {sY:Array (Option Value)} {N ps:List Str} {sp:Sp} (lk:K.lookup f=some ⟨oc,od, .func (PySem.W.fnOf name qual params body scope dV kV doc pm an df ct),sY⟩) (lK:PySem.W.codeIn K df qual=true) (S:bH N ps scope)
 (len:∀vs H Q E,sp vs H Q E->vs.length=ps.length)
 (dZ:∀(A:Around) (outer:List Env) (s:Shared) (H:Hp) (vs:List V) (Q:VK) (E:XK),dH k (A.deeper (envOfC qual scope s.heap.objs.size f df))->sp vs H Q E->
   ∃t,mD (gU CX P w K mg base N qual scope f df A outer s H E) body t/\t {nx:=fun _ H'=>Q .cy H',rt:=Q} (start N vs) H) :
 eU P w K mg base CX (k+1) f (PySem.W.fnOf name qual params body scope dV kV doc pm an df ct) ps sp:=by
 refine⟨len,fun A outer s H args us vs Q E hr e0 hb r wj=>?_⟩
 have hl:=len _ _ _ _ wj;have KX:K.In s.heap:=e0.mod.kin.keeps fun b o e=>(e0.bs b o e).1
 have lim:s.heap.NoLimit:=e0.mod.nolimit.keeps fun b o e=>(e0.bs b o e).1
 have hkind:∀y∈ps.zip us,scope.names.lookup y.1=some .local\/(scope.names.lookup y.1=some .cell/\((cellsFrom (s.heap.objs.size+1) scope.names []).lookup y.1).isSome=true):=fun⟨n,v⟩ hy=>by
  rcases S.par n (List.of_mem_zip hy).1 with q | q
  .exact .inl q
  .exact .inr ⟨q,PySem.W.cellsFrom_some _ _ _ (.inl q)⟩
 refine codeAny_call_function hr.depth (KX _ _ lk) rfl S.co S.gen rfl (PySem.W.codeRec_of KX lK) (hb _ _ _ _ ?_);refine wpAny_newFunctionEnv_cells S.kind hkind fun env he s1 x=>?_
 subst he;refine⟨lim.keeps x.toInCall.keep,codeAny_func ?_⟩;obtain⟨t,ht,hq⟩:=dZ A outer s H vs Q E (hr.deeper _) wj;have I:Inv (gU CX P w K mg base N qual scope f df A outer s H E) [] (start N vs) H s1:=sv S hr.hd e0 hl r x;refine wpAny_mono (ht [] s1 (start N vs) H _ I hq) (fun fl s' hs=>?_) fun e s' hs=>hs
 have fin:∀{bR:St} {H':Hp} {v:V} {u:Value},Inv (gU CX P w K mg base N qual scope f df A outer s H E) [] bR H' s'->RelV v u->Q v H'->CE outer P w H s Q u s':=
  fun {bR H' v u} J rv q=>⟨v,H',J.os,J.bare,J.base,J.hok,rv,q⟩
 cases fl with
 | ret u=>
   obtain⟨v,bR,H',J,rv,q⟩:=hs;exact fin J rv q
 | next=>
   obtain⟨bR,H',J,q⟩:=hs;exact fin (v:=V.cy) (u:=Value.none) J rfl q
 | brk=>
   obtain⟨_,_,_,q⟩:=hs;exact False.elim q
 | cont=>
   obtain⟨_,_,_,q⟩:=hs;exact False.elim q
section
variable {X:Cx} {x:Str} {p pos:Pos} {e:Expr} {es:List Expr} {t:TA} {id T:String} {r:List V->Hp->VK->Prop}
def Gn(r:List V->Hp->VK->Prop)(t:TA):TE:=fun σ H Q=>t σ H fun vs H1=>r vs H1 Q
theorem jl(hc:eX X (.builtin id) r)(hg:Gl X x)(hm:X.mg x=none)(hv:bootBuiltins x=some (.builtin id))(ha:PA X (e ::es) t)(hn:x≠"__name__":=by decide)(ik:(x==("__debug__":Str))=false:=by decide)
 (he:starEach (e ::es) X.env=(false,eval e X.env) ::starEach es X.env:=by rfl) (fP:(backTo pos (starEach es X.env)).any (·.1)=false:=by rfl):PE X (.Call (.Name x p) (e ::es) [] pos) (Gn r t):=by
 intro pins s σ H Q I h;refine wpAny_Call_Name_kw (nB I hg hm hv ?_ hn ik);exact PyProof.Rows.callWith_builtin1 (cN (ha pos pins s σ H _ I h) fun us s1 ⟨vs,H1,I1,r1,q1⟩=>hc pins s1 σ H1 vs us Q I1 r1 q1) he fP
theorem jD(hc:eX X (.type T) r)(hg:Gl X x)(hm:X.mg x=none)(hv:bootBuiltins x=some (.type T))(ha:PA X (e ::es) t)(hn:x≠"__name__":=by decide)(ik:(x==("__debug__":Str))=false:=by decide)
 (he:starEach (e ::es) X.env=(false,eval e X.env) ::starEach es X.env:=by rfl) (fP:(backTo pos (starEach es X.env)).any (·.1)=false:=by rfl):PE X (.Call (.Name x p) (e ::es) [] pos) (Gn r t):=by
 intro pins s σ H Q I h;refine wpAny_Call_Name_kw (nB I hg hm hv ?_ hn ik);exact PyProof.Rows.callWith_type1 (cN (ha pos pins s σ H _ I h) fun us s1 ⟨vs,H1,I1,r1,q1⟩=>hc pins s1 σ H1 vs us Q I1 r1 q1) he fP
end
section
variable {κ:Type} [DecidableEq κ]
def gJ(aI:List (κ × V))(k:κ):Option V:=(aI.find? fun kv=>decide (kv.1=k)).map (·.2)
def putK(aI:List (κ × V))(k:κ)(v:V):List (κ × V):=
 if(aI.any fun kv=>decide (kv.1=k))=true then aI.map (fun kv=>if kv.1=k then(kv.1,v) else kv) else aI++[(k,v)]
def ug(aI:List (κ × V))(k:κ):List (κ × V):=aI.filter fun kv=>decide (kv.1≠k)
theorem oy{p:κ × V}{r:List (κ × V)}{k:κ}(e:p.1=k):gJ (p ::r) k=some p.2:=by simp [gJ,List.find?_cons,e]
theorem oK{p:κ × V}{r:List (κ × V)}{k:κ}(e:¬p.1=k):gJ (p ::r) k=gJ r k:=by simp [gJ,List.find?_cons,e]
theorem oh(aI:List (κ × V))(k:κ)(v:V):(putK aI k v).length<=aI.length+1:=by
 unfold putK;split
 .rw [List.length_map];omega
 .rw [List.length_append,List.length_cons,List.length_nil];omega
theorem rY.getD{o:Option V}{u:Option Value}{d:V}{d':Value}(r:rY o u)(rd:RelV d d'):RelV (o.getD d) (u.getD d'):=by
 cases o with
 | none=>cases u with
   | none=>exact rd
   | some _=>exact(show False from r).elim
 | some _=>cases u with
   | none=>exact(show False from r).elim
   | some _=>exact r
theorem KV.val{aI:List (κ × V)}{vs:List (κ × Value)}(r:KV aI vs)(k:κ):rY (gJ aI k) (valueAt vs k):=by
 unfold KV at r
 induction r with
 | nil=>exact True.intro
 | @cons p q ps qs h t ih=>
   obtain⟨h1,h2⟩:=h;by_cases e:p.1=k
   .have e':q.1=k:=h1.symm.trans e;have b:valueAt (q ::qs) k=some q.2:=by simp [valueAt,List.find?_cons,e']
    rw[oy e,b];exact h2
   .have e':¬q.1=k:=fun z=>e (h1.trans z)
    have b:valueAt (q ::qs) k=valueAt qs k:=by simp [valueAt,List.find?_cons,e']
    rw[oK e,b];exact ih
theorem KV.any{aI:List (κ × V)}{vs:List (κ × Value)}(r:KV aI vs)(k:κ):(aI.any fun kv=>decide (kv.1=k))=vs.any fun kv=>decide (kv.1=k):=by
 unfold KV at r
 induction r with
 | nil=>rfl
 | cons h t ih=>rw [List.any_cons,List.any_cons,ih,h.1]
theorem KV.DY{aI:List (κ × V)}{vs:List (κ × Value)}(r:KV aI vs)(k:κ){y:V}{u:Value}(ry:RelV y u) :
 KV (aI.map fun kv=>if kv.1=k then(kv.1,y) else kv) (vs.map fun kv=>if kv.1=k then(kv.1,u) else kv):=by
 unfold KV at r ⊢
 induction r with
 | nil=>exact .nil
 | @cons p q ps qs h t ih=>
   rw[List.map_cons,List.map_cons];refine .cons ?_ ih;obtain⟨h1,h2⟩:=h;by_cases e:p.1=k
   .rw [if_pos e,if_pos (h1.symm.trans e)];exact⟨h1,ry⟩
   .rw [if_neg e,if_neg (fun z=>e (h1.trans z))];exact⟨h1,h2⟩
theorem KV.put{aI:List (κ × V)}{vs:List (κ × Value)}(r:KV aI vs)(k:κ){y:V}{u:Value}(ry:RelV y u):KV (putK aI k y) (stored vs k u):=by
 unfold putK stored;rw[r.any k];by_cases e:(vs.any fun kv=>decide (kv.1=k))=true
 .rw [if_pos e,if_pos e];exact r.DY k ry
 .rw [if_neg e,if_neg e];exact Paired.snoc r ⟨rfl,ry⟩
end
theorem t6{k:Key}{u:Value}(r:RelV (kV k) u):(cb P w).is k u=true:=by
 cases k with
 | inl i=>obtain⟨t,e⟩:=(show ∃t,u=Value.int i t from r);subst e;exact n9 P w i t
 | inr x=>obtain⟨t,e⟩:=(show ∃t,u=Value.str x t from r);subst e;exact nY P w x t
theorem l_:∀{ks:List Key} {us:List Value},Vals (ks.map kV) us->ItemsAre (cb P w) ks us
 | [],_,r=>by rw[List.map_nil] at r;cases r;exact .nil
 | k ::ks,_,r=>by
   rw[List.map_cons] at r;cases r with
   | cons h t=>exact .cons (t6 h) (l_ t)
abbrev KT(H:Hp):List (List Key × V)->List (List Key × Addr × Value)->Prop:=Paired fun p q=>p.1=q.1/\H q.2.1=some (.tup (p.1.map kV))/\RelV p.2 q.2.2
theorem KT.val{aI:List (List Key × V)}{xs:List (List Key × Addr × Value)}(r:KT H aI xs)(k:List Key):rY (gJ aI k) ((atKey xs k).map (·.2)):=by
 induction r with
 | nil=>exact True.intro
 | @cons p q ps qs h t ih=>
   obtain⟨h1,_,h2⟩:=h;by_cases e:p.1=k
   .have e':q.1=k:=h1.symm.trans e;have b:atKey (q ::qs) k=some q.2:=by simp [atKey,List.find?_cons,e']
    rw[oy e,b];exact h2
   .have e':¬q.1=k:=fun z=>e (h1.trans z)
    have b:atKey (q ::qs) k=atKey qs k:=by simp [atKey,List.find?_cons,e']
    rw[oK e,b];exact ih
section
variable {P:Program} {w:World} {H:Hp} {h:Heap} {a:Addr}
theorem yt{u:HO}(ok:ie P w H h)(e:Rd H a u):cT P w H h a u:=e.ok ok
theorem vm{aI:List (Key × V)}(ok:ie P w H h)(e:Rd H a (.dK aI)):aI.length<=sizeLine/\(a==sysModules)=false/\∃vs,KV aI vs/\h.DictOf (cb P w) a vs:=
 show cT P w H h a (.dK aI) from yt ok e
theorem Bu{aI:List (Key × V)}(ok:ie P w H h)(e:H a=some (.dK aI)):aI.length<=sizeLine/\(a==sysModules)=false/\∃vs,KV aI vs/\h.DictOf (cb P w) a vs:=vm ok (.inl e)
theorem vb{ks:List Key}(ok:ie P w H h)(e:H a=some (.tup (ks.map kV))):(tupleKind (cb P w)).is h ks a:=by
 obtain⟨_,its,r,o,h1,h2,n,h3⟩:=(show cT P w H h a (.tup (ks.map kV)) from ok a _ e)
 exact⟨o,its.toArray,n,h1,h2,h3,by simpa using l_ r⟩
theorem yI{aI:List (List Key × V)}(ok:ie P w H h)(e:Rd H a (.dT aI)):aI.length<=sizeLine/\(a==sysModules)=false/\
 ∃xs,KT H aI xs/\h.DictOfH (tupleKind (cb P w)) a xs:=by
 obtain⟨z,y,xs,r,o,es,ep,h1,h2,h3,h4,h5⟩:=(show cT P w H h a (.dT aI) from yt ok e)
 refine⟨z,y,xs,r,o,es,ep,h1,h2,h3,h4,fun x hx=>?_,h5⟩
 have all:∀{l:List (List Key × V)} {m:List (List Key × Addr × Value)},KT H l m->∀x∈m,(tupleKind (cb P w)).is h x.1 x.2.1:=by
  intro l m q
  induction q with
  | nil=>intro x hx;exact nomatch hx
  | @cons p q ps qs hq t ih=>
    intro x hx;rcases List.mem_cons.mp hx with e | hx
    .subst e;exact vb ok (by rw[<-hq.1];exact hq.2.1)
    .exact ih x hx
 exact all r x hx
end
def lC(H:Hp)(a:Addr)(y:V)(r:Option V):Prop:=
 (∃aI k,Rd H a (.dK aI)/\y=kV k/\r=gJ aI k)\/∃aI k b,Rd H a (.dT aI)/\y= .ref b/\H b=some (.tup (k.map kV))/\r=gJ aI k
def Ck(H:Hp)(a:Addr)(y v:V)(H':Hp):Prop:=
 (∃aI k,H a=some (.dK aI)/\y=kV k/\aI.length < sizeLine/\H'=upd H a (.dK (putK aI k v)))\/
 ∃aI k b,H a=some (.dT aI)/\y= .ref b/\H b=some (.tup (k.map kV))/\aI.length < sizeLine/\H'=upd H a (.dT (putK aI k v))
theorem lC.k{H:Hp}{a:Addr}{aI:List (Key × V)}{k:Key}(e:H a=some (.dK aI)):lC H a (kV k) (gJ aI k):= .inl ⟨aI,k, .inl e,rfl,rfl⟩
section
variable {X:Cx} {pins:KQ} {σ:St} {H:Hp} {s:Shared} {a:Addr} {y v:V} {u r:Value} {o:Option V} {A:Around} {E:KR}
theorem Inv.big(I:Inv X pins σ H s):sysModules < s.heap.objs.size:=by
 have h:mainGlobals < s.heap.objs.size:=(I.mod.glob.keeps I.bk).lt;exact Nat.lt_trans (by decide) h
theorem w9{h':Heap}{t':Nat}{ob:HO}(I:Inv X pins σ H s)(mu:CD (H a))(hs:Heap.SameBut a s.heap h')(he:∃q,h'.get? a=some q)(new:cT X.prog X.w (upd H a ob) h' a ob) :
 Inv X pins σ (upd H a ob) {s with heap:=h',toks:=t'}:=
 I.write (x:=a) (e:=a) mu (.inl rfl) (fun b q hb z=>(hs.2 b hb).trans z) he new
theorem zd{H':Hp}{h':Heap}{aI:List (Key × V)}{vs:List (Key × Value)}(z:aI.length<=sizeLine)(hd:(a==sysModules)=false)(rel:KV aI vs)(dd:h'.DictOf (cb P w) a vs) :
 cT P w H' h' a (.dK aI):=⟨z,hd,vs,rel,dd⟩
end
section
variable {X:Cx} {pins:KQ} {σ:St} {H:Hp} {s:Shared} {a:Addr} {aI:List (Key × V)} {k:Key} {u:Value} {A:Around} {E:KR}
end
def HU(i:Expr):Prop:=∀ov iv,subscripted i false ov iv=operate [ov,iv] (getItem ov iv)
def He(td ty:TE):TE:=fun σ H Q=>td σ H fun x H1=>ty σ H1 fun y H2=>∃a v,x= .ref a/\lC H2 a y (some v)/\Q v H2
def Ii(ty td:TE):TE:=fun σ H Q=>ty σ H fun y H1=>td σ H1 fun x H2=>∃a o,x= .ref a/\lC H2 a y o/\Q (.bl o.isSome) H2
def Dn(ty td:TE):TE:=fun σ H Q=>ty σ H fun y H1=>td σ H1 fun x H2=>∃a o,x= .ref a/\lC H2 a y o/\Q (.bl (!o.isSome)) H2
def G4(td ty tv:TE):TS:=fun D σ H=>tv σ H fun v H1=>td σ H1 fun x H2=>ty σ H2 fun y H3=>∃a H4,x= .ref a/\Ck H3 a y v H4/\D.nx σ H4
def G3(td ty tv:TE)(rd:V->V->Hp->VK->Prop):TS:=fun D σ H=>td σ H fun x H1=>ty σ H1 fun y H2=>∃a v,x= .ref a/\lC H2 a y (some v)/\
 tv σ H2 fun y2 H3=>rd v y2 H3 fun z H4=>∃H5,Ck H4 a y z H5/\D.nx σ H5
def G_(td ty:TE):TS:=fun D σ H=>td σ H fun x H1=>ty σ H1 fun y H2=>∃a aI k,x= .ref a/\H2 a=some (.dK aI)/\y=kV k/\(gJ aI k).isSome=true/\D.nx σ (upd H2 a (.dK (ug aI k)))
section
variable {X:Cx} {o i e value:Expr} {pos pos' pe:Pos} {td ty tv:TE}
end
theorem tY(h:Heap)(hb:sysModules < h.objs.size):cT P w H (h.push {cls:= .type "dict",data:= .dict #[]}) h.objs.size (.dK []):=
 ⟨Nat.zero_le _,beq_eq_false_iff_ne.mpr (Ne.symm (Nat.ne_of_lt hb)),[], .nil,Heap.DictOf.new h⟩
def Er:TE:=fun _ H Q=>∀p,H p=none->Q (.ref p) (upd H p (.dK []))
def ED:TE:=fun _ H Q=>∀p,H p=none->Q (.ref p) (upd H p (.dT []))
section
variable {X:Cx} {pos:Pos}
end
def jI:List (TE × TE)->St->Hp->(List (V × V)->Hp->Prop)->Prop
 | [],_,H,Q=>Q [] H
 | (tk,tv) ::r,σ,H,Q=>tk σ H fun x H1=>tv σ H1 fun y H2=>jI r σ H2 fun ps H3=>Q ((x,y) ::ps) H3
abbrev VV:List (V × V)->List (Value × Value)->Prop:=Paired fun p q=>RelV p.1 q.1/\RelV p.2 q.2
def zV(X:Cx)(pos:Pos)(keys:List (Option Expr))(values:List Expr)(mv:List (TE × TE)):Prop:=
 ∀(pins:KQ) (s:Shared) (σ:St) (H:Hp) (Q:List (V × V)->Hp->Prop),Inv X pins σ H s->jI mv σ H Q->
  wpAny (model X.prog X.w) X.A (evalPairs (pairTrees keys values X.env pos)) (fun vs s'=>∃ps H',Inv X pins σ H' s'/\VV ps vs/\Q ps H') X.xe s
theorem qG{X:Cx}:zV X pos [] [] []:=fun pins s σ H Q I h=>pairTrees_nil_walk ⟨[],H,I, .nil,h⟩
theorem jt{X:Cx}{ks:List (Option Expr)}{tk tv:TE}{mv:List (TE × TE)}(hk:PE X k tk)(hv:PE X v tv)(hr:zV X pos ks vs mv) :
 zV X pos (some k ::ks) (v ::vs) ((tk,tv) ::mv):=fun pins s σ H Q I h=>
 pairTrees_cons_walk (cN (hk pins s σ H _ I h) fun u s1 ⟨x,H1,I1,rx,q1⟩=>cN (hv pins s1 σ H1 _ I1 q1) fun w2 s2 ⟨y,H2,I2,ry,q2⟩=>
  cN (hr pins s2 σ H2 _ I2 q2) fun ws s3 ⟨ps,H3,I3,rel,q3⟩=>⟨(x,y) ::ps,H3,I3, .cons ⟨rx,ry⟩ rel,q3⟩)
def fB(aI more:List (Key × V)):List (Key × V):=more.foldl (fun acc kv=>putK acc kv.1 kv.2) aI
theorem KV.merge:∀{more:List (Key × V)} {rs:List (Key × Value)} {aI:List (Key × V)} {vs:List (Key × Value)},KV more rs->KV aI vs->KV (fB aI more) (merged vs rs):=by
 intro more rs aI vs r;unfold KV at r
 induction r generalizing aI vs with
 | nil=>intro q;exact q
 | @cons p q ps qs h t ih=>
   intro r0;have e:KV (putK aI p.1 p.2) (stored vs q.1 q.2):=by
    have:=r0.put p.1 h.2;rw[<-h.1];exact this
   exact ih e
theorem il:∀(more aI:List (Key × V)),(fB aI more).length<=aI.length+more.length
 | [],aI=>by show aI.length<=aI.length+0;omega
 | p ::r,aI=>by
   have h1:=il r (putK aI p.1 p.2);have h2:=oh aI p.1 p.2;show(fB (putK aI p.1 p.2) r).length<=_;rw[List.length_cons];omega
theorem kK:∀{aI:List (Key × V)} {ws:List (Value × Value)},VV (aI.map fun kv=>(kV kv.1,kv.2)) ws->∃rs,Carries (cb P w) ws rs/\KV aI rs
 | [],_,r=>by rw[List.map_nil] at r;cases r;exact⟨[],True.intro, .nil⟩
 | p ::aI,_,r=>by
   rw[List.map_cons] at r;cases r with
   | @cons a b as bs h t=>
     obtain⟨rs,c,q⟩:=kK (P:=P) (w:=w) t;obtain⟨b1,b2⟩:=b;exact⟨(p.1,b2) ::rs,⟨t6 h.1,rfl,c⟩, .cons ⟨rfl,h.2⟩ q⟩
def uO(mv:List (TE × TE)):TE:=fun σ H Q=>∀p,H p=none->jI mv σ (upd H p (.dK [])) fun ps H2=>H2 p=some (.dK [])/\∃aI:List (Key × V),ps=aI.map (fun kv=>(kV kv.1,kv.2))/\aI.length<=15/\Q (.ref p) (upd H2 p (.dK (fB [] aI)))
theorem xy{X:Cx}{pos:Pos}{keys:List (Option Expr)}{values:List Expr}{mv:List (TE × TE)}(h:zV X pos keys values mv)(sO:keys.all (·.isSome)=true)(hl:keys.length=values.length)(h0:keys≠[])
 (JH:keys.length<=15):PE X (.Dict keys values pos) (uO mv):=by
 intro pins s σ H Q I q;have hn:=I.hok.fresh (Nat.le_refl s.heap.objs.size);have I1:=I.laid (a:=s.heap.objs.size) (o:= .dK []) (h':=s.heap.push {cls:= .type "dict",data:= .dict #[]}) (t':=s.toks) (fun _ _ q=>Heap.get?_push_of_some _ q) (Nat.le_refl _) (tY s.heap I.big)
 refine wpAny_Dict_walk (knd:=cb X.prog X.w) sO hl h0 JH (cN (h pins _ σ _ _ I1 (q _ hn)) fun ws s2 ⟨ps,H2,I2,rel,e,aI,ep,lk,q2⟩=>?_)
 subst ep;obtain⟨rs,c,rk⟩:=kK (P:=X.prog) (w:=X.w) rel;obtain⟨z,hd,Kz,r0,dd⟩:=Bu I2.hok e;cases r0;refine⟨rs,c,dd,fun h' Ho hs=>⟨.ref s.heap.objs.size,_,?_,rfl,q2⟩⟩
 have hz:(fB [] aI).length<=sizeLine:=by
  have h1:=il aI [];rw[List.length_nil] at h1;rw[sizeLine_eq];omega
 have he:∃q,h'.get? s.heap.objs.size=some q:=let⟨q,_,_,hq,_⟩:=Ho;⟨q,hq⟩
 exact w9 I2 (by rw[e];exact True.intro) hs he (zd hz hd (rk.merge .nil) Ho)
structure M1 (X:Cx) (o:Expr) (m:Str) (apos:Pos) (e:Expr) (bW:Pos):Prop where
 base:attributeBase o m X.env (eval o X.env)=eval o X.env
 few:((backTo bW (starEach [e] X.env)).all (fun x=>!x.1) && (backToKw bW (keywordEach [] X.env)).all (fun x=>x.1.isSome)
  && decide (([e]:List Expr).length+([]:List Keyword).length+(if([]:List Keyword).isEmpty then 0 else 1) < 30))=true
 line:(apos.endLine==bW.line)=true
 trees:backTo bW (starEach [e] X.env)=[(false,eval e X.env)]
structure M2 (X:Cx) (o:Expr) (m:Str) (apos:Pos) (e f:Expr) (bW:Pos):Prop where
 base:attributeBase o m X.env (eval o X.env)=eval o X.env
 few:((backTo bW (starEach [e,f] X.env)).all (fun x=>!x.1) && (backToKw bW (keywordEach [] X.env)).all (fun x=>x.1.isSome)
  && decide (([e,f]:List Expr).length+([]:List Keyword).length+(if([]:List Keyword).isEmpty then 0 else 1) < 30))=true
 line:(apos.endLine==bW.line)=true
 trees:backTo bW (starEach [e,f] X.env)=[(false,eval e X.env),(false,eval f X.env)]
def B5(H:Hp)(a:Addr):Prop:=(∃aI,Rd H a (.dK aI))\/∃aI,Rd H a (.dT aI)
theorem yX{X:Cx}{pins:KQ}{s:Shared}{a:Addr}(I:Inv X pins σ H s)(d:B5 H a) :
 s.TypeIs (.ref a) "dict"/\(∀b,Value.ref a= .ref b->∃ob,s.heap.get? b=some ob/\ob.dict=none)/\(a==sysModules)=false:=by
 rcases d with⟨aI,e⟩ | ⟨aI,e⟩
 .obtain⟨_,hd,vs,_,dd⟩:=vm I.hok e;refine⟨dd.typeIs,fun b q=>?_,hd⟩
  cases q;obtain⟨ob,_,_,h1,h2,_⟩:=dd;exact⟨ob,h1,h2.2.1⟩
 .obtain⟨_,hd,xs,_,dd⟩:=yI I.hok e;refine⟨dd.typeIs,fun b q=>?_,hd⟩
  cases q;obtain⟨ob,_,_,h1,h2,_⟩:=dd;exact⟨ob,h1,h2.2.1⟩
section
variable {X:Cx} {pins:KQ} {σ:St} {H:Hp} {s:Shared} {a:Addr} {y d:V} {u r:Value} {o:Option V} {A:Around} {E:KR}
theorem z8{Q:KR}(hu:A.units+1 < cLine)(I:Inv X pins σ H s)(g:lC H a y o)(ry:RelV y u)(rd:RelV d r)(h:∀w' s',Inv X pins σ H s'->RelV (o.getD d) w'->Q w' s') :
 wpAny (model X.prog X.w) A (call (.builtin "dict.get") [.ref a,u,r]) Q E s:=by
 rcases g with⟨aI,k,e,ey,l⟩ | ⟨aI,k,b,e,ey,eb,l⟩
 .subst ey;obtain⟨z,hd,vs,rel,dd⟩:=vm I.hok e;refine call_meetsIn PySem.F.slot_dict_get dd.typeIs PySem.F.entry_dict_get (PySem.F.args_dict_get_3 _ _ _) (meets_dict_get_default (cb X.prog X.w) a (t6 ry) hd r) ⟨_,dd.mapOf,h _ _ (I.tok _) ?_⟩;rw[l];exact(rel.val k).getD rd
 .subst ey;cases(show u=Value.ref b from ry)
  obtain⟨z,hd,xs,rel,dd⟩:=yI I.hok e;refine call_meetsIn PySem.F.slot_dict_get dd.typeIs PySem.F.entry_dict_get (PySem.F.args_dict_get_3 _ _ _) (meetsH_dict_get_default (tupleKind (cb X.prog X.w)) a b hd r) ⟨tupleKind_room_in1 hu,k,xs,vb I.hok eb,dd,h _ _ (I.tok _) ?_⟩;rw[l];exact(rel.val k).getD rd
end
def E_(td ty:TE):TE:=fun σ H Q=>td σ H fun x H1=>∃a,x= .ref a/\B5 H1 a/\ty σ H1 fun y H2=>∃o,lC H2 a y o/\Q (o.getD .cy) H2
def zR(td ty tx:TE):TE:=fun σ H Q=>td σ H fun x H1=>∃a,x= .ref a/\B5 H1 a/\ty σ H1 fun y H2=>tx σ H2 fun z H3=>∃o,lC H3 a y o/\Q (o.getD z) H3
def EY(td ty:TE):TE:=fun σ H Q=>td σ H fun x H1=>∃a,x= .ref a/\B5 H1 a/\ty σ H1 fun y H2=>∃aI k v,H2 a=some (.dK aI)/\y=kV k/\gJ aI k=some v/\Q v (upd H2 a (.dK (ug aI k)))
def D4(td ty tx:TE):TE:=fun σ H Q=>td σ H fun x H1=>∃a,x= .ref a/\B5 H1 a/\ty σ H1 fun y H2=>tx σ H2 fun z H3=>∃aI k,H3 a=some (.dK aI)/\y=kV k/\
 (∀v,gJ aI k=some v->Q v (upd H3 a (.dK (ug aI k))))/\(gJ aI k=none->Q z H3)
section
variable {X:Cx} {o e f:Expr} {apos bW:Pos} {td ty tx:TE}
theorem uI(hu:X.A.units+1 < cLine)(ho:PE X o td)(he:PE X e ty)(hf:PE X f tx)(m:M2 X o "get" apos e f bW):PE X (.Call (.Attribute o "get" apos) [e,f] [] bW) (zR td ty tx):=by
 intro pins s σ H Q I h;refine wpAny_Call_method m.base m.few m.line PySem.F.plainAttrs_dict PySem.F.slot_dict_get PySem.F.type_dict_get (cN (ho pins s σ H _ I h) fun u s1 ⟨x,H1,I1,rx,a,ex,d,q1⟩=>?_)
 subst ex;obtain rfl:u=Value.ref a:=rx;obtain⟨t1,t2,_⟩:=yX I1 d;refine⟨t1,t2,?_⟩;rw[m.trees];refine Calls.callWith_builtin rfl (Calls.evalArgs_plain (Calls.spliced_cons (cN (he pins s1 σ H1 _ I1 q1) fun iv s2 ⟨y,H2,I2,ry,q2⟩=>
  Calls.spliced_cons (cN (hf pins s2 σ H2 _ I2 q2) fun fv s3 ⟨z,H3,I3,rz,ov,g,q3⟩=>Calls.spliced_nil ?_))))
 exact z8 hu I3 g ry rz fun w' s4 I4 vQ=>⟨_,H3,I4,vQ,q3⟩
end
section
variable {X:Cx} {pins:KQ} {σ:St} {H:Hp} {s:Shared} {a:Addr} {aI:List (Key × V)} {A:Around} {E:KR}
end
section
variable {X:Cx} {pins:KQ} {σ:St} {H:Hp} {s:Shared} {a:Addr} {y:V} {u:Value} {A:Around} {E:KR}
end
end L2
namespace HT
open PySem PyProof.Rows
def lexLt:List Int->List Int->Bool
 | [],[]=>false
 | [],_ ::_=>true
 | _ ::_,[]=>false
 | x ::xs,y ::ys=>if x=y then lexLt xs ys else decide (x < y)
section
open PySem.SeqAt
open PySem.AutoSeq1 (wpAny_loadPart')
open PySem.MeetsSeq PySem.MeetsSeq2 PySem.MeetsSeq3
end
section
variable {prog:Program} {w:World} {A:Around} {E:KR} {s:Shared}
def kg(n d:Nat):Option Int->Nat
 | none=>d
 | some v=>if v < 0 then(v+(n:Int)).toNat else min v.toNat n
theorem vA(n d:Nat):kg n d none=d:=rfl
theorem wH(n d k:Nat):kg n d (some (k:Int))=min k n:=by
 show(if(k:Int) < 0 then((k:Int)+(n:Int)).toNat else min (k:Int).toNat n)=min k n
 rw[if_neg (by omega),Int.toNat_natCast]
end
end HT
namespace L2
open PySem PySem.Spec PyProof.Rows
abbrev TO:=St->Hp->(Option Int->Hp->Prop)->Prop
def PO(X:Cx)(e:Option Expr)(t:TO):Prop:=
 ∀(pins:KQ) (s:Shared) (σ:St) (H:Hp) (Q:Option Int->Hp->Prop),Inv X pins σ H s->t σ H Q->
  wpAny (model X.prog X.w) X.A (evalPart e X.env) (fun u s'=>∃o H',Inv X pins σ H' s'/\IsPart u o/\Q o H') X.xe s
def wU:TO:=fun _ H Q=>Q none H
def Ce(t:TE):TO:=fun σ H Q=>t σ H fun x H1=>∃i,x= .int i/\Q (some i) H1
section
variable {X:Cx} {e:Expr} {te:TE} {lo hi:Option Expr} {tl th:TO} {pos p2:Pos}
theorem xX:PO X none wU:=by
 intro pins s σ H Q I h;rw[evalPart_none];exact wpAny_pure ⟨none,H,I, .none,h⟩
theorem wI(h:PE X e te):PO X (some e) (Ce te):=by
 intro pins s σ H Q I hw;rw[evalPart_some];refine cN (h pins s σ H _ I hw) fun u s1 ⟨x,H1,I1,r1,q1⟩=>?_
 obtain⟨i,rfl,q⟩:=q1;obtain⟨t,rfl⟩:=r1;exact⟨some i,H1,I1, .int i t,q⟩
def AL(X:Cx)(r:V->Option Int->Option Int->Hp->VK->Prop):Prop:=
 ∀(pins:KQ) (s:Shared) (σ:St) (H:Hp) (x:V) (v vl vu:Value) (lo hi:Option Int) (sl:Addr) (Q:VK),Inv X pins σ H s->RelV x v->s.heap.IsSliceOf sl vl vu .none->IsPart vl lo->IsPart vu hi->r x lo hi H Q->
  ∃T id,typeLookup (.type T) "__getitem__"=pure (some (.builtin id))/\s.TypeIs v T/\wpAny (model X.prog X.w) X.A (getItem v (.ref sl)) (EP X pins σ Q) X.xe s
theorem AL.or{r r':V->Option Int->Option Int->Hp->VK->Prop}(h:AL X r)(h':AL X r'):AL X (fun x lo hi H Q=>r x lo hi H Q\/r' x lo hi H Q):=by
 intro pins s σ H x v vl vu lo hi sl Q I rx hs pl pu q;rcases q with q | q
 .exact h pins s σ H x v vl vu lo hi sl Q I rx hs pl pu q
 .exact h' pins s σ H x v vl vu lo hi sl Q I rx hs pl pu q
def Ih(r:V->Option Int->Option Int->Hp->VK->Prop)(te:TE)(tl th:TO):TE:=fun σ H Q=>te σ H fun x H1=>tl σ H1 fun l H2=>th σ H2 fun u H3=>r x l u H3 Q
theorem tj{r:V->Option Int->Option Int->Hp->VK->Prop}(hr:AL X r)(he:PE X e te)(hl:PO X lo tl)(hu:PO X hi th):PE X (.Subscript e (.Slice lo hi none p2) pos) (Ih r te tl th):=by
 intro pins s σ H Q I h;refine Subscript_ (cN (he pins s σ H _ I h) fun v s1 ⟨x,H1,I1,r1,q1⟩=>?_)
 refine wpAny_Slice (cN (hl pins s1 σ H1 _ I1 q1) fun vl s2 ⟨l,H2,I2,pl,q2⟩=>cN (hu pins s2 σ H2 _ I2 q2) fun vu s3 ⟨u,H3,I3,pu,q3⟩=>?_)
 rw[evalPart_none];refine wpAny_pure ?_;have I4:Inv X pins σ H3 {s3 with heap:=s3.heap.push {cls:= .type "slice",data:= .fields #[vl,vu, .none]}}:=I3.kept (t':=s3.toks) fun b ob q=>Heap.get?_push_of_some _ q
 obtain⟨T,id,hT,ht,hg⟩:=hr pins {s3 with heap:=s3.heap.push {cls:= .type "slice",data:= .fields #[vl,vu, .none]}} σ H3 x v vl vu l u s3.heap.objs.size Q I4 r1 (Heap.IsSliceOf.new ..) pl pu q3
 show wpAny (model X.prog X.w) X.A (subscriptTail e (.Slice lo hi none p2) v (.ref s3.heap.objs.size)) (EP X pins σ Q) X.xe {s3 with heap:=s3.heap.push {cls:= .type "slice",data:= .fields #[vl,vu, .none]}}
 exact tail_any (ops:=[.ref s3.heap.objs.size,v]) ht hT hg (by with_unfolding_all rfl)
def qd(xs:List V)(lo hi:Option Int):List V:=(xs.drop (HT.kg xs.length 0 lo)).take (HT.kg xs.length xs.length hi - HT.kg xs.length 0 lo)
theorem n4(xs:List V)(lo hi:Option Int):(qd xs lo hi).length<=xs.length:=by
 unfold qd;rw[List.length_take,List.length_drop];omega
def HA(K:W.Frag):V->Option Int->Option Int->Hp->VK->Prop:=fun x lo hi H Q=>∃a xs,x= .ref a/\jU K H a xs/\
 ¬(HT.kg xs.length 0 lo=0/\HT.kg xs.length xs.length hi=xs.length)/\∀p,H p=none->Q (.ref p) (upd H p (.tup (qd xs lo hi)))
def HL(K:W.Frag):R2:=fun x y H Q=>∃a b ns ms,x= .ref a/\y= .ref b/\jU K H a (ns.map V.int)/\jU K H b (ms.map V.int)/\Q (.bl (HT.lexLt ns ms)) H
def G0(K:W.Frag):R2:=fun x y H Q=>∃a b xs ys,x= .ref a/\y= .ref b/\jU K H a xs/\jU K H b ys/\xs≠[]/\xs.length+ys.length<=sizeLine/\
 (ys=[]->Q (.ref a) H)/\(ys≠[]->∀p,H p=none->Q (.ref p) (upd H p (.tup (xs++ys))))
end
def r_(n:Nat)(i:Int):Option Nat:=if 0<=i then(if i < n then some i.toNat else none) else if -(n:Int)<=i then some (i+n).toNat else none
def lj{α:Type}(xs:List α)(i:Int):Option α:=(r_ xs.length i).bind fun j=>xs[j]?
theorem qK{n:Nat}{i:Int}{j:Nat}(h:r_ n i=some j):seqIndex? i n=some j/\j < n/\ -(n:Int)<=i/\i < n:=by
 unfold r_ at h;by_cases h0:0<=i
 .rw [if_pos h0] at h;by_cases h1:i < n
  .rw [if_pos h1] at h;have e:i.toNat=j:=Option.some.inj h;exact⟨by rw[seqIndex_of h0 h1,e],by omega,by omega,h1⟩
  .rw [if_neg h1] at h;cases h
 .rw [if_neg h0] at h;by_cases h1: -(n:Int)<=i
  .rw [if_pos h1] at h;have e:(i+n).toNat=j:=Option.some.inj h;exact⟨by rw[seqIndex_neg (by omega) h1,e],by omega,h1,by omega⟩
  .rw [if_neg h1] at h;cases h
theorem nA{α:Type}{xs:List α}{i:Int}{v:α}(h:lj xs i=some v):∃j,seqIndex? i xs.length=some j/\xs[j]? =some v/\j < xs.length/\ -(xs.length:Int)<=i/\i < xs.length:=by
 unfold lj at h;cases e:r_ xs.length i with
 | none=>rw [e] at h;cases h
 | some j=>
   rw[e] at h;obtain⟨h1,h2,h3,h4⟩:=qK e;exact⟨j,h1,h,h2,h3,h4⟩
def ja(b:Expr):Prop:=∀o i,subscripted b false o i=operate [o,i] (getItem o i)
def wQ(X:Cx)(r:R2):Prop:=
 ∀(value slice:Expr) (pins:KQ) (s:Shared) (σ:St) (H:Hp) (x y:V) (v u:Value) (Q:VK),Inv X pins σ H s->RelV x v->RelV y u->r x y H Q->
  subscripted slice false v u=operate [v,u] (getItem v u)->wpAny (model X.prog X.w) X.A (subscriptTail value slice v u) (EP X pins σ Q) X.xe s
def IV(X:Cx)(id:String)(r:V->List V->Hp->VK->Prop):Prop:=
 ∀(pins:KQ) (s:Shared) (σ:St) (H:Hp) (x:V) (xs:List V) (v:Value) (us:List Value) (Q:VK),Inv X pins σ H s->RelV x v->Vals xs us->r x xs H Q->
  wpAny (model X.prog X.w) X.A (call (.builtin id) (v ::us)) (EP X pins σ Q) X.xe s
section
variable {X:Cx} {a b:Expr} {ta tb:TE} {pos:Pos}
theorem wQ.or{r r':R2}(h:wQ X r)(h':wQ X r'):wQ X (fun x y H Q=>r x y H Q\/r' x y H Q):=by
 intro value slice pins s σ H x y v u Q I rx ry q hs;rcases q with q | q
 .exact h value slice pins s σ H x y v u Q I rx ry q hs
 .exact h' value slice pins s σ H x y v u Q I rx ry q hs
theorem vM{r:R2}(hr:wQ X r)(ha:PE X a ta)(hb:PE X b tb)(hs:ja b):PE X (.Subscript a b pos) (Bf r ta tb):=by
 intro pins s σ H Q I h;exact Subscript_ (zK ha hb I h fun v u s2 x y H2 I2 rx ry q=>hr a b pins s2 σ H2 x y v u Q I2 rx ry q (hs _ _))
def CJ(K:W.Frag):R2:=fun x y H Q=>∃p xs i v,x= .ref p/\y= .int i/\iX K H p xs/\lj xs i=some v/\Q v H
def Bp(K:W.Frag):R2:=fun x y H Q=>∃p xs i v,x= .ref p/\y= .int i/\jU K H p xs/\lj xs i=some v/\Q v H
def BP:R2:=fun x y H Q=>∃z i c,x= .str z/\y= .int i/\z.length<=sizeLine/\lj z.cps.toList i=some c/\Q (.str ⟨#[c]⟩) H
theorem xw:wQ X (CJ X.K):=by
 intro value slice pins s σ H x y v u Q I rx ry h hs;obtain⟨p,xs,i,z,rfl,rfl,hq,he,q⟩:=h;cases rx;obtain⟨t,rfl⟩:=ry;obtain⟨its,r,pl,hz⟩:=I.list hq;obtain⟨j,h1,h2,h3,h4,h5⟩:=nA he;obtain⟨w,ew,vQ⟩:=r.get h2;have hl:=r.length;have hn:=jS;have fin:EP X pins σ Q w s:=⟨z,H,I,vQ,q⟩;by_cases h0:0<=i
 .have hj:i.toNat=j:=by
   rw[seqIndex_of h0 h5] at h1;exact Option.some.inj h1
  exact item_listR pl.isList h0 (by omega) (by rw[hj];simpa using ew) fin hs
 .have hj:(i+(its.toArray.size:Int)).toNat=j:=by
   rw[seqIndex_neg (by omega) h4] at h1
   rw[List.size_toArray,<-hl];exact Option.some.inj h1
  exact subscriptTail_builtinR (x:=w) pl.isList.typeIs slot_list_getitem.lookup
   (wpAny_getItem_list_neg (Q:=fun r s'=>r=w/\EP X pins σ Q r s') pl.isList (by omega) (by rw[List.size_toArray] <;> omega) (by omega) (by rw[hj];simpa using ew) ⟨rfl,fin⟩) hs
theorem zX:wQ X (Bp X.K):=by
 intro value slice pins s σ H x y v u Q I rx ry h hs;obtain⟨p,xs,i,z,rfl,rfl,hq,he,q⟩:=h;cases rx;obtain⟨t,rfl⟩:=ry;obtain⟨its,r,pl,hz⟩:=I.tuple hq;obtain⟨j,h1,h2,h3,h4,h5⟩:=nA he;obtain⟨w,ew,vQ⟩:=r.get h2;have hl:=r.length;have hn:=jS;have fin:EP X pins σ Q w s:=⟨z,H,I,vQ,q⟩;exact subscriptTail_builtinR (x:=w) pl.typeIs slot_tuple_getitem.lookup
  (getItem_tuple (j:=j) (Q:=fun r s'=>r=w/\EP X pins σ Q r s') pl (by omega) (by omega) (by rw[List.size_toArray,<-hl];exact h1) (by simpa using ew) ⟨rfl,fin⟩) hs
theorem AA:wQ X BP:=by
 intro value slice pins s σ H x y v u Q I rx ry h hs;obtain⟨z,i,c,rfl,rfl,hz,he,q⟩:=h;obtain⟨t,rfl⟩:=rx;obtain⟨t',rfl⟩:=ry;obtain⟨j,h1,h2,h3,h4,h5⟩:=nA he;have hl:z.cps.toList.length=z.length:=by simp [Str.length]
 rw[hl] at h1 h4 h5;have hn:=jS;exact tail_any (typeIs_str s z t) slot_str_getitem.lookup (getItem_str (c:=c) (by
  have e1:decide (i < -(2 ^ 63:Int))=false:=decide_eq_false (by omega)
  have e2:decide (i>=2 ^ 63)=false:=decide_eq_false (by omega)
  rw[e1,e2,Bool.or_false]) (by rw[h1];simpa using h2) ⟨.str ⟨#[c]⟩,H,I.tok _,⟨_,rfl⟩,q⟩) hs
def Dr(K:W.Frag):R2:=fun x y H Q=>CJ K x y H Q\/Bp K x y H Q\/BP x y H Q
theorem qi:wQ X (Dr X.K):=xw.or (zX.or AA)
theorem pU(its:List Value)(n j:Nat)(u:Value):Obj.mapSeq (·.setIfInBounds j u) {cls:= .type "list",data:= .seq its.toArray n}={cls:= .type "list",data:= .seq (its.set j u).toArray n}:=by
 simp [Obj.mapSeq]
theorem Inv.lst{pins:KQ}{H:Hp}{s:Shared}{p:Addr}{xs:List V}(I:Inv X pins σ H s)(h:H p=some (.lst xs)) :
 ∃(its:List Value) (n:Nat),Vals xs its/\s.heap.get? p=some {cls:= .type "list",data:= .seq its.toArray n}/\xs.length<=sizeLine:=by
 obtain⟨z,its,n,r,e⟩:=I.hok p _ h;exact⟨its,n,r,e,z⟩
theorem Inv.ze{pins:KQ}{σ:St}{H:Hp}{s:Shared}{p:Addr}{xs ys:List V}{its its':List Value}{n n':Nat}{f:Obj->Obj}(I:Inv X pins σ H s)(h:H p=some (.lst xs))
 (ho:s.heap.get? p=some {cls:= .type "list",data:= .seq its.toArray n}) (hf:f {cls:= .type "list",data:= .seq its.toArray n}={cls:= .type "list",data:= .seq its'.toArray n'}) (r:Vals ys its') (hz:ys.length<=sizeLine) (t:Nat) :
 Inv X pins σ (upd H p (.lst ys)) {s with heap:=s.heap.update p f,toks:=t}:=by
 have e:(s.heap.update p f).get? p=some {cls:= .type "list",data:= .seq its'.toArray n'}:=by
  rw[Heap.get?_update_self f ho (by rw[hf] <;> rfl),hf]
 refine I.write (x:=p) (e:=p) (by rw[h];trivial) (.inl rfl) (fun b u hb q=>(Heap.get?_update_other _ _ (Ne.symm hb)).trans q) ⟨_,e⟩ ?_
 exact⟨hz,its',n',r,e⟩
def yP:V->V->V->Hp->(Hp->Prop)->Prop:=fun o i v H Q=>∃p xs k j,o= .ref p/\i= .int k/\H p=some (.lst xs)/\r_ xs.length k=some j/\Q (upd H p (.lst (xs.set j v)))
theorem set_list:Cr X yP:=by
 intro pins s σ H o i v ov iv u Q I ro ri rv h;obtain⟨p,xs,k,j,rfl,rfl,hp,hj,q⟩:=h;cases ro;obtain⟨t,rfl⟩:=ri;obtain⟨its,n,r,ho,hz⟩:=I.lst hp;obtain⟨h1,h2,h3,h4⟩:=qK hj;have hl:=r.length;have hn:=jS;have I':Inv X pins σ (upd H p (.lst (xs.set j v))) {s with heap:=s.heap.update p (Obj.mapSeq (·.setIfInBounds j u))}:=
  I.ze hp ho (pU its n j u) (r.set rv j) (by rw[List.length_set];exact hz) s.toks
 by_cases h0:0<=k
 .have hk:k.toNat=j:=by
   rw[seqIndex_of h0 h4] at h1;exact Option.some.inj h1
  exact PySem.W.ki_setAt ho h0 (by omega) (by rw[List.size_toArray,<-hl];exact h4) (by rw[hk];exact⟨_,I',q⟩)
 .have hk:(k+(its.toArray.size:Int)).toNat=j:=by
   rw[seqIndex_neg (by omega) h3] at h1
   rw[List.size_toArray,<-hl];exact Option.some.inj h1
  exact PySem.W.ki_setBack ho (by omega) (by rw[List.size_toArray,<-hl];exact h3) (by omega) (by rw[hk];exact⟨_,I',q⟩)
theorem nM(lo hi:Option Int)(n:Nat):(sliceBounds lo hi none n).1=((HT.kg n 0 lo:Nat):Int)/\(sliceBounds lo hi none n).2.1=((HT.kg n n hi:Nat):Int)/\(sliceBounds lo hi none n).2.2=1:=by
 refine⟨?_,?_,rfl⟩
 .cases lo with
  | none=>simp [sliceBounds,HT.kg]
  | some i=>
    simp only[sliceBounds,HT.kg,Option.getD_none,show(1:Int) > 0 by decide,if_true]
    by_cases h:i < 0
    .simp only[h,if_true] <;> omega
    .simp only[h,if_false] <;> omega
 .cases hi with
  | none=>simp [sliceBounds,HT.kg]
  | some i=>
    simp only[sliceBounds,HT.kg,Option.getD_none,show(1:Int) > 0 by decide,if_true]
    by_cases h:i < 0
    .simp only[h,if_true] <;> omega
    .simp only[h,if_false] <;> omega
theorem lH(its:List Value)(lo hi:Option Int):slicePick its.toArray lo hi none=((its.drop (HT.kg its.length 0 lo)).take (HT.kg its.length its.length hi - HT.kg its.length 0 lo)).toArray:=by
 obtain⟨h1,h2,h3⟩:=nM lo hi its.toArray.size;unfold slicePick;rw[h1,h2,h3];simp only[sliceRange_one,pick_run,List.size_toArray] <;> rfl
def El(K:W.Frag):V->Option Int->Option Int->Hp->VK->Prop:=fun x lo hi H Q=>∃a xs,x= .ref a/\iX K H a xs/\∀p,H p=none->Q (.ref p) (upd H p (.lst (qd xs lo hi)))
theorem wM:AL X (El X.K):=by
 intro pins s σ H x v vl vu lo hi sl Q I rx hs pl pu h;obtain⟨a,xs,rfl,hx,q⟩:=h;cases rx;obtain⟨its,r,ht,hz⟩:=I.list hx;have hlen:=r.length;refine⟨"list",_,slot_list_getitem.lookup,ht.isList.typeIs,?_⟩;refine wpAny_getItem_list_slice ht.isList hs pl pu .none (by simp) ?_ (by rw[List.size_toArray] <;> omega)
 rw[lH,<-hlen];refine⟨.ref s.heap.objs.size,_,I.laid (t':=s.toks) (o:= .lst (qd xs lo hi)) (fun b ob q=>Heap.get?_push_of_some _ q) (Nat.le_refl _) ?_,rfl,q _ (I.hok.fresh (Nat.le_refl _))⟩
 exact⟨Nat.le_trans (n4 xs lo hi) hz,_,0,(r.drop (HT.kg xs.length 0 lo)).take (HT.kg xs.length xs.length hi - HT.kg xs.length 0 lo),Heap.get?_push_size _ rfl⟩
def yJ:V->Bool
 | .cy=>true
 | .bl _=>true
 | .int _=>true
 | .str _=>true
 | _=>false
def Bw:V->V->Bool
 | .cy, .cy=>true
 | .bl a, .bl b=>a==b
 | .bl a, .int b=>(if a then 1 else 0)==b
 | .int a, .bl b=>a==(if b then 1 else 0)
 | .int a, .int b=>a==b
 | .str a, .str b=>a==b
 | _,_=>false
def Kt(x:V)(u:Value):Bool:=match u with
 | .none=>Bw .cy x
 | .bool b=>Bw (.bl b) x
 | .int i _=>Bw (.int i) x
 | .str z _=>Bw (.str z) x
 | _=>false
def GH(x:V)(xs:List V):Bool:=xs.any fun y=>Bw y x
def Kk(K:W.Frag)(neg:Bool):R2:=fun x y H Q=>∃p xs,y= .ref p/\(iX K H p xs\/jU K H p xs)/\yJ x=true/\xs.all yJ=true/\Q (.bl (if neg then !GH x xs else GH x xs)) H
theorem mw:eX X (.type "list") (fun xs H Q=>∃p ys,xs=[.ref p]/\(iX X.K H p ys\/jU X.K H p ys)/\∀l,H l=none->Q (.ref l) (upd H l (.lst ys))):=by
 intro pins s σ H xs us Q I r h;obtain⟨p,ys,rfl,hq,q⟩:=h;obtain⟨u,rfl,rx⟩:=vals1 r;cases rx;have fin:∀(its:List Value),Vals ys its->ys.length<=sizeLine->∀(h':Heap) (c':Nat),(∀b o',s.heap.get? b=some o'->h'.get? b=some o')->
  h'.get? s.heap.objs.size=some {cls:= .type "list",dict:=none,data:= .seq its.toArray c',slots:=#[]}->EP X pins σ Q (.ref s.heap.objs.size) {s with heap:=h'}:=fun its r' hz h' c' kp e=>
  ⟨.ref s.heap.objs.size,_,I.laid (t':=s.toks) kp (Nat.le_refl _) (show cT X.prog X.w _ h' _ (.lst ys) from⟨hz,its,c',r',e⟩),rfl,q _ (I.hok.fresh (Nat.le_refl _))⟩
 rcases hq with hq | hq
 .obtain⟨its,r',pl,hz⟩:=I.list hq;have hlen:=r'.length;obtain⟨o,ho,hc,n,hd⟩:=pl.isList;exact call_list_seq p (.inl rfl) ho hc hd (fun h' c' kp e=>fin its r' hz h' c' kp e) (by simp only[List.size_toArray] <;> omega)
 .obtain⟨its,r',pl,hz⟩:=I.tuple hq;have hlen:=r'.length;obtain⟨o,ho,hc,n,hd⟩:=pl;exact call_list_seq p (.inr rfl) ho hc hd (fun h' c' kp e=>fin its r' hz h' c' kp e) (by simp only[List.size_toArray] <;> omega)
theorem lq:eX X (.type "tuple") (fun xs H Q=>∃p ys,xs=[.ref p]/\((iX X.K H p ys/\∀l,H l=none->Q (.ref l) (upd H l (.tup ys)))\/(jU X.K H p ys/\Q (.ref p) H))):=by
 intro pins s σ H xs us Q I r h;obtain⟨p,ys,rfl,h⟩:=h;obtain⟨u,rfl,rx⟩:=vals1 r;cases rx;rcases h with⟨hq,q⟩ | ⟨hq,q⟩
 .obtain⟨its,r',pl,hz⟩:=I.list hq;have hlen:=r'.length;refine call_tuple_list pl.isList (fun h' kp=>?_) (by simp only[List.size_toArray] <;> omega)
  have I1:Inv X pins σ H {s with heap:=h'}:=I.kept (t':=s.toks) kp
  have I2:Inv X pins σ (upd H h'.objs.size (.tup ys)) {s with heap:=h'.push {cls:= .type "tuple",data:= .seq its.toArray}}:=
   I1.laid (t':=s.toks) (fun b o e=>Heap.get?_push_of_some _ e) (Nat.le_refl _) (show cT X.prog X.w _ _ _ (.tup ys) from⟨hz,its,r',IsTup.new _ _⟩)
  exact⟨.ref h'.objs.size,_,I2,rfl,q _ (I1.hok.fresh (Nat.le_refl _))⟩
 .obtain⟨its,r',pl,hz⟩:=I.tuple hq;exact call_tuple_same pl ⟨.ref p,H,I,rfl,q⟩
def D2(K:W.Frag)(T:String)(x:V)(H:Hp):Prop:=match x with
 | .str _=>T="str"
 | .int _=>T="int"
 | .ref p=>(T="list"/\∃xs,iX K H p xs)\/(T="tuple"/\∃o,K.lookup p=some o/\o.cls= .type "tuple"/\o.dict=none)\/
    (T="dict"/\((∃aI,H p=some (.dK aI))\/∃aI,H p=some (.dT aI)))\/(T="set"/\∃S n,H p=some (.set S n))
 | _=>False
theorem AG{pins:KQ}{s:Shared}{T:String}{x:V}{v:Value}(I:Inv X pins σ H s)(r:RelV x v)(ty:D2 X.K T x H) :
 s.TypeIs v T/\∀a,v= .ref a->∃ob,s.heap.get? a=some ob/\ob.dict=none:=by
 cases x with
 | str z=>
   obtain⟨t,rfl⟩:=r;cases(show T="str" from ty)
   exact⟨typeIs_str s z t,fun _ e=>nomatch e⟩
 | int i=>
   obtain⟨t,rfl⟩:=r;cases(show T="int" from ty)
   exact⟨typeIs_int s i t,fun _ e=>nomatch e⟩
 | ref p=>
   cases r;rcases ty with⟨rfl,xs,hq⟩ | ⟨rfl,o,hk,hc,hd⟩ | ⟨rfl,hk⟩ | ⟨rfl,S,n,hk⟩
   .obtain⟨its,_,pl,_⟩:=I.list hq;refine⟨pl.isList.typeIs,fun a e=>?_⟩
    cases e;obtain⟨o,n,e,c,hd,_⟩:=pl;exact⟨o,e,hd⟩
   .refine⟨⟨o,I.ve p o hk,hc⟩,fun a e=>?_⟩
    cases e;exact⟨o,I.ve _ o hk,hd⟩
   .have z:∃o,s.heap.get? p=some o/\o.ExactDict:=by
     rcases hk with⟨aI,hk⟩ | ⟨aI,hk⟩
     .obtain⟨_,_,_,_,o,_,_,e,ex,_⟩:=I.hok p _ hk;exact⟨o,e,ex⟩
     .obtain⟨_,_,_,_,o,_,_,e,ex,_⟩:=I.hok p _ hk;exact⟨o,e,ex⟩
    obtain⟨o,e,ex⟩:=z;refine⟨⟨o,e,ex.1⟩,fun a e2=>?_⟩
    cases e2;exact⟨o,e,ex.2.1⟩
   .obtain⟨o,_,_,_,e,ex,_⟩:=I.hok p _ hk;refine⟨⟨o,e,ex.1⟩,fun a e2=>?_⟩
    cases e2;exact⟨o,e,ex.2.1⟩
 | _=>exact False.elim ty
def IM(K:W.Frag)(T:String)(r:V->List V->Hp->VK->Prop)(to:TE):TE:=fun σ H Q=>to σ H fun x H1=>D2 K T x H1/\r x [] H1 Q
def Je(K:W.Frag)(T:String)(r:V->List V->Hp->VK->Prop)(to:TE)(t:TA):TE:=fun σ H Q=>to σ H fun x H1=>D2 K T x H1/\t σ H1 fun xs H2=>r x xs H2 Q
variable {o e:Expr} {es:List Expr} {to:TE} {t:TA} {name:Str} {apos bW:Pos} {T id:String} {r:V->List V->Hp->VK->Prop}
theorem yF(pa:PlainAttrs T)(slot:Slot T name id)(JE:typeOf (.builtin id)=pure (.type "method_descriptor"))(hm:IV X id r)(ho:PE X o to)(ha:PA X (e ::es) t)
 (ph:attributeBase o name X.env (eval o X.env)=eval o X.env:=by rfl)
 (vV:((backTo bW (starEach (e ::es) X.env)).all (fun x=>!x.1) && (backToKw bW (keywordEach [] X.env)).all (fun x=>x.1.isSome)
   && decide ((e ::es).length+([]:List Keyword).length+(if([]:List Keyword).isEmpty then 0 else 1) < 30))=true:=by rfl)
 (pk:(apos.endLine==bW.line)=true:=by rfl) (hs:starEach (e ::es) X.env=(false,eval e X.env) ::starEach es X.env:=by rfl) (AS:(backTo bW (starEach es X.env)).any (·.1)=false:=by rfl) :
 PE X (.Call (.Attribute o name apos) (e ::es) [] bW) (Je X.K T r to t):=by
 intro pins s σ H Q I h;refine wpAny_Call_method_late ph vV pk rfl (cN (ho pins s σ H _ I h) fun v s1 ⟨x,H1,I1,r1,ty,q1⟩=>?_)
 obtain⟨h1,h2⟩:=AG I1 r1 ty;refine⟨T,id,pa,slot,JE,h1,h2,?_⟩;have hA:=ha bW pins s1 σ H1 _ I1 q1;rw[hs] at hA ⊢;refine Calls.callWith_builtin (by show(false || (backTo bW (starEach es X.env)).any (·.1))=false;rw [AS] <;> rfl) (Calls.evalArgs_plain ?_)
 exact cN hA fun us s2 ⟨vs,H2,I2,r2,q2⟩=>hm pins s2 σ H2 x vs v us Q I2 r1 r2 q2
end
def Gy(X:Cx)(id:String)(r:V->List V->Hp->VK->Prop):Prop:=
 ∀(pins:KQ) (s:Shared) (σ:St) (H:Hp) (x:V) (xs:List V) (v:Value) (us:List Value) (Q:VK),Inv X pins σ H s->RelV x v->Vals xs us->r x xs H Q->
  wpAny (model X.prog X.w) X.A (call (.builtin id) (v ::us)) (EP X pins σ Q) X.xe s
theorem Vals.one:∀{x:V} {us:List Value},Vals [x] us->∃u,us=[u]/\RelV x u
 | _,_, .cons r .nil=>⟨_,rfl,r⟩
theorem Vals.rep{xs:List V}{us:List Value}(h:Vals xs us):∀k:Nat,Vals (List.replicate k xs).flatten (List.replicate k us).flatten
 | 0=> .nil
 | k+1=>by
   rw[List.replicate_succ,List.replicate_succ,List.flatten_cons,List.flatten_cons];exact Vals.append h (Vals.rep h k)
section
variable {X:Cx} {pins:KQ} {σ:St} {H:Hp} {s:Shared} {l b:Addr} {xs ys zs:List V}
theorem Inv.BN{its its':List Value}{n:Nat}{f:Array Value->Array Value}{t':Nat}(I:Inv X pins σ H s)(hH:H l=some (.lst xs))
 (e:s.heap.get? l=some {cls:= .type "list",data:= .seq its.toArray n}) (hf:f its.toArray=its'.toArray) (hv:Vals ys its') (hz:ys.length<=sizeLine) :
 Inv X pins σ (upd H l (.lst ys)) {s with heap:=s.heap.update l (Obj.mapSeq f),toks:=t'}:=by
 have q:=PySem.IsL.update e f;rw[hf] at q;refine I.write (x:=l) (e:=l) (by rw[hH];exact trivial) (.inl rfl) (fun b' u hb hu=>(Heap.get?_update_other s.heap (Obj.mapSeq f) (Ne.symm hb)).trans hu) ⟨_,q⟩ ?_
 exact⟨hz,its',_,hv,q⟩
theorem Inv.Av{its:List Value}{t':Nat}(I:Inv X pins σ H s)(hv:Vals ys its)(hz:ys.length<=sizeLine) :
 Inv X pins σ (upd H s.heap.objs.size (.lst ys)) {s with heap:=s.heap.push {cls:= .type "list",data:= .seq its.toArray},toks:=t'}:=
 I.laid (fun _ _ q=>Heap.get?_push_of_some _ q) (Nat.le_refl _) ⟨hz,its,0,hv,Heap.get?_push_size _ rfl⟩
theorem Inv.fresh(I:Inv X pins σ H s):H s.heap.objs.size=none:=I.hok.fresh (Nat.le_refl _)
theorem Inv.BY(I:Inv X pins σ H s)(hH:H l=some (.lst xs)):xs.length<=sizeLine/\∃(its:List Value) (n:Nat),Vals xs its/\xs.length=its.length/\s.heap.get? l=some {cls:= .type "list",data:= .seq its.toArray n}:=by
 obtain⟨z,its,n,r,e⟩:=I.hok l _ hH;exact⟨z,its,n,r,r.length,e⟩
theorem uq{n:Nat}(h:n<=sizeLine):Builtin.List.listTooLong n=false:=by
 unfold Builtin.List.listTooLong;exact decide_eq_false (by omega)
end
section
variable {X:Cx}
def ye:V->List V->Hp->VK->Prop:=fun x vs H Q=>∃l xs y,x= .ref l/\vs=[y]/\H l=some (.lst xs)/\xs.length < sizeLine/\Q .cy (upd H l (.lst (xs++[y])))
theorem lN:Gy X "list.append" ye:=by
 intro pins s σ H x vs v us Q I rx rv h;obtain⟨l,xs,y,rfl,rfl,hH,hz,q⟩:=h;cases rx;obtain⟨u,rfl,ru⟩:=rv.one;obtain⟨z,its,n,r,hl,e⟩:=I.BY hH;refine call_meets F.slot_list_append ⟨_,e,rfl⟩ F.entry_list_append (F.args_list_append_2 _ _) (PySem.list_append l its.toArray n u (by rw[List.size_toArray];omega)) ⟨e,?_⟩
 refine⟨.cy,_,I.BN (its':=its++[u]) hH e (by simp) (r.append (.cons ru .nil)) ?_,rfl,q⟩
 rw[List.length_append,List.length_singleton];omega
def Dj:V->List V->Hp->VK->Prop:=fun x vs H Q=>∃l b xs zs,x= .ref l/\vs=[.ref b]/\H l=some (.lst xs)/\H b=some (.lst zs)/\xs.length+zs.length<=sizeLine/\Q .cy (upd H l (.lst (xs++zs)))
def Iw:V->List V->Hp->VK->Prop:=fun x vs H Q=>∃l xs y,x= .ref l/\vs=[]/\H l=some (.lst xs)/\xs[xs.length - 1]? =some y/\Q y (upd H l (.lst xs.dropLast))
def ET:V->List V->Hp->VK->Prop:=fun x vs H Q=>∃l xs i k y,x= .ref l/\vs=[.int i]/\H l=some (.lst xs)/\ -(2 ^ 63)<=i/\i < 2 ^ 63/\seqIndex? i xs.length=some k/\xs[k]? =some y/\Q y (upd H l (.lst (xs.eraseIdx k)))
def BH:V->List V->Hp->VK->Prop:=fun x vs H Q=>∃l xs,x= .ref l/\vs=[]/\H l=some (.lst xs)/\Q .cy (upd H l (.lst xs.reverse))
def Ee:V->List V->Hp->VK->Prop:=fun x vs H Q=>∃l xs,x= .ref l/\vs=[]/\H l=some (.lst xs)/\Q .cy (upd H l (.lst []))
def Ic:R2:=fun x y H Q=>∃l b xs zs,x= .ref l/\y= .ref b/\H l=some (.lst xs)/\H b=some (.lst zs)/\xs.length+zs.length<=sizeLine/\∀p,H p=none->Q (.ref p) (upd H p (.lst (xs++zs)))
def Ir:R2:=fun x y H Q=>∃l k xs,x= .ref l/\y= .int k/\H l=some (.lst xs)/\ -(2 ^ 63)<=k/\k < 2 ^ 63/\xs.length*k.toNat<=sizeLine/\
 ∀p,H p=none->Q (.ref p) (upd H p (.lst (List.replicate k.toNat xs).flatten))
theorem len_rep{α:Type}(xs:List α)(k:Nat):(List.replicate k xs).flatten.length=k*xs.length:=by
 induction k with
 | zero=>simp
 | succ k ih=>rw [List.replicate_succ,List.flatten_cons,List.length_append,ih,Nat.succ_mul,Nat.add_comm]
end
section
variable {prog:Program} {w:World} {A:Around} {E:KR} {s:Shared}
set_option maxRecDepth 100000 in
end
section
variable {X:Cx}
end
end L2
namespace Att
open PySem PySem.W PySem.Calls PyProof.Rows
theorem j8{P:Params}:∀(ns:List Int) (vs:List Value),WellAll P h vs (ns.map WData.int)->IntsAre vs ns:=by
 intro ns
 induction ns with
 | nil=>
   intro vs w;rw[List.map_nil] at w;cases w;exact .nil
 | cons n ns ih=>
   intro vs w;rw[List.map_cons] at w;cases w with
   | cons a b=>
     cases a;exact .cons _ _ (ih _ b)
theorem rW{l:OpenLaw}{n:Nat}(hn:l.most=some n){P:Params}{h:Heap}{args:List WData}{vals:List Value}
 (yi:l.row.toRowW.claim.pre args=true) (DK:WellAll P h vals args) :
 ∃a vs ns,vals=[Value.ref a]/\args=[WData.list (ns.map WData.int)]/\h.get? a=some {cls:= .type "list",data:= .seq vs.toArray}/\IntsAre vs ns/\ns.length<=n:=by
 have hsh:WShape.hasAll [] args [.list .int]=true:=(pre_splitW yi).1;have hc:l.pre.holds [] {args:=args}=true:=(pre_splitW yi).2;obtain⟨d,r,rfl,h1,h2⟩:=hasAllW_cons hsh;obtain rfl:=hasAllW_nil h2;obtain⟨xs,rfl,h3⟩:=hasW_list h1;obtain⟨ns,rfl⟩:=items_int h3;have hlen:ns.length<=n:=by
  unfold OpenLaw.pre at hc;have h4:(WTm.not (.lt (.lit (.int (n:Int))) (.len (.arg 0)))).holds [] {args:=[.list (ns.map .int)]}=true:=by
   have h4:=(holds_andW hc).1;rw[hn] at h4;exact h4
  have h5:=condW_of h4 (w_not (w_lt w_lit (w_len_list (w_arg rfl))));rw[List.length_map] at h5;refine Nat.le_of_not_lt fun q=>?_
  have q':(n:Int) < ((ns.length:Nat):Int):=by omega
  first
   | (rw [decide_eq_true q'] at h5;exact absurd h5 (by decide))
   | (simp at h5;omega)
 cases DK with
 | cons w1 w2=>
   cases w2;cases w1 with
   | list ho sO=>exact⟨_,_,ns,rfl,rfl,ho,j8 ns _ sO,hlen⟩
theorem sx(l:OpenLaw)(args:List WData):l.row.toRowW.claim.post args (.bool true) args=true:=
 postW_of (r:=l.row.toRowW) (X:=(true==true))
  (show WShape.has [] (.bool true) .bool=true by first | rfl | decide | simp [WShape.has,WShape.arms,WShape.armsAll])
  (show(WTm.eq .res (.lit (.bool true))).value [] {args:=args,res:=some (.bool true),after:=args}=some (.bool (true==true)) from w_eq_bool (w_res rfl) w_lit) rfl
theorem ox{l:OpenLaw}{n:Nat}{q:Program}{loose:List Str}{XP:(Str->Option Value)->Heap->Prop}{YP:World->Heap->Prop}{d:DefRec}
 (hn:l.most=some n) (Ge:d.params.defaults=[])
 (call:∀(w:World) (s₀ s₁:Shared) (mg mb:KY) (fa:Addr) (o:Obj) (pm cd doc:Value) (a:Addr) (vs:List Value) (ns:List Int),
   Ground q loose [] XP w s₀ mg mb s₁.heap->YP w s₁.heap->
   s₁.heap.get? fa=some o->o.data= .func (docDef d.name d.params d.body d.scope pm cd doc)->s₁.heap.CodeRec cd d.name->mg d.name=some (.ref fa)->
   s₁.heap.get? a=some {cls:= .type "list",data:= .seq vs.toArray}->IntsAre vs ns->ns.length<=n->s₁.gens=#[]->
   codeAny (model l.prog w) callerA (.call (.ref fa) ⟨[.ref a],[]⟩) (fun r s'=>r= .ok (.ret (.bool true))/\OldK s₁.heap s'.heap/\s'.os=s₁.os/\AllBare s'.gens) s₁) :
 WalkO q loose XP YP l.row.toRowW d [] (fun f vs=>PySem.call f vs):=by
 intro w s₀ s₁ mg mb G Y fa o pm cd doc dV kV ho hd lK hD De hg args vals as yi hlay hrd DK hlo;obtain rfl:dV= .none:=Dflts.none hD Ge;obtain rfl:kV= .none:=Dflts.noKw hD;obtain⟨a,vs,ns,rfl,rfl,A7,hints,hlen⟩:=rW hn yi DK;refine enter_call (codeAny_mono (call w s₀ s₁ mg mb fa o pm cd doc a vs ns G Y ho (fd_plain hd) lK De A7 hints hlen hg) fun r s' hq=>?_)
 obtain⟨rfl,h2,h3,h4⟩:=hq;exact⟨.inl ⟨.bool true, .bool true,[],rfl,fun _=>rfl, .bool true,sx l _,fun _=>⟨List.Pairwise.nil,fun _ hm=>(nomatch hm)⟩⟩,h2,h3,h4⟩
section
variable {prog:Program} {w:World} {A:Around} {E:KR} {s:Shared} {K:Frag}
def D9(h:Heap):Heap:={h with objs:=#[]}
def ledger(h:Heap)(L d:Addr):KQ:=(List.range h.objs.size).filterMap fun a=>if a=L\/a=d then none else(h.get? a).map fun o=>(a,o)
end
end Att
namespace L2
open PySem PySem.Spec PyProof.Rows
theorem ma:∀{vs:List Value} {ns:List Int},IntsAre vs ns->Vals (ns.map V.int) vs
 | _,_, .nil=> .nil
 | _,_, .cons n t h=> .cons ⟨t,rfl⟩ (ma h)
def B_(H:Hp):Prop:=∀b,H b=none\/∃o xs,H b=some (.jB o (.lst xs))
abbrev ia{K:W.Frag}{h:Heap}(_:K.In h):W.Frag:=K
def inClass(s:Stmt)(j:Nat):Stmt:=match s with
 | .ClassDef _ _ _ body _ _ _ _ _ _ _=>body.getD j (.Pass ⟨0,0,0,0⟩)
 | _=> .Pass ⟨0,0,0,0⟩
def jj(s:Stmt):Arguments:=match s with
 | .FunctionDef _ a _ _ _ _ _ _ _ _=>a
 | _=>{posonlyargs:=[],args:=[],vararg:=none,kwonlyargs:=[],kw_defaults:=[],kwarg:=none,defaults:=[]}
def bw(s:Stmt):List Stmt:=match s with
 | .FunctionDef _ _ b _ _ _ _ _ _ _=>b
 | _=>[]
def aL(s:Stmt):Scope:=match s with
 | .FunctionDef _ _ _ _ _ _ sc _ _ _=>sc
 | _=>{kind:= .function,names:=[],isGenerator:=false,isCoroutine:=false}
abbrev mn:sT:=fun _ _ _ _ _ _=>False
abbrev E0:XK:=fun _ _ _=>False
theorem yK{X:Cx}:Passes mn X E0:=fun _ _ _ _ _ _ _ h=>h.elim
structure pF (K:W.Frag) (x qual:Str) (st:Stmt) (f:Addr) (fd:FuncData):Prop where
 ex:∃(oc:Value) (od:Option Addr) (kV doc pm:Value) (an:Option Addr) (df ct:Value) (sY:Array (Option Value)),
  fd=PySem.W.fnOf x qual (jj st) (bw st) (aL st) .none kV doc pm an df ct/\K.lookup f=some ⟨oc,od, .func fd,sY⟩/\PySem.W.codeIn K df qual=true
 kp:PySem.W.keepIn K (.ref f)=true
section
variable {P:Program} {w:World} {K:W.Frag} {mg:KY} {base:Heap}
theorem pF.ok{x qual:Str}{st:Stmt}{f:Addr}{fd:FuncData}{N ps:List Str}{k:Nat}{sp:Sp}(F:pF K x qual st f fd)(S:bH N ps (aL st))(len:∀vs H Q E,sp vs H Q E->vs.length=ps.length)
 (dZ:∀(df:Value) (A:Around) (outer:List Env) (s:Shared) (H:Hp) (vs:List V) (Q:VK) (E:XK),dH k (A.deeper (envOfC qual (aL st) s.heap.objs.size f df))->sp vs H Q E->
   ∃t,mD (gU mn P w K mg base N qual (aL st) f df A outer s H E).xl (bw st) t/\t {nx:=fun _ H'=>Q .cy H',rt:=Q} (start N vs) H):eU P w K mg base mn (k+1) f fd ps sp:=by
 obtain⟨oc,od,kV,doc,pm,an,df,ct,sY,rfl,lk,lK⟩:=F.ex;refine yo lk lK S len fun A outer s H vs Q E hr wj=>?_
 obtain⟨t,h,q⟩:=dZ df A outer s H vs Q E hr wj;exact⟨t,h.xl,q⟩
theorem pF.binds{x qual:Str}{st:Stmt}{f:Addr}{fd:FuncData}{ps:List Str}(F:pF K x qual st f fd)
 (h:∀(kV doc pm:Value) (an:Option Addr) (df ct:Value) (us:List Value),us.length=ps.length->bindArgs (PySem.W.fnOf x qual (jj st) (bw st) (aL st) .none kV doc pm an df ct) ⟨us,[]⟩=pure (ps.zip us)):Binds K fd ps []:=by
 obtain⟨oc,od,kV,doc,pm,an,df,ct,sY,rfl,lk,lK⟩:=F.ex;exact .all (h kV doc pm an df ct)
theorem zJ{x qual:Str}{st:Stmt}{f:Addr}{oc:Value}{od an:Option Addr}{sY:Array (Option Value)}{kV doc pm df ct:Value}(l:K.lookup f=some ⟨oc,od, .func (PySem.W.fnOf x qual (jj st) (bw st) (aL st) .none kV doc pm an df ct),sY⟩)
 (c:PySem.W.codeIn K df qual=true) (k:PySem.W.keepIn K (.ref f)=true):pF K x qual st f (PySem.W.fnOf x qual (jj st) (bw st) (aL st) .none kV doc pm an df ct):=⟨⟨oc,od,kV,doc,pm,an,df,ct,sY,rfl,l,c⟩,k⟩
end
theorem BF{A:Around}{k:Nat}(hr:dH k A):A.units+1 < cLine:=Nat.lt_of_le_of_lt (Nat.add_le_add_left (by decide:1<=64) _) hr.units
section
variable {X:Cx}
end
theorem xO{A B:Prop}(h:B):if false=true then A else B:=by
 rw[if_neg Bool.false_ne_true];exact h
theorem wW{A B:Prop}(h:A):if true=true then A else B:=by
 rw[if_pos rfl];exact h
def aG(H H':Hp):Prop:=∀b o,H b=some o->H' b=some o
theorem aG.refl(H:Hp):aG H H:=fun _ _ h=>h
theorem aG.trans(a:aG H H1)(b:aG H1 H2):aG H H2:=fun c o h=>b c o (a c o h)
theorem aG.free{H H':Hp}(e:aG H H'){l:Addr}(h:H' l=Option.none):H l=Option.none:=by
 cases q:H l with
 | none=>rfl
 | some o=>
   rw[e l o q] at h;cases h
section
variable {κ:Type} [DecidableEq κ]
end
end L2
end
section
namespace L2
open PySem PySem.Spec PyProof.Rows
def ig(cells:List (Str × Addr)):List (Str × NameKind)->List (Str × Addr)->List (Str × Addr)
 | [],acc=>acc
 | (n,k) ::r,acc=>ig cells r (if k==NameKind.free then(n,(cells.lookup n).getD 0) ::acc else acc)
theorem fQ{env:Env}:∀(names:List (Str × NameKind)) (acc:List (Str × Addr)),(∀y∈names,y.2= .free->∃c,env.cells.lookup y.1=some c)->
 (forIn names acc fun(x:Str × NameKind) (cs:List (Str × Addr))=>(match x with
   | (name,kind)=>if kind== .free then do let a <-cellOf env name;pure (ForInStep.yield ((name,a) ::cs)) else pure (ForInStep.yield cs):Sem (ForInStep (List (Str × Addr)))))=pure (ig env.cells names acc)
 | [],acc,_=>by simp [ig]
 | (n,k) ::r,acc,h=>by
   rw[List.forIn_cons];by_cases hk:k=NameKind.free
   .subst hk;obtain⟨c,hc⟩:=h (n, .free) List.mem_cons_self rfl;have e:cellOf env n=pure c:=by unfold cellOf;rw [hc]
    simp only[beq_self_eq_true,if_true,e,pure_bind,ig,hc,Option.getD_some];exact fQ r _ fun y hy=>h y (List.mem_cons_of_mem _ hy)
   .have hb:(k==NameKind.free)=false:=by simpa using hk
    simp only[hb,Bool.false_eq_true,if_false,pure_bind,ig];exact fQ r _ fun y hy=>h y (List.mem_cons_of_mem _ hy)
theorem gu{env:Env}{scope:Scope}(h:∀y∈scope.names,y.2= .free->∃c,env.cells.lookup y.1=some c):closureFor scope env=pure (ig env.cells scope.names []):=by
 unfold closureFor;have:=fQ (env:=env) scope.names [] h;simp only[bind_pure];exact this
theorem fg{cells:List (Str × Addr)}:∀(names:List (Str × NameKind)) (acc:List (Str × Addr)) {x:Str} {c:Addr},(ig cells names acc).lookup x=some c->
 acc.lookup x=some c\/((x,NameKind.free)∈names/\c=(cells.lookup x).getD 0)
 | [],acc,x,c,h=> .inl h
 | (n,k) ::r,acc,x,c,h=>by
   rcases fg r _ h with q | ⟨q1,q2⟩
   .by_cases hk:k=NameKind.free
    .subst hk;simp only[beq_self_eq_true,if_true] at q;cases hx:x==n with
     | true=>
       have e:x=n:=by simpa using hx
       subst e;rw[List.lookup_cons,hx] at q;exact .inr ⟨List.mem_cons_self,(Option.some.inj q).symm⟩
     | false=>
       rw[List.lookup_cons,hx] at q;exact .inl q
    .have hb:(k==NameKind.free)=false:=by simpa using hk
     simp only[hb,Bool.false_eq_true,if_false] at q;exact .inl q
   .exact .inr ⟨List.mem_cons_of_mem _ q1,q2⟩
theorem oC{cells:List (Str × Addr)}:∀(names:List (Str × NameKind)) (acc:List (Str × Addr)) {x:Str},((x,NameKind.free)∈names\/∃c,acc.lookup x=some c)->∃c,(ig cells names acc).lookup x=some c
 | [],acc,x,h=>by
   rcases h with h | h
   .simp at h
   .exact h
 | (n,k) ::r,acc,x,h=>by
   refine oC r _ ?_;rcases h with h | ⟨c,h⟩
   .rcases List.mem_cons.mp h with e | e
    .cases e;exact .inr ⟨(cells.lookup n).getD 0,by simp [List.lookup_cons]⟩
    .exact .inl e
   .by_cases hk:k=NameKind.free
    .subst hk;simp only[beq_self_eq_true,if_true];cases hx:x==n with
     | true=>exact .inr ⟨(cells.lookup n).getD 0,by rw[List.lookup_cons,hx]⟩
     | false=>exact .inr ⟨c,by rw[List.lookup_cons,hx];exact h⟩
    .have hb:(k==NameKind.free)=false:=by simpa using hk
     simp only[hb,Bool.false_eq_true,if_false];exact .inr ⟨c,h⟩
theorem mG:∀(names:List (Str × NameKind)) (n:Nat) (acc:List (Str × Addr)) {x:Str},(x,NameKind.cell) ∉ names->(cellsFrom n names acc).lookup x=acc.lookup x
 | [],_,_,_,_=>rfl
 | (y,k) ::r,n,acc,x,h=>by
   unfold cellsFrom;split
   .rename_i hk;have hk:k= .cell:=by simpa using hk
    subst hk;rw[mG r _ _ fun z=>h (List.mem_cons_of_mem _ z),List.lookup_cons]
    cases hx:x==y with
    | true=>
      have e:x=y:=by simpa using hx
      subst e;exact absurd List.mem_cons_self h
    | false=>rfl
   .exact mG r _ _ fun z=>h (List.mem_cons_of_mem _ z)
theorem iO:∀(names:List (Str × NameKind)) (n:Nat) (acc:List (Str × Addr)),cellsFrom n names acc=cellsFrom n names []++acc
 | [],_,_=>rfl
 | (y,k) ::r,n,acc=>by
   unfold cellsFrom;split
   .rw [iO r (n+1) ((y,n) ::acc),iO r (n+1) [(y,n)],List.append_assoc];rfl
   .exact iO r n acc
theorem qb{a b:List (Str × Addr)}{c:Addr}(h:(a++b).lookup x=some c):(x,c)∈a\/b.lookup x=some c:=by
 induction a with
 | nil=>exact .inr h
 | cons y r ih=>
   obtain⟨n,v⟩:=y;rw[List.cons_append,List.lookup_cons] at h;cases hx:x==n with
   | true=>
     rw[hx] at h;have e:x=n:=by simpa using hx
     subst e;cases h;exact .inl List.mem_cons_self
   | false=>
     rw[hx] at h;exact(ih h).imp (List.mem_cons_of_mem _) id
theorem gI{a b:List (Str × Addr)}(h:∃c,b.lookup x=some c):∃c,(a++b).lookup x=some c:=by
 induction a with
 | nil=>exact h
 | cons y r ih=>
   rw[List.cons_append,List.lookup_cons];cases x==y.1 with
   | true=>exact⟨_,rfl⟩
   | false=>exact ih
theorem mC{a b:List (Str × Addr)}{c:Addr}(h:a.lookup x=some c):∃c,(a++b).lookup x=some c:=by
 induction a with
 | nil=>cases h
 | cons y r ih=>
   rw[List.cons_append,List.lookup_cons];rw[List.lookup_cons] at h;cases hx:x==y.1 with
   | true=>exact⟨_,rfl⟩
   | false=>rw [hx] at h;exact ih h
theorem mh{M:Model}{A:Around}{E:KR}{s:Shared}{scope:Scope}{cl:List (Str × Addr)}{qual:Str}{env:Env}{Q:Env->Shared->Prop}(hQ:∀h',h'.Ns s.heap.objs.size (fun _=>none)->(∀b o,s.heap.get? b=some o->h'.get? b=some o)->CellsOk h' (s.heap.objs.size+1) (cellsFrom (s.heap.objs.size+1) scope.names [])->
 Q (newEnv scope s.heap.objs.size env.globals (cellsFrom (s.heap.objs.size+1) scope.names cl) qual none .none (some env) builtinsNs) {s with heap:=h'}) :
 wpAny M A (newFunctionEnv scope env.globals cl [] qual none .none (some env)) Q E s:=by
 simp only[newFunctionEnv,Option.isSome_some,if_true];refine wpAny_bind (wpAny_alloc ?_);refine wpAny_bind (wpAny_layCells _ (fun name kind cells=>by cases hkc:kind==NameKind.cell <;> simp [hkc]) _ _ _ _ ?_)
 have ok:=cellsFrom_ok scope.names (s.heap.push {cls:= .type "dict",data:= .dict #[]}) (s.heap.objs.size+1) [] ⟨fun _ _ hm=>(nomatch hm),List.Pairwise.nil⟩ (by rw[Heap.size_push];exact Nat.le_refl _)
 rw[Heap.size_push] at ok;rw[show({s with heap:=s.heap.push {cls:= .type "dict",data:= .dict #[]}}:Shared).heap.objs.size=s.heap.objs.size+1 from Heap.size_push ..]
 rw[List.forIn_nil];refine wpAny_bind (wpAny_pure (wpAny_pure ?_));exact hQ _ ((Heap.Ns.new s.heap (.type "dict")).keeps (pushCells_keeps _ _)) (fun b o e=>pushCells_keeps _ _ b o (Heap.get?_push_of_some _ e)) ok
def aP(X:Cx)(scope:Scope)(N':List Str)(fp:List Addr)(s:Shared)(H:Hp):Cx where
 prog:=X.prog
 w:=X.w
 K:=X.K
 mg:=X.mg
 base:=X.base
 A:=X.A
 N:=N'
 s₀:=s
 H₀:=H
 env:=compEnvC scope (cellsFrom (s.heap.objs.size+1) scope.names (ig X.env.cells scope.names [])) s.heap.objs.size X.env
 outer:=X.stack
 stack:=X.stack
 ex:=fp
 fn:=fun x=>scope.names.lookup x==some .cell
 calm:=X.calm
 pn:=[]
 xe:=fun _ _=>False
structure bN (X:Cx) (scope:Scope) (own:List Str) (kp:List Nat) (kn:List Str):Prop where
 kind:scope.kind= .function
 cel:∀y∈scope.names,y.2= .cell->scope.names.lookup y.1=some .cell
 nd:∀y∈scope.names,y.2= .local->scope.names.lookup y.1=some .local
 free:∀y∈scope.names,y.2= .free->X.env.kindOf y.1=some .cell\/X.env.kindOf y.1=some .free
 frl:∀y∈scope.names,y.2= .free->scope.names.lookup y.1=some .free
 names:kn.length=kp.length
 at_:∀(j i:Nat) (x:Str),kp[j]? =some i->kn[j]? =some x->X.N[i]? =some x
 isfree:∀x∈kn,scope.names.lookup x=some .free
def ck(own:List Str)(kp:List Nat)(σ:St):St:=List.replicate own.length none++kp.map fun i=>(σ[i]?).getD none
section
variable {X:Cx} {scope:Scope} {own:List Str} {kp:List Nat} {kn:List Str}
theorem cU{env:Env}:∀{names:List (Str × NameKind)} {x:Str} {k:NameKind},
 (names.map fun(n,k)=>if(k==NameKind.free && env.scope.kind== .function && env.kindOf n==some .cell) then(n,NameKind.cell) else(n,k)).lookup x=some k->
 names.lookup x=some k\/(k= .cell/\names.lookup x=some .free)
 | [],_,_,h=>by simp at h
 | (n,k) ::r,x,k',h=>by
   have ih:=@cU env r x k';have h:List.lookup x ((if(k==NameKind.free && env.scope.kind== .function && env.kindOf n==some .cell)=true then(n,NameKind.cell) else(n,k)) ::_)=some k':=h
   by_cases hc:(k==NameKind.free && env.scope.kind== .function && env.kindOf n==some .cell)=true
   .rw [if_pos hc] at h;have hkf:k= .free:=by
     simp only[Bool.and_eq_true,beq_iff_eq] at hc;exact hc.1.1
    cases hx:x==n with
    | true=>
      rw[List.lookup_cons,hx] at h;cases h;exact .inr ⟨rfl,by rw[List.lookup_cons,hx,hkf]⟩
    | false=>
      rw[List.lookup_cons,hx] at h;rw[List.lookup_cons,hx];exact ih h
   .rw [if_neg hc] at h;cases hx:x==n with
    | true=>
      rw[List.lookup_cons,hx] at h;rw[List.lookup_cons,hx];exact .inl h
    | false=>
      rw[List.lookup_cons,hx] at h;rw[List.lookup_cons,hx];exact ih h
theorem iB{pins:KQ}{s:Shared}(C:bN X scope own kp kn)(I:Inv X pins σ H s):∀y∈scope.names,y.2= .free->∃c,X.env.cells.lookup y.1=some c:=fun y hy hf=>
 I.ok.has y.1 (C.free y hy hf)
theorem vd{pins:KQ}{σ:St}{H:Hp}{s:Shared}{fp:List Addr}{jA:Heap}{tk:Nat}(C:bN X scope own kp kn)(I:Inv X pins σ H s)(hf:∀b∈fp,j9 X pins H b)(hb:∀b∈fp,b < s.heap.objs.size)
 (hn:jA.Ns s.heap.objs.size (fun _=>none)) (hk:∀b o,s.heap.get? b=some o->jA.get? b=some o) (hC:CellsOk jA (s.heap.objs.size+1) (cellsFrom (s.heap.objs.size+1) scope.names [])):Inv (aP X scope (own++kn) fp s H) [] (ck own kp σ) H {s with heap:=jA,toks:=tk}:=by
 have cl:∀x c,(ig X.env.cells scope.names []).lookup x=some c->X.env.cells.lookup x=some c:=fun x c e=>by
  rcases fg scope.names [] e with q | ⟨q1,q2⟩
  .simp at q
  .obtain⟨c',sW⟩:=iB C I (x, .free) q1 rfl;have sW:X.env.cells.lookup x=some c':=sW;rw[sW] at q2;rw[sW,q2];rfl
 have clA:∀x c,(cellsFrom (s.heap.objs.size+1) scope.names (ig X.env.cells scope.names [])).lookup x=some c->(x,c)∈cellsFrom (s.heap.objs.size+1) scope.names []\/(ig X.env.cells scope.names []).lookup x=some c:=fun x c e=>by
  rw[iO] at e;exact qb e
 have old:∀x c,(ig X.env.cells scope.names []).lookup x=some c->c < s.heap.objs.size:=fun x c e=>by
  obtain⟨v,h⟩:=I.cell x c (cl x c e);exact h.lt
 have new:∀x c,(x,c)∈cellsFrom (s.heap.objs.size+1) scope.names []->s.heap.objs.size<=c:=fun x c e=>Nat.le_of_lt (hC.empty x c e).2
 have clh:∀x,scope.names.lookup x=some .free->∃c,(ig X.env.cells scope.names []).lookup x=some c:=fun x hx=>oC scope.names [] (.inl (PySem.mem_of_lookup hx))
 refine⟨⟨I.ok.mod,C.kind,I.ok.glob,I.ok.blt,Nat.le_refl _,fun x y c h1 h2=>?inj,fun x hx=>?_,fun x c hn h=>?cab,I.ok.hd,I.ok.frames, .inl rfl,fun b kj=>⟨Nat.ne_of_lt (hb b kj),fun x c e z=>?exf⟩,
  fun b o e=>I.bs b o e,Nat.le_trans I.ok.bsz I.sz,fun b o e kj=>?_,fun b kj hs=>?_,I.stack,I.hW⟩,
  rfl,I.bare,Un.kept hk,⟨_,hn,fun i x v h1 h2 h3=>?_⟩,fun x c e=>?_,I.hok.fresh (Nat.le_refl _),fun x c e=>?frc,fun p hp=>(by cases hp),I.hok.kept hk,?_⟩
 case inj=>
  rcases clA x c h1 with a | a <;> rcases clA y c h2 with b | b
  .exact name_of_addr hC.apart a b
  .exact absurd (Nat.lt_of_lt_of_le (old y c b) (new x c a)) (Nat.lt_irrefl _)
  .exact absurd (Nat.lt_of_lt_of_le (old x c a) (new y c b)) (Nat.lt_irrefl _)
  .exact I.ok.inj x y c (cl x c a) (cl y c b)
 case cab=>
  have hn:(scope.names.lookup x==some .cell)=true:=hn;rcases clA x c h with a | a
  .exact new x c a
  .rcases fg scope.names [] a with q | ⟨q1,q2⟩
   .simp at q
   .have hx:scope.names.lookup x=some .cell:=by simpa using hn
    have h7:scope.names.lookup x=some .free:=C.frl _ q1 rfl;rw[hx] at h7;cases h7
 case exf=>
  rcases clA x c e with a | a
  .subst z;exact absurd (Nat.lt_of_lt_of_le (hb _ kj) (new x _ a)) (Nat.lt_irrefl _)
  .exact(hf b kj).2.2.2.2.1 x c (cl x c a) z
 case frc=>
  rcases clA x c e with a | a
  .exact I.hok.fresh (new x c a)
  .exact I.freeC x c (cl x c a)
 .have hx:(relabel scope X.env).names.lookup x=some .cell\/(relabel scope X.env).names.lookup x=some .free:=hx;show ∃c,(cellsFrom (s.heap.objs.size+1) scope.names (ig X.env.cells scope.names [])).lookup x=some c;rcases hx with hx | hx
  .rcases cU hx with q | ⟨_,q⟩
   .rw [iO];obtain⟨c,hc⟩:=ku (n:=s.heap.objs.size+1) q;exact mC hc
   .rw [iO];exact gI (clh x q)
  .rcases cU hx with q | ⟨q,_⟩
   .rw [iO];exact gI (clh x q)
   .cases q
 .rcases(hf b kj).2.2.2.1 with z | z
  .exact I.ok.noex b o e z
  .exact absurd (Nat.lt_of_lt_of_le (Heap.lt_size (I.ok.bs b o e).1) z) (Nat.lt_irrefl _)
 .rcases List.mem_cons.mp (I.pJ b hs) with z | z
  .exact(hf b kj).2.1 z
  .exact(hf b kj).2.2.1 z
 .-- a kept name
  have h1:(own++kn)[i]? =some x:=h1;have h2:(ck own kp σ)[i]? =some (some v):=h2;unfold ck at h2;by_cases hi:i < own.length
  .rw [List.getElem?_append_left (by simpa using hi),List.getElem?_replicate] at h2
   split at h2 <;> cases h2
  .rw [List.getElem?_append_right (by simpa using hi),List.length_replicate,List.getElem?_map] at h2
   rw[List.getElem?_append_right (by simpa using hi)] at h1
   cases e:kp[i - own.length]? with
   | none=>rw [e] at h2;cases h2
   | some j=>
     rw[e] at h2;have h2:(σ[j]?).getD none=some v:=Option.some.inj h2;have hj:X.N[j]? =some x:=C.at_ _ j x e h1;have hσ:σ[j]? =some (some v):=by
      cases q:σ[j]? with
      | none=>rw [q] at h2;cases h2
      | some y=>rw [q] at h2;exact congrArg some h2
     have hfree:scope.names.lookup x=some .free:=C.isfree x (List.mem_of_getElem? h1);have hkind:=C.free (x, .free) (PySem.mem_of_lookup hfree) rfl;obtain⟨m,hm,hl⟩:=I.loc;obtain⟨u,r,l⟩:=hl j x v hj hσ (hkind.elim (fun q=>Or.inr (Or.inl q)) fun q=>Or.inr (Or.inr q))
     refine⟨u,r, .inr ⟨?_,?_⟩⟩
     .have h3:(relabel scope X.env).names.lookup x=some .local\/(relabel scope X.env).names.lookup x=some .cell\/(relabel scope X.env).names.lookup x=some .free:=h3;rcases h3 with q | q | q
      .rcases cU q with z | ⟨z,_⟩
       .rw [hfree] at z;cases z
       .cases z
      .exact .inl q
      .exact .inr q
     .rcases l with⟨k,_⟩ | ⟨_,c,hc,hcell⟩
      .rcases hkind with q | q
       .rw [show X.env.kindOf x=some .cell from q] at k;cases k
       .rw [show X.env.kindOf x=some .free from q] at k;cases k
      .obtain⟨c',sW⟩:=clh x hfree;have:=cl x c' sW;rw[hc] at this;cases this;obtain⟨o,ho,hd⟩:=hcell;exact⟨c,(mG _ _ _ fun z=>by have:=C.cel _ z rfl;rw [hfree] at this;cases this).trans sW,o,hk c o ho,hd⟩
 .rcases clA x c e with a | a
  .exact⟨_,(hC.empty x c a).1⟩
  obtain⟨v,o,ho,hd⟩:=I.cell x c (cl x c a);exact⟨v,o,hk c o ho,hd⟩
 .show(ck own kp σ).length=(own++kn).length;unfold ck;rw[List.length_append,List.length_replicate,List.length_map,List.length_append,C.names]
theorem kZ{pins:KQ}{s s':Shared}{fp:List Addr}{N':List Str}(I:Inv X pins σ H s)(hf:∀b∈fp,j9 X pins H b)(J:Inv (aP X scope N' fp s H) [] bR H' s'):Inv X pins σ H' s':=
 I.yM (ch:=fp) J.os J.base J.hok J.bare fun b hb=>⟨(hf b hb).2.2.2.1,(hf b hb).2.1,(hf b hb).2.2.2.2.1,(hf b hb).2.2.2.2.2⟩
end
def lI(X:Cx)(ifs:List Expr)(t:TT):Prop:=
 ∀(pins:KQ) (s:Shared) (σ:St) (H:Hp) (Q:Bool->Hp->Prop),Inv X pins σ H s->t σ H Q->
  wpAny (model X.prog X.w) X.A (forIn ifs true fun c r=>if r=true then do let ok <-isTrue c X.env (eval c X.env);pure (ForInStep.yield ok) else pure (ForInStep.yield r)) (TP X pins σ Q) X.xe s
def Ew:TT:=fun _ H Q=>Q true H
theorem oP{X:Cx}:lI X [] Ew:=fun _ _ _ H _ I h=>wpAny_tests_nil ⟨H,I,h⟩
def qI(wi:TI)(g:TG)(tc:TT)(te:TE)(own:List Str)(kp:List Nat):TE:=fun σ H Q=>wi σ H fun J H1=>∀D,H1 D=none->
 ∃W:Nat->Nat->List V->Hp->Prop,(∃m,W 0 m [] (upd H1 D (.lst [])))/\∀i m ys H,W i m ys H->
  (J.stop i H/\Q (.ref D) H)\/(J.go i H/\∀x H',J.yld i H x H'->g x (ck own kp σ) H' fun qw H2=>tc qw H2 fun c H3=>
    if c=true then te qw H3 fun y H4=>H4 D=some (.lst ys)/\ys.length < sizeLine/\∃m',m' < m/\W (i+1) m' (ys++[y]) (upd H4 D (.lst (ys++[y])))
    else ∃m',m' < m/\W (i+1) m' ys H3)
section
variable {X:Cx} {scope:Scope} {own:List Str} {kp:List Nat} {kn:List Str} {tg iter elt:Expr} {ifs:List Expr} {wi:TI} {g:TG} {tc:TT} {te:TE} {pos:Pos}
theorem o3{pins:KQ}{σ:St}{H:Hp}{s:Shared}{fp:List Addr}{it D:Addr}{tn:Nat->Heap->Prop}{J:It}{Q:VK}{jA:Heap}{tk:Nat}{R:Result->Shared->Prop}
 (hc:X.calm=true) (C:bN X scope own kp kn) (I:Inv X pins σ H s) (hf:∀b∈fp,j9 X pins H b) (hb:∀b∈fp,b < s.heap.objs.size) (T:Turn X.prog X.w X.K tg J fp it tn)
 (hg:PG (aP X scope (own++kn) fp s H) tg g) (hi:lI (aP X scope (own++kn) fp s H) ifs tc) (he:PE (aP X scope (own++kn) fp s H) elt te)
 (hn:jA.Ns s.heap.objs.size (fun _=>none)) (hk:∀b o,s.heap.get? b=some o->jA.get? b=some o) (hC:CellsOk jA (s.heap.objs.size+1) (cellsFrom (s.heap.objs.size+1) scope.names [])) (st:tn 0 s.heap)
 (W:Nat->Nat->List V->Hp->Prop) (w0:∃m,W 0 m [] H)
 (turn:∀i m ys H,W i m ys H->
   (J.stop i H/\Q (.ref D) H)\/(J.go i H/\∀x H',J.yld i H x H'->g x (ck own kp σ) H' fun qw H2=>tc qw H2 fun c H3=>
     if c=true then te qw H3 fun y H4=>H4 D=some (.lst ys)/\ys.length < sizeLine/\∃m',m' < m/\W (i+1) m' (ys++[y]) (upd H4 D (.lst (ys++[y])))
     else ∃m',m' < m/\W (i+1) m' ys H3))
 (hR:∀H' s' bR,Inv (aP X scope (own++kn) fp s H) [] bR H' s'->Q (.ref D) H'->R (.ok .next) s') :
 codeAny (model X.prog X.w) X.A (.compStart (.ListComp elt [⟨tg,iter,ifs,0⟩] scope pos) 0 (.ref it) (.ref D) (aP X scope (own++kn) fp s H).env) R {s with heap:=jA,toks:=tk}:=by
 have I1:Inv (aP X scope (own++kn) fp s H) [] (ck own kp σ) H {s with heap:=jA,toks:=tk}:=vd C I hf hb hn hk hC
 have Hq:tn 0 jA:=T.keep _ _ _ st fun b _ o e=>hk b o e
 have fp1:∀{H':Hp} {p:KQ},(∀b∈fp,H' b=none)->(∀b∈fp,∀q∈p,q.1≠b)->∀b∈fp,j9 (aP X scope (own++kn) fp s H) p H' b:=fun {H' p} hn hp b kj=>
  ⟨hn b kj,(I1.ok.exf b kj).1,I1.ok.exfs b kj, .inl kj,fun x c e=>(I1.ok.exf b kj).2 x c e,fun q hq=>hp b kj q hq⟩
 obtain⟨m0,w0⟩:=w0;have loop:codeAny (model X.prog X.w) X.A (.compLoop (.ListComp elt [⟨tg,iter,ifs,0⟩] scope pos) 0 (.ref it) (.ref D) (aP X scope (own++kn) fp s H).env) R {s with heap:=jA,toks:=tk}:=by
  refine codeAny_loop rfl (fun n s'=>∃i ys H',Inv (aP X scope (own++kn) fp s H) [] (ck own kp σ) H' s'/\tn i s'.heap/\(∀b∈fp,H' b=none)/\W i n ys H') (fun n s' hI=>?_) m0 ⟨0,[],H,I1,Hq,fun b kj=>(hf b kj).1,w0⟩
  obtain⟨i,ys,H3,I3,yg,CZ,w3⟩:=hI;show wpAny _ _ ((compTurn (.ListComp elt [⟨tg,iter,ifs,0⟩] scope pos) 0 (.ref it) (.ref D) (aP X scope (own++kn) fp s H).env).onRaise (fun x=>do noteFrame x (aP X scope (own++kn) fp s H).env;theTreesLotGoes x)) _ _ s'
  refine wpAny_noted (wpAny_noRaise ?_);rw[compTurn_list];refine wpAny_bind (wpAny_standAt (wpAny_bind ?_));rcases turn i n ys H3 w3 with⟨stop,q⟩ | ⟨go,step⟩
  .refine cN (T.done (aP X scope (own++kn) fp s H) rfl rfl rfl hc i [] s' _ H3 _ I3 (fp1 CZ (fun _ _ q hq=>by cases hq)) yg stop) fun r s4 ⟨hr,I4⟩=>?_
   subst hr;exact wpAny_pure (hR H3 s4 _ I4 q)
  .refine cN (T.item (aP X scope (own++kn) fp s H) rfl rfl rfl hc i [] s' _ H3 _ I3 (fp1 CZ (fun _ _ q hq=>by cases hq)) yg go) fun r s4 ⟨u,hr,h4⟩=>?_
   subst hr;refine wpAny_bind (cN h4 fun _ s5 ⟨x,H5,I5,r5,y5,A4,FR⟩=>?_)
   have I5':=I5.pinned (fp1 FR (fun _ _ q hq=>by cases hq)) (T.obj _ _ A4)
   have keepIt:∀{pd:St} {H7:Hp} {s7:Shared},Inv (aP X scope (own++kn) fp s H) ([]++iI fp s5.heap) pd H7 s7->tn (i+1) s7.heap/\∀b∈fp,H7 b=none:=fun {pd H7 s7} I7=>by
    refine⟨T.keep _ _ _ A4 fun b hb o e=>(I7.pin (b,o) (List.mem_append_right _ (List.mem_append_right _ (fY hb e)))).1,fun b hb=>?_⟩
    obtain⟨o,e,d⟩:=T.obj _ _ A4 b hb;exact(I7.pin (b,o) (List.mem_append_right _ (List.mem_append_right _ (fY hb e)))).2.1
   have reset:∀{pd:St} {H7:Hp} {s7:Shared},Inv (aP X scope (own++kn) fp s H) ([]++iI fp s5.heap) pd H7 s7->Inv (aP X scope (own++kn) fp s H) [] (ck own kp σ) H7 s7:=fun {pd H7 s7} I7=>by
    have I8:=I7.i9;have hun:Un (iC X.stack) fp H H7 s.heap s7.heap:=I8.base;have I9:Inv X pins σ H7 s7:=kZ I hf I8;refine⟨I8.ok,I8.os,I8.bare,I8.base,?_,I8.cell,I8.free,I8.freeC,I8.pin,I8.hok,I1.len⟩;obtain⟨m,hm,_⟩:=I8.loc;refine⟨m,hm,fun i x v h1 h2 h3=>?_⟩
    obtain⟨m1,Fz,Dc⟩:=I1.loc;obtain⟨u1,r1,l1⟩:=Dc i x v h1 h2 h3;have h1:(own++kn)[i]? =some x:=h1;have h2:(ck own kp σ)[i]? =some (some v):=h2;unfold ck at h2;by_cases hi:i < own.length
    .rw [List.getElem?_append_left (by simpa using hi),List.getElem?_replicate] at h2
     split at h2 <;> cases h2
    .rw [List.getElem?_append_right (by simpa using hi),List.length_replicate,List.getElem?_map] at h2
     rw[List.getElem?_append_right (by simpa using hi)] at h1
     cases e:kp[i - own.length]? with
     | none=>rw [e] at h2;cases h2
     | some j=>
       rw[e] at h2;have h2:(σ[j]?).getD none=some v:=Option.some.inj h2;have hj:X.N[j]? =some x:=C.at_ _ j x e h1;have hσ:σ[j]? =some (some v):=by
        cases q:σ[j]? with
        | none=>rw [q] at h2;cases h2
        | some y=>rw [q] at h2;exact congrArg some h2
       have hfree:scope.names.lookup x=some .free:=C.isfree x (List.mem_of_getElem? h1);have hkind:=C.free (x, .free) (PySem.mem_of_lookup hfree) rfl;obtain⟨m9,KG,Jq⟩:=I9.loc;obtain⟨u,r,l⟩:=Jq j x v hj hσ (hkind.elim (fun q=>Or.inr (Or.inl q)) fun q=>Or.inr (Or.inr q))
       refine⟨u,r, .inr ?_⟩;rcases l1 with⟨k,k2⟩ | ⟨k,c,hc,hcell⟩
       .have k:(relabel scope X.env).names.lookup x=some .local:=k;rcases cU k with z | ⟨z,_⟩
        .rw [hfree] at z;cases z
        .cases z
       .refine⟨k,c,hc,?_⟩;rcases l with⟨k',_⟩ | ⟨_,c',sW,A5⟩
        .rcases hkind with q | q
         .rw [show X.env.kindOf x=some .cell from q] at k';cases k'
         .rw [show X.env.kindOf x=some .free from q] at k';cases k'
        .have hcl:(ig X.env.cells scope.names []).lookup x=some c:=(mG _ _ _ fun z=>by have:=C.cel _ z rfl;rw [hfree] at this;cases this).symm.trans hc
         rcases fg scope.names [] hcl with q | ⟨q1,q2⟩
         .simp at q
         .rw [sW] at q2;have q2:c=c':=q2;rw[q2];exact A5
   have hmm:=hg ([]++iI fp s5.heap) s5 (ck own kp σ) H5 x u _ I5' r5 (step x H5 y5);refine wpAny_bind (cN hmm fun _ s6 ⟨CT,H6,I6,q6⟩=>?_)
   refine wpAny_bind (cN (hi _ s6 CT H6 _ I6 q6) fun ok s7 ⟨H7,I7,q7⟩=>?_)
   cases ok with
   | false=>
     simp only[Bool.false_eq_true,if_false] at q7 ⊢;obtain⟨m',AU,w7⟩:=q7;obtain⟨a1,a2⟩:=keepIt I7;exact wpAny_pure ⟨rfl,m',AU,i+1,ys,H7,reset I7,a1,a2,w7⟩
   | true=>
     simp only[if_true] at q7 ⊢;refine wpAny_bind (wpAny_bind (cN (he _ s7 CT H7 _ I7 q7) fun yv s8 ⟨y,H8,I8,r8,hD,gE,m',AU,w8⟩=>wpAny_bind ?_))
     obtain⟨a1,a2⟩:=keepIt I8;refine cN (lN _ s8 CT H8 (.ref D) [y] (.ref D) [yv] (fun v H9=>v= .cy/\H9=upd H8 D (.lst (ys++[y]))) I8 rfl (.cons r8 .nil) ⟨D,ys,y,rfl,rfl,hD,gE,rfl,rfl⟩) fun _ s9 ⟨v9,H9,I9,_,_,e9⟩=>?_
     subst e9;obtain⟨b1,b2⟩:=keepIt I9;exact wpAny_pure (wpAny_pure ⟨rfl,m',AU,i+1,ys++[y],_,reset I9,b1,b2,w8⟩)
 exact codeAny_compStart_list loop (T.self _ _ _ _ _ Hq loop)
theorem qJ(hc:X.calm=true)(C:bN X scope own kp kn)(hi:PI X tg iter wi)(hg:∀fp s H,PG (aP X scope (own++kn) fp s H) tg g)(qv:∀fp s H,lI (aP X scope (own++kn) fp s H) ifs tc)
 (he:∀fp s H,PE (aP X scope (own++kn) fp s H) elt te) (hs:∀x,foldedSetIterable iter X.env x=pure x:=by intro _;rfl):PE X (.ListComp elt [⟨tg,iter,ifs,0⟩] scope pos) (qI wi g tc te own kp):=by
 intro pins s σ H Q I h;rw[eval_ListComp];refine wpAny_comprehension_free (use:=none) rfl hs (gu (iB C I)) C.kind C.nd (cN (hi pins s σ H _ I h) fun v s1 h1=>cN h1 fun DO s2 h2=>?_)
 obtain⟨it,fp,tn,J,H2,e,I2,T,AY,f2,q⟩:=h2;subst e;refine wpAny_newObj_type ?_;have I3:Inv X pins σ (upd H2 s2.heap.objs.size (.lst [])) {s2 with heap:=s2.heap.push {cls:= .type "list",dict:=none,data:= .seq ([]:List Value).toArray}}:=I2.Av (its:=[]) (t':=s2.toks) .nil (Nat.zero_le _)
 obtain⟨W,w0,turn⟩:=q s2.heap.objs.size I2.fresh;have fne:∀b∈fp,b < s2.heap.objs.size:=fun b hb=>let⟨o,e,_⟩:=T.obj _ _ AY b hb;Heap.lt_size e
 have f3:∀b∈fp,j9 X pins (upd H2 s2.heap.objs.size (.lst [])) b:=fun b hb=>⟨by rw[aW (Nat.ne_of_lt (fne b hb))];exact(f2 b hb).1,(f2 b hb).2⟩
 generalize hs3:({s2 with heap:=s2.heap.push {cls:= .type "list",dict:=none,data:= .seq ([]:List Value).toArray}}:Shared)=s3 at I3 ⊢
 have yg:tn 0 s3.heap:=by rw[<-hs3];exact T.keep _ _ _ AY fun b _ o e=>Heap.get?_push_of_some _ e
 have fne3:∀b∈fp,b < s3.heap.objs.size:=fun b hb=>by rw[<-hs3];exact Nat.lt_of_lt_of_le (fne b hb) (by rw[Heap.size_push];exact Nat.le_succ _)
 refine mh fun jA qr hk hC=>?_
 refine o3 (D:=s2.heap.objs.size) hc C I3 f3 fne3 T (hg fp s3 _) (qv fp s3 _) (he fp s3 _) qr hk hC yg W w0 turn fun H' s' bR J' hq=>?_
 have B:=kZ I3 f3 J';obtain⟨m',AU,_⟩:=J'.loc;refine⟨m',AU,fun h' sb=>⟨.ref s2.heap.objs.size,H',?_,rfl,hq⟩⟩
 have fC:=I3.sj (H':=H') (b:=s3.heap.objs.size) (Nat.le_refl _) J'.free;exact B.turned (it:=s3.heap.objs.size) (t':=s'.toks) (fun b o hb e=>(sb.2 b hb).trans e) fC.1 fC.2.1 fC.2.2.2.1 fC.2.2.2.2.1 fC.2.2.2.2.2
theorem iH{i:Nat}{x:Str}{pos' gC:Pos}(hc:X.calm=true)(hN:X.N.Nodup)(hx:X.N[i]? =some x)(sU:X.env.scope.names.lookup x=some .local)(C:bN X scope own kp kn)(hi:PI X tg iter wi)
 (hg:∀fp s H,PG (aP X scope (own++kn) fp s H) tg g) (qv:∀fp s H,lI (aP X scope (own++kn) fp s H) ifs tc)
 (he:∀fp s H,PE (aP X scope (own++kn) fp s H) elt te)
 (sP:swapsWith (.ListComp elt [⟨tg,iter,ifs,0⟩] scope pos) (some (.Name x pos')) gC.line X.env=pure true:=by rfl)
 (hs:∀x,foldedSetIterable iter X.env x=pure x:=by intro _;rfl) :
 PS X (.Assign [.Name x pos'] (.ListComp elt [⟨tg,iter,ifs,0⟩] scope pos) gC) (uH (qI wi g tc te own kp) (l8 i)):=by
 intro pins s σ H D I h;rw[exec_Assign_Name_used _ _ _ _ sP];refine wpAny_bind (wpAny_standAt (wpAny_bind ?_));show wpAny _ X.A (do let _ <-comprehension (.ListComp elt [⟨tg,iter,ifs,0⟩] scope pos) scope X.env _ (newList []) false (eval iter X.env) (some (assign (.Name x pos') X.env))) _ _ s
 refine wpAny_bind (wpAny_mono (wpAny_comprehension_free (use:=some (assign (.Name x pos') X.env)) (Q:=fun _ s'=>SP X pins D .next s') rfl hs (gu (iB C I)) C.kind C.nd
  (cN (hi pins s σ H _ I h) fun v s1 h1=>cN h1 fun DO s2 h2=>?_)) (fun _ s' hq=>wpAny_pure (wpAny_pure hq)) fun _ _ e=>e)
 obtain⟨it,fp,tn,J,H2,e,I2,T,AY,f2,q⟩:=h2;subst e;refine wpAny_newObj_type ?_;have I3:Inv X pins σ (upd H2 s2.heap.objs.size (.lst [])) {s2 with heap:=s2.heap.push {cls:= .type "list",dict:=none,data:= .seq ([]:List Value).toArray}}:=I2.Av (its:=[]) (t':=s2.toks) .nil (Nat.zero_le _)
 obtain⟨W,w0,turn⟩:=q s2.heap.objs.size I2.fresh;have fne:∀b∈fp,b < s2.heap.objs.size:=fun b hb=>let⟨o,e,_⟩:=T.obj _ _ AY b hb;Heap.lt_size e
 have f3:∀b∈fp,j9 X pins (upd H2 s2.heap.objs.size (.lst [])) b:=fun b hb=>⟨by rw[aW (Nat.ne_of_lt (fne b hb))];exact(f2 b hb).1,(f2 b hb).2⟩
 generalize hs3:({s2 with heap:=s2.heap.push {cls:= .type "list",dict:=none,data:= .seq ([]:List Value).toArray}}:Shared)=s3 at I3 ⊢
 have yg:tn 0 s3.heap:=by rw[<-hs3];exact T.keep _ _ _ AY fun b _ o e=>Heap.get?_push_of_some _ e
 have fne3:∀b∈fp,b < s3.heap.objs.size:=fun b hb=>by rw[<-hs3];exact Nat.lt_of_lt_of_le (fne b hb) (by rw[Heap.size_push];exact Nat.le_succ _)
 refine mh fun jA qr hk hC=>?_
 refine o3 (Q:=fun x H1=>l8 i x σ H1 D.nx) (D:=s2.heap.objs.size) hc C I3 f3 fne3 T (hg fp s3 _) (qv fp s3 _) (he fp s3 _) qr hk hC yg W w0 turn fun H' s' bR J' hq=>?_
 have B:=kZ I3 f3 J';obtain⟨m',AU,_⟩:=J'.loc;have fC:=I3.sj (H':=H') (b:=s3.heap.objs.size) (Nat.le_refl _) J'.free;show wpAny _ X.A (assign (.Name x pos') X.env (.ref s2.heap.objs.size)) _ _ s';refine wpAny_assign_Name (lU B hN hx (.inl sU) (v:= .ref s2.heap.objs.size) rfl (fun s4 I4 ⟨a,sb,ha⟩=>?_) (.inr sU))
 have ha':s3.heap.objs.size≠a:=by
  rcases ha with rfl | z
  .exact fC.2.1
  .exact fun e=>fC.2.2.2.2.1 x a z e.symm
 refine⟨m',AU.sameBut sb ha',fun h' Jm=>⟨_,H',?_,hq⟩⟩
 exact I4.turned (it:=s3.heap.objs.size) (t':=s4.toks) (fun b o hb e=>(Jm.2 b hb).trans e) fC.1 fC.2.1 fC.2.2.2.1 fC.2.2.2.2.1 fC.2.2.2.2.2
end
end L2
end
section
namespace L2
open PySem PySem.Spec PyProof.Rows
inductive D where
 | cy | bl (b:Bool) | int (i:Int) | str (x:Str) | lst (ds:List D) | tup (ds:List D) | dct (ks:List Key) (ds:List D)
inductive R (α:Type) where
 | ok (a:α) | ex (c:Nat) | no
def R.bind{α β:Type}:R α->(α->R β)->R β
 | .ok a,f=>f a
 | .ex c,_=> .ex c
 | .no,_=> .no
theorem R.af{α β:Type}{r:R α}{f:α->R β}{b:β}(h:r.bind f= .ok b):∃a,r= .ok a/\f a= .ok b:=by
 cases r with
 | ok a=>exact⟨a,rfl,h⟩
 | ex c=>cases h
 | no=>cases h
@[simp] theorem R.bo{α β:Type}(a:α)(f:α->R β):(R.ok a).bind f=f a:=rfl
def R.ba{α:Type}(c:Bool)(r:R α):R α:=if c then r else .no
theorem R.aH{α:Type}{c:Bool}{r:R α}{a:α}(h:R.ba c r= .ok a):c=true/\r= .ok a:=by
 cases c with
 | true=>exact⟨rfl,h⟩
 | false=>cases h
@[simp] theorem R.so{α:Type}(r:R α):R.ba true r=r:=rfl
def lu(K:W.Frag)(B:List Addr)(H:Hp)(a:Addr)(xs:List V):Prop:=
 (a ∉ B/\Rd H a (.lst xs))\/∃(its:List Value) (n:Nat),K.lookup a=some {cls:= .type "list",data:= .seq its.toArray n}/\xs.length<=sizeLine/\Vals xs its
def nT(K:W.Frag)(B:List Addr)(H:Hp)(a:Addr)(xs:List V):Prop:=
 (a ∉ B/\Rd H a (.tup xs))\/∃(o:Obj) (its:Array Value) (n:Nat),K.lookup a=some o/\o.cls= .type "tuple"/\o.data= .seq its n/\its.size<=sizeLine/\Vals xs its.toList
theorem lu.sq{K:W.Frag}{B:List Addr}{a:Addr}{xs:List V}(h:lu K B H a xs):iX K H a xs:=by
 rcases h with z | ⟨its,n,hk,hz,r⟩
 .exact .inl z.2
 .exact .inr ⟨_,its.toArray,n,hk,rfl,rfl,rfl,by rw[List.size_toArray,<-r.length];exact hz,by simpa using r⟩
theorem nT.sq{K:W.Frag}{B:List Addr}{a:Addr}{xs:List V}(h:nT K B H a xs):jU K H a xs:=h.elim (fun z=> .inl z.2) .inr
mutual
def Rep(K:W.Frag)(B:List Addr)(H:Hp):D->V->Prop
 | .cy,v=>v= .cy
 | .bl b,v=>v= .bl b
 | .int i,v=>v= .int i
 | .str x,v=>v= .str x
 | .lst ds,v=>∃a xs,v= .ref a/\lu K B H a xs/\ay K B H ds xs
 | .tup ds,v=>∃a xs,v= .ref a/\nT K B H a xs/\ay K B H ds xs
 | .dct ks ds,v=>∃(a:Addr) (aI:List (Key × V)),v= .ref a/\(a ∉ B/\H a=some (.dK aI))/\aI.map (·.1)=ks/\ay K B H ds (aI.map (·.2))
def ay(K:W.Frag)(B:List Addr)(H:Hp):List D->List V->Prop
 | [],xs=>xs=[]
 | d ::ds,xs=>∃x r,xs=x ::r/\Rep K B H d x/\ay K B H ds r
end
def de(B:List Addr)(H:Hp)(B':List Addr)(H':Hp):Prop:=∀b o,H b=some o->b ∉ B->H' b=some o/\b ∉ B'
theorem de.rd{B B':List Addr}(p:de B H B' H'){a:Addr}{u:HO}(h:Rd H a u)(n:a ∉ B):Rd H' a u/\a ∉ B':=by
 rcases h with e | ⟨o,e⟩
 .exact⟨.inl (p a _ e n).1,(p a _ e n).2⟩
 .exact⟨.inr ⟨o,(p a _ e n).1⟩,(p a _ e n).2⟩
theorem de.trans{B B' CQ:List Addr}(p:de B H B' H')(q:de B' H' CQ jT):de B H CQ jT:=fun b o e n=>
 let⟨e1,n1⟩:=p b o e n;q b o e1 n1
theorem de.same{B:List Addr}(s:aG H H'):de B H B H':=fun b o e n=>⟨s b o e,n⟩
theorem de.refl(B:List Addr)(H:Hp):de B H B H:=de.same (aG.refl H)
theorem lu.bf{K:W.Frag}{B B':List Addr}(p:de B H B' H'){a:Addr}{xs:List V}(l:lu K B H a xs):lu K B' H' a xs:=
 l.elim (fun z=> .inl ⟨(p.rd z.2 z.1).2,(p.rd z.2 z.1).1⟩) .inr
mutual
theorem Rep.bf{K:W.Frag}{B B':List Addr}(p:de B H B' H'):∀{d:D} {v:V},Rep K B H d v->Rep K B' H' d v
 | .cy,_,h=>h
 | .bl _,_,h=>h
 | .int _,_,h=>h
 | .str _,_,h=>h
 | .lst ds,v,h=>by
   unfold Rep at h ⊢;obtain⟨a,xs,e,l,r⟩:=h;exact⟨a,xs,e,l.bf p,ay.bf p r⟩
 | .tup ds,v,h=>by
   unfold Rep at h ⊢;obtain⟨a,xs,e,l,r⟩:=h;exact⟨a,xs,e,l.elim (fun z=> .inl ⟨(p.rd z.2 z.1).2,(p.rd z.2 z.1).1⟩) .inr,ay.bf p r⟩
 | .dct ks ds,v,h=>by
   unfold Rep at h ⊢;obtain⟨a,aI,e,⟨n,l⟩,k,r⟩:=h;exact⟨a,aI,e,⟨(p a _ l n).2,(p a _ l n).1⟩,k,ay.bf p r⟩
theorem ay.bf{K:W.Frag}{B B':List Addr}(p:de B H B' H'):∀{ds:List D} {xs:List V},ay K B H ds xs->ay K B' H' ds xs
 | [],_,h=>h
 | d ::ds,xs,h=>by
   unfold ay at h ⊢;obtain⟨x,r,e,h1,h2⟩:=h;exact⟨x,r,e,Rep.bf p h1,ay.bf p h2⟩
end
theorem Rep.same{K:W.Frag}{B:List Addr}{d:D}{v:V}(h:Rep K B H d v)(s:aG H H'):Rep K B H' d v:=h.bf (de.same s)
theorem ay.same{K:W.Frag}{B:List Addr}{d:List D}{v:List V}(h:ay K B H d v)(s:aG H H'):ay K B H' d v:=h.bf (de.same s)
theorem ay.nil{K:W.Frag}{B:List Addr}:ay K B H [] []:=by unfold ay;rfl
theorem ay.cons{K:W.Frag}{B:List Addr}{d:D}{ds:List D}{x:V}{xs:List V}(h:Rep K B H d x)(t:ay K B H ds xs):ay K B H (d ::ds) (x ::xs):=by
 unfold ay;exact⟨x,xs,rfl,h,t⟩
theorem ay.bQ{K:W.Frag}{B:List Addr}{d:D}{ds:List D}{xs:List V}(h:ay K B H (d ::ds) xs):∃x r,xs=x ::r/\Rep K B H d x/\ay K B H ds r:=by
 unfold ay at h;exact h
theorem ay.length{K:W.Frag}{B:List Addr}:∀{ds:List D} {xs:List V},ay K B H ds xs->ds.length=xs.length
 | [],_,h=>by unfold ay at h;rw [h];rfl
 | d ::ds,xs,h=>by
   obtain⟨x,r,rfl,_,h2⟩:=h.bQ;simp [h2.length]
theorem ay.get{K:W.Frag}{B:List Addr}:∀{ds:List D} {xs:List V} {i:Nat} {d:D},ay K B H ds xs->ds[i]? =some d->∃x,xs[i]? =some x/\Rep K B H d x
 | [],_,_,_,_,e=>by simp at e
 | d ::ds,xs,0,d',h,e=>by
   obtain⟨x,r,rfl,h1,h2⟩:=h.bQ;simp at e;subst e;exact⟨x,rfl,h1⟩
 | d ::ds,xs,i+1,d',h,e=>by
   obtain⟨x,r,rfl,h1,h2⟩:=h.bQ;obtain⟨y,e1,e2⟩:=ay.get (i:=i) h2 (by simpa using e)
   exact⟨y,by simpa using e1,e2⟩
theorem ay.append{K:W.Frag}{B:List Addr}:∀{ds es:List D} {xs ys:List V},ay K B H ds xs->ay K B H es ys->ay K B H (ds++es) (xs++ys)
 | [],_,_,_,h,t=>by unfold ay at h;subst h;exact t
 | d ::ds,es,xs,ys,h,t=>by
   obtain⟨x,r,rfl,h1,h2⟩:=h.bQ;exact ay.cons h1 (ay.append h2 t)
theorem ay.drop{K:W.Frag}{B:List Addr}:∀{ds:List D} {xs:List V} (n:Nat),ay K B H ds xs->ay K B H (ds.drop n) (xs.drop n)
 | _,_,0,h=>h
 | [],_,n+1,h=>by unfold ay at h;subst h;exact ay.nil
 | d ::ds,xs,n+1,h=>by
   obtain⟨x,r,rfl,h1,h2⟩:=h.bQ;exact ay.drop n h2
theorem ay.take{K:W.Frag}{B:List Addr}:∀{ds:List D} {xs:List V} (n:Nat),ay K B H ds xs->ay K B H (ds.take n) (xs.take n)
 | _,_,0,h=>ay.nil
 | [],_,n+1,h=>by unfold ay at h;subst h;exact ay.nil
 | d ::ds,xs,n+1,h=>by
   obtain⟨x,r,rfl,h1,h2⟩:=h.bQ;exact ay.cons h1 (ay.take n h2)
def D.atom:D->Bool
 | .cy=>true | .bl _=>true | .int _=>true | .str _=>true | _=>false
theorem Rep.atom{K:W.Frag}{B B':List Addr}{d:D}{v:V}(a:d.atom=true)(h:Rep K B H d v):Rep K B' H' d v:=by
 cases d <;> first | exact h | cases a
inductive Sl where
 | un | val (d:D) | bld (ds:List D)
abbrev ar:=List Sl
structure ee (K:W.Frag) (Z B:List Addr) (H:Hp) (σ:St) (δ:ar):Prop where
 len:δ.length=σ.length
 bs:∀a∈B,∃o,H a=some o
 zb:∀a∈Z,a∈B
 val:∀(i:Nat) (d:D),δ[i]? =some (.val d)->∃v,σ[i]? =some (some v)/\Rep K B H d v
 bld:∀(i:Nat) (ds:List D),δ[i]? =some (.bld ds)->∃a xs,σ[i]? =some (some (.ref a))/\a∈B/\a ∉ Z/\H a=some (.lst xs)/\ay K B H ds xs
 dis:∀(i j:Nat) (a:Addr) (ds es:List D),δ[i]? =some (.bld ds)->δ[j]? =some (.bld es)->σ[i]? =some (some (.ref a))->σ[j]? =some (some (.ref a))->i=j
theorem ee.same{K:W.Frag}{Z B:List Addr}{δ:ar}(E:ee K Z B H σ δ)(s:aG H H'):ee K Z B H' σ δ where
 len:=E.len
 bs:=fun a ha=>let⟨o,e⟩:=E.bs a ha;⟨o,s a o e⟩
 zb:=E.zb
 val:=fun i d e=>let⟨v,h1,h2⟩:=E.val i d e;⟨v,h1,h2.same s⟩
 bld:=fun i ds e=>let⟨a,xs,h1,h2,h3,h4,h5⟩:=E.bld i ds e;⟨a,xs,h1,h2,h3,s a _ h4,h5.same s⟩
 dis:=E.dis
def BE(δ:ar):ar:=δ.map fun x=>match x with | .bld ds=> .val (.lst ds) | y=>y
theorem PE.imp{X:Cx}{t t':TE}(h:PE X e t)(w:∀σ H Q,t' σ H Q->t σ H Q):PE X e t':=fun pins s σ H Q I hq=>h pins s σ H Q I (w σ H Q hq)
theorem PT.imp{X:Cx}{t t':TT}(h:PT X e t)(w:∀σ H Q,t' σ H Q->t σ H Q):PT X e t':=fun pins s σ H Q I hq=>h pins s σ H Q I (w σ H Q hq)
theorem PA.imp{X:Cx}{t t':TA}(h:PA X e t)(w:∀σ H Q,t' σ H Q->t σ H Q):PA X e t':=fun pos pins s σ H Q I hq=>h pos pins s σ H Q I (w σ H Q hq)
theorem PS.imp{X:Cx}{t t':TS}(h:PS X e t)(w:∀D σ H,t' D σ H->t D σ H):PS X e t':=fun pins s σ H D I hq=>h pins s σ H D I (w D σ H hq)
theorem mD.imp{X:Cx}{t t':TS}(h:mD X e t)(w:∀D σ H,t' D σ H->t D σ H):mD X e t':=fun pins s σ H D I hq=>h pins s σ H D I (w D σ H hq)
theorem PG.imp{X:Cx}{t t':TG}(h:PG X e t)(w:∀v σ H Q,t' v σ H Q->t v σ H Q):PG X e t':=fun pins s σ H v u Q I r hq=>h pins s σ H v u Q I r (w v σ H Q hq)
theorem PI.imp{X:Cx}{t t':TI}(h:PI X tg e t)(w:∀σ H Q,t' σ H Q->t σ H Q):PI X tg e t':=fun pins s σ H Q I hq=>h pins s σ H Q I (w σ H Q hq)
abbrev FD:=ar->R D
def tD(K:W.Frag)(f:FD):TE:=fun σ H Q=>∃Z B δ d,ee K Z B H σ δ/\f δ= .ok d/\∀v H',aG H H'->Rep K B H' d v->Q v H'
def tN(K:W.Frag)(f:ar->R (List D)):TE:=fun σ H Q=>∃Z B δ ds,ee K Z B H σ δ/\f δ= .ok ds/\∀a xs H',aG H H'->H a=none->H' a=some (.lst xs)->ay K (a ::B) H' ds xs->Q (.ref a) H'
def Bc(K:W.Frag)(f:ar->R Bool):TT:=fun σ H Q=>∃Z B δ b,ee K Z B H σ δ/\f δ= .ok b/\∀H',aG H H'->Q b H'
def Hg(K:W.Frag)(f:ar->R (List D)):TA:=fun σ H Q=>∃Z B δ ds,ee K Z B H σ δ/\f δ= .ok ds/\∀vs H',aG H H'->ay K B H' ds vs->Q vs H'
abbrev PD(X:Cx)(e:Expr)(f:FD):Prop:=PE X e (tD X.K f)
abbrev PN(X:Cx)(e:Expr)(f:ar->R (List D)):Prop:=PE X e (tN X.K f)
abbrev PB(X:Cx)(e:Expr)(f:ar->R Bool):Prop:=PT X e (Bc X.K f)
abbrev vY(X:Cx)(es:List Expr)(f:ar->R (List D)):Prop:=PA X es (Hg X.K f)
section
variable {X:Cx}
def eNew(f:ar->R (List D)):FD:=fun δ=>(f δ).bind fun ds=> .ok (.lst ds)
theorem Ao{f:ar->R (List D)}(h:PN X e f):PD X e (eNew f):=h.imp fun σ H Q ⟨Z,B,δ,d,E,hf,q⟩=>by
 obtain⟨ds,h1,h2⟩:=R.af hf;cases h2;refine⟨Z,B,δ,ds,E,h1,fun a xs H' s n e r=>q _ H' s ?_⟩
 unfold Rep;refine⟨a,xs,rfl, .inl ⟨fun ha=>?_, .inl e⟩,r.bf fun b o e nb=>⟨e,fun hb=>nb (List.mem_cons_of_mem _ hb)⟩⟩
 obtain⟨o,ho⟩:=E.bs a ha;rw[n] at ho;cases ho
theorem jh{B:List Addr}{H:Hp}{p:Addr}{o:HO}(h:H p=none):de B H (p ::B) (upd H p o):=fun b u e nb=>
 ⟨by rw[aW (aX e h)];exact e,fun hb=>by
   rcases List.mem_cons.mp hb with z | z
   .exact aX e h z
   .exact nb z⟩
def GZ(f:FD):FD:=fun δ=>(f (BE δ)).bind fun d=>R.ba d.atom (.ok d)
def GQ(f:ar->R Bool):ar->R Bool:=fun δ=>f (BE δ)
def ai(i:Nat):FD:=fun δ=>match δ[i]? with | some (.val d)=> .ok d | _=> .no
def eC(d:D):FD:=fun _=> .ok d
theorem zN(i:Nat){x:Str}{pos:Pos}(hN:X.N[i]? =some x:=by rfl)(hv:Az X.env.scope x:=by first | exact Or.inl rfl | exact Or.inr (Or.inl rfl) | exact Or.inr (Or.inr rfl))(hd:(x==("__debug__":Str))=false:=by decide)
 (lK:(x==("__classdict__":Str))=false:=by decide):PD X (.Name x pos) (ai i):=(ni hN hv hd lK).imp fun σ H Q ⟨Z,B,δ,d,E,hf,q⟩=>by
 unfold ai at hf;split at hf
 .rename_i d' e;cases hf;obtain⟨v,h1,h2⟩:=E.val i d e;exact⟨v,h1,q v H (aG.refl H) h2⟩
 .cases hf
theorem i4{v:V}{d:D}(h:PE X e (tC v))(r:∀B H,Rep X.K B H d v):PD X e (eC d):=h.imp fun σ H Q ⟨Z,B,δ,d',E,hf,q⟩=>by
 cases hf;exact q v H (aG.refl H) (r B H)
theorem zC{i j pos}:PD X (.Constant (.int i) j pos) (eC (.int i)):=i4 ky fun _ _=>by unfold Rep;rfl
theorem BZ{b j pos}:PD X (.Constant (.bool b) j pos) (eC (.bl b)):=i4 Bv fun _ _=>by unfold Rep;rfl
theorem z9{x j pos}:PD X (.Constant (.str x) j pos) (eC (.str x)):=i4 kG fun _ _=>by unfold Rep;rfl
def Glob(K:W.Frag)(mg:KY)(x:Str)(d:D):Prop:=∃(u:Value) (v:V),mg x=some u/\RelV v u/\∀B H,Rep K B H d v
theorem xW{d:D}{pos:Pos}(g:Glob X.K X.mg x d)(hg:Gl X x)(hd:(x==("__debug__":Str))=false:=by decide):PD X (.Name x pos) (eC d):=by
 obtain⟨u,v,hm,r,h⟩:=g;exact i4 (cA hg hm r hd) h
def a_:ar->R (List D):=fun _=> .ok []
def aq(f:FD)(g:ar->R (List D)):ar->R (List D):=fun δ=>(f δ).bind fun d=>(g δ).bind fun ds=> .ok (d ::ds)
theorem xM:vY X [] a_:=eP.imp fun σ H Q ⟨Z,B,δ,d,E,hf,q⟩=>by
 cases hf;exact q [] H (aG.refl H) ay.nil
theorem tE{g:ar->R (List D)}(h:PD X e f)(t:vY X es g)(hs:starEach (e ::es) X.env=(false,eval e X.env) ::starEach es X.env:=by rfl):vY X (e ::es) (aq f g):=
 (c1 h t hs).imp fun σ H Q ⟨Z,B,δ,d,E,hf,q⟩=>by
   obtain⟨d1,h1,h2⟩:=R.af hf;obtain⟨ds,h3,h4⟩:=R.af h2;cases h4;exact⟨Z,B,δ,d1,E,h1,fun v H1 s1 r1=>⟨Z,B,δ,ds,E.same s1,h3,fun vs H2 s2 r2=>q _ H2 (s1.trans s2) (ay.cons (r1.same s2) r2)⟩⟩
def f9(g:ar->R (List D)):FD:=fun δ=>(g δ).bind fun ds=>R.ba (decide (ds.length<=sizeLine)) (.ok (.tup ds))
def fu(g:ar->R (List D)):ar->R (List D):=fun δ=>(g δ).bind fun ds=>R.ba (decide (ds.length<=sizeLine)) (.ok ds)
theorem bt{H:Hp}{p:Addr}{o:HO}(h:H p=none):aG H (upd H p o):=fun b u e=>by rw[aW (aX e h)];exact e
theorem z7{g:ar->R (List D)}{x1 pos}(h:vY X es g):PD X (.Tuple es x1 pos) (f9 g):=(qp h).imp fun σ H Q ⟨Z,B,δ,d,E,hf,q⟩=>by
 obtain⟨ds,h1,h2⟩:=R.af hf;obtain⟨hl,h3⟩:=R.aH h2;cases h3;refine⟨Z,B,δ,ds,E,h1,fun vs H1 s1 r1=>⟨by rw[<-r1.length];exact of_decide_eq_true hl,fun p hp=>q _ _ (s1.trans (bt hp)) ?_⟩⟩
 unfold Rep;refine⟨p,vs,rfl, .inl ⟨fun ha=>?_, .inl aU⟩,r1.same (bt hp)⟩
 obtain⟨o,ho⟩:=(E.same s1).bs p ha;rw[hp] at ho;cases ho
theorem zL{g:ar->R (List D)}{pos}(h:vY X es g):PN X (.List es pos) (fu g):=(vy h).imp fun σ H Q ⟨Z,B,δ,d,E,hf,q⟩=>by
 obtain⟨ds,h1,h2⟩:=R.af hf;obtain⟨hl,h3⟩:=R.aH h2;cases h3;exact⟨Z,B,δ,_,E,h1,fun vs H1 s1 r1=>⟨by rw[<-r1.length];exact of_decide_eq_true hl,fun p hp=>q p vs _ (s1.trans (bt hp)) (s1.free hp) aU (r1.bf (jh hp))⟩⟩
def iW(X:Cx)(f:Value->Value->Sem Value)(g:D->D->R D):Prop:=
 ∀(pins:KQ) (s:Shared) (σ:St) (H:Hp) (B:List Addr) (da db d:D) (x y:V) (v u:Value),Inv X pins σ H s->(∀a∈B,∃o,H a=some o)->RelV x v->RelV y u->Rep X.K B H da x->Rep X.K B H db y->g da db= .ok d->
  wpAny (model X.prog X.w) X.A (f v u) (EP X pins σ fun z H'=>aG H H'/\Rep X.K B H' d z) X.xe s
def e2(g:D->D->R D)(fa fb:FD):FD:=fun δ=>(fa δ).bind fun a=>(fb δ).bind fun b=>g a b
theorem iW.r{f:Value->Value->Sem Value}{g:D->D->R D}(h:iW X f g):j_ X f (fun x y H Q=>∃B da db d,(∀a∈B,∃o,H a=some o)/\Rep X.K B H da x/\Rep X.K B H db y/\g da db= .ok d/\∀z H',aG H H'->Rep X.K B H' d z->Q z H'):=by
 intro pins s σ H x y v u Q I rx ry ⟨B,da,db,d,hb,ha,kj,hg,q⟩;exact cN (h pins s σ H B da db d x y v u I hb rx ry ha kj hg) fun z s' ⟨zv,H',I',r',s1,r1⟩=>⟨zv,H',I',r',q zv H' s1 r1⟩
theorem zG{K:W.Frag}{g:D->D->R D}{Q:VK}(h:tD K (e2 g fa fb) σ H Q) :
 Bf (fun x y H Q=>∃B da db d,(∀a∈B,∃o,H a=some o)/\Rep K B H da x/\Rep K B H db y/\g da db= .ok d/\∀z H',aG H H'->Rep K B H' d z->Q z H') (tD K fa) (tD K fb) σ H Q:=by
 obtain⟨Z,B,δ,d,E,hf,q⟩:=h;obtain⟨d1,h1,h2⟩:=R.af hf;obtain⟨d2,h3,h4⟩:=R.af h2;exact⟨Z,B,δ,d1,E,h1,fun v1 H1 s1 r1=>⟨Z,B,δ,d2,E.same s1,h3,fun v2 H2 s2 r2=>⟨B,d1,d2,d,(E.same (s1.trans s2)).bs,r1.same s2,r2,h4,fun z H' s3 r3=>q z H' (s1.trans (s2.trans s3)) r3⟩⟩⟩
theorem Cy{op:Operator}{g:D->D->R D}(ho:iW X (binaryOp op) g)(ha:PD X a fa)(hb:PD X b fb):PD X (.BinOp a op b pos) (e2 g fa fb):=
 (yw ho.r ha hb).imp fun σ H Q h=>zG h
theorem AO{op:CmpOp}{g:D->D->R D}(ho:iW X (compareOp op) g)(ha:PD X a fa)(hb:PD X b fb)(hm:behindInMarks op b=false):PD X (.Compare a [op] [b] pos) (e2 g fa fb):=
 (qE ho.r ha hb hm).imp fun σ H Q h=>zG h
def b2(g:D->D->R D)(fa fb:FD):ar->R Bool:=fun δ=>(e2 g fa fb δ).bind fun d=>match d with | .bl b=> .ok b | _=> .no
theorem zg{op:CmpOp}{g:D->D->R D}(ho:iW X (compareOp op) g)(ha:PD X a fa)(hb:PD X b fb)(hm:behindInMarks op b=false):PB X (.Compare a [op] [b] pos) (b2 g fa fb):=
 (rf ho.r ha hb hm).imp fun σ H Q ⟨Z,B,δ,b,E,hf,q⟩=>by
   obtain⟨d,h1,h2⟩:=R.af hf;cases d with
   | bl k=>
     cases h2;exact zG (g:=g) (Q:=fun x H'=>∃k,x= .bl k/\Q k H') ⟨Z,B,δ, .bl b,E,h1,fun v H' s r=>⟨b,by unfold Rep at r;exact r,q H' s⟩⟩
   | _=>cases h2
def DW(g g':D->D->R D)(fa fb fc:FD):FD:=fun δ=>(fa δ).bind fun a=>(fb δ).bind fun b=>(g a b).bind fun r=>match r with
 | .bl true=>(fc δ).bind fun c=>g' b c
 | .bl false=> .ok (.bl false)
 | _=> .no
def wD:D->R Bool
 | .cy=> .ok false
 | .bl b=> .ok b
 | .int i=> .ok (i !=0)
 | .str x=>R.ba (decide (x.length<=sizeLine)) (.ok ((x.length:Int) !=0))
 | .lst ds=> .ok (!ds.isEmpty)
 | .tup ds=> .ok (!ds.isEmpty)
 | .dct _ _=> .no
def lF(f:FD):ar->R Bool:=fun δ=>(f δ).bind wD
theorem ay.isEmpty{K:W.Frag}{B:List Addr}{ds:List D}{xs:List V}(h:ay K B H ds xs):ds.isEmpty=xs.isEmpty:=by
 have:=h.length;cases ds <;> cases xs <;> simp_all
theorem ub{K:W.Frag}{B:List Addr}{d:D}{v:V}{b:Bool}(r:Rep K B H d v)(h:wD d= .ok b):x8 K v H b:=by
 cases d with
 | cy=>unfold Rep at r;subst r;cases h;exact rfl
 | bl k=>unfold Rep at r;subst r;cases h;exact rfl
 | int i=>unfold Rep at r;subst r;cases h;exact rfl
 | str x=>unfold Rep at r;subst r;obtain⟨h1,h2⟩:=R.aH h;cases h2;exact⟨of_decide_eq_true h1,rfl⟩
 | lst ds=>unfold Rep at r;obtain⟨a,xs,rfl,l,r⟩:=r;cases h;exact .inl ⟨xs,l.sq,by rw[r.isEmpty]⟩
 | tup ds=>unfold Rep at r;obtain⟨a,xs,rfl,l,r⟩:=r;cases h;exact .inr (.inl ⟨xs,l.sq,by rw[r.isEmpty]⟩)
 | dct _ _=>cases h
theorem Ab{a:Expr}(ha:PD X a f)(he:∀whole,isTrue a X.env whole=(do let v <-whole;standAt a.pos;holding [v] (truthy v)):=by intro _;rfl):PB X a (lF f):=
 (oX ha he).imp fun σ H Q ⟨Z,B,δ,b,E,hf,q⟩=>by
   obtain⟨d,h1,h2⟩:=R.af hf;exact⟨Z,B,δ,d,E,h1,fun v H' s r=>⟨b,ub r h2,q H' s⟩⟩
def IX(f g:ar->R Bool):ar->R Bool:=fun δ=>(f δ).bind fun b=>if b then g δ else .ok false
def DA(f g:ar->R Bool):ar->R Bool:=fun δ=>(f δ).bind fun b=>if b then .ok true else g δ
def oQ(f:ar->R Bool):ar->R Bool:=fun δ=>(f δ).bind fun b=> .ok (!b)
def zw(X:Cx)(e:Expr)(f:ar->R Bool):Prop:=PW X e (Bc X.K f)
theorem zw.pb{f:ar->R Bool}(h:zw X e f):PB X e f:=PW.pt h
theorem yd{f:ar->R Bool}(h:PB X a f):zw X (.BoolOp .Or [a] pos) f:=ur h
theorem As{rest:List Expr}{f g:ar->R Bool}(ha:PB X a f)(hb:zw X (.BoolOp .Or (b ::rest) pos) g):zw X (.BoolOp .Or (a ::b ::rest) pos) (DA f g):=by
 intro wh pins s σ H Q I ⟨Z,B,δ,k,E,hf,q⟩;refine yy ha hb wh pins s σ H Q I ?_;obtain⟨c,h1,h2⟩:=R.af hf;refine⟨Z,B,δ,c,E,h1,fun H1 s1=>?_⟩
 cases c with
 | true=>rw [if_pos rfl] at h2 ⊢;cases h2;exact q H1 s1
 | false=>rw [if_neg (by decide)] at h2 ⊢;exact⟨Z,B,δ,k,E.same s1,h2,fun H' s2=>q H' (s1.trans s2)⟩
theorem Aj{f:ar->R Bool}(ha:PB X a f):PB X (.UnaryOp .Not a pos) (oQ f):=(An ha).imp fun σ H Q ⟨Z,B,δ,k,E,hf,q⟩=>by
 obtain⟨c,h1,h2⟩:=R.af hf;cases h2;exact⟨Z,B,δ,c,E,h1,fun H1 s1=>q H1 s1⟩
def Bh(f:FD):ar->R Bool:=fun δ=>(f δ).bind fun d=>match d with | .bl b=> .ok b | _=> .no
def vw(f g:FD):FD:=fun δ=>(Bh f δ).bind fun b=>if b then g δ else .ok (.bl false)
def Ku(f g:FD):FD:=fun δ=>(Bh f δ).bind fun b=>if b then .ok (.bl true) else g δ
def H0(f:FD):FD:=fun δ=>(Bh f δ).bind fun b=> .ok (.bl (!b))
theorem y0{f:FD}{δ:ar}{b:Bool}(h:Bh f δ= .ok b):f δ= .ok (.bl b):=by
 obtain⟨d,h1,h2⟩:=R.af h;cases d with
 | bl k=>cases h2;exact h1
 | _=>cases h2
theorem zx{op}(h:PD X a f):PD X (.BoolOp op [a] pos) f:=um h
theorem AJ{rest:List Expr}(ha:PD X a f)(hb:PD X (.BoolOp .And (b ::rest) pos) g):PD X (.BoolOp .And (a ::b ::rest) pos) (vw f g):=(zS ha hb).imp fun σ H Q ⟨Z,B,δ,k,E,hf,q⟩=>by
 obtain⟨c,h1,h2⟩:=R.af hf;refine⟨Z,B,δ, .bl c,E,y0 h1,fun v H1 s1 r1=>⟨c,by unfold Rep at r1;exact r1,?_⟩⟩
 cases c with
 | true=>rw [if_pos rfl] at h2 ⊢;exact⟨Z,B,δ,k,E.same s1,h2,fun v H' s2 r2=>q v H' (s1.trans s2) r2⟩
 | false=>rw [if_neg (by decide)] at h2 ⊢;cases h2;exact q _ H1 s1 (by unfold Rep;rfl)
def Kc(c:ar->R Bool)(f g:FD):FD:=fun δ=>(c δ).bind fun b=>if b then f δ else g δ
def cq(X:Cx)(f:Value)(g:List D->R D):Prop:=
 ∀(pins:KQ) (s:Shared) (σ:St) (H:Hp) (B:List Addr) (ds:List D) (d:D) (xs:List V) (us:List Value),Inv X pins σ H s->(∀a∈B,∃o,H a=some o)->Vals xs us->ay X.K B H ds xs->g ds= .ok d->
  wpAny (model X.prog X.w) X.A (call f us) (EP X pins σ fun z H'=>aG H H'/\Rep X.K B H' d z) X.xe s
def aV(g:List D->R D)(fs:ar->R (List D)):FD:=fun δ=>(fs δ).bind g
theorem cq.r{f:Value}{g:List D->R D}(h:cq X f g):eX X f (fun xs H Q=>∃B ds d,(∀a∈B,∃o,H a=some o)/\ay X.K B H ds xs/\g ds= .ok d/\∀z H',aG H H'->Rep X.K B H' d z->Q z H'):=by
 intro pins s σ H xs us Q I rx ⟨B,ds,d,hb,hr,hg,q⟩;exact cN (h pins s σ H B ds d xs us I hb rx hr hg) fun z s' ⟨zv,H',I',r',s1,r1⟩=>⟨zv,H',I',r',q zv H' s1 r1⟩
theorem qx{K:W.Frag}{g:List D->R D}{fs:ar->R (List D)}{Q:VK}(h:tD K (aV g fs) σ H Q) :
 Hg K fs σ H fun vs H1=>∃B ds d,(∀a∈B,∃o,H1 a=some o)/\ay K B H1 ds vs/\g ds= .ok d/\∀z H',aG H1 H'->Rep K B H' d z->Q z H':=by
 obtain⟨Z,B,δ,d,E,hf,q⟩:=h;obtain⟨ds,h1,h2⟩:=R.af hf;exact⟨Z,B,δ,ds,E,h1,fun vs H1 s1 r1=>⟨B,ds,d,(E.same s1).bs,r1,h2,fun z H' s2 r2=>q z H' (s1.trans s2) r2⟩⟩
theorem vI{g:List D->R D}{x:Str}{id:String}{p pos:Pos}{e:Expr}{es:List Expr}{fs:ar->R (List D)}(hc:cq X (.builtin id) g)(hg:Gl X x)(hm:X.mg x=none)(hv:bootBuiltins x=some (.builtin id))(ha:vY X (e ::es) fs)(hn:x≠"__name__":=by decide)(ik:(x==("__debug__":Str))=false:=by decide)
 (he:starEach (e ::es) X.env=(false,eval e X.env) ::starEach es X.env:=by rfl) (fP:(backTo pos (starEach es X.env)).any (·.1)=false:=by rfl):PD X (.Call (.Name x p) (e ::es) [] pos) (aV g fs):=
 (jl hc.r hg hm hv ha hn ik he fP).imp fun σ H Q h=>qx h
theorem sk{g:List D->R D}{x:Str}{T:String}{p pos:Pos}{e:Expr}{es:List Expr}{fs:ar->R (List D)}(hc:cq X (.type T) g)(hg:Gl X x)(hm:X.mg x=none)(hv:bootBuiltins x=some (.type T))(ha:vY X (e ::es) fs)(hn:x≠"__name__":=by decide)(ik:(x==("__debug__":Str))=false:=by decide)
 (he:starEach (e ::es) X.env=(false,eval e X.env) ::starEach es X.env:=by rfl) (fP:(backTo pos (starEach es X.env)).any (·.1)=false:=by rfl):PD X (.Call (.Name x p) (e ::es) [] pos) (aV g fs):=
 (jD hc.r hg hm hv ha hn ik he fP).imp fun σ H Q h=>qx h
def xj(K:W.Frag)(n:Nat)(g:List D->R D):Sp:=fun vs H Q _=>vs.length=n/\∃B ds d,(∀a∈B,∃o,H a=some o)/\ay K B H ds vs/\g ds= .ok d/\∀z H',aG H H'->Rep K B H' d z->Q z H'
theorem xm{g:List D->R D}{k n:Nat}{f:Addr}{fd:FuncData}{ps:List Str}{x:Str}{p pos:Pos}{e:Expr}{es:List Expr}{fs:ar->R (List D)}
 (F:eU X.prog X.w X.K X.mg X.base mn k f fd ps (xj X.K n g)) (hr:dH k X.A) (hg:Gl X x) (hm:X.mg x=some (.ref f)) (hk:PySem.W.keepIn X.K (.ref f)=true) (hb:Binds X.K fd ps []) (ha:vY X (e ::es) fs)
 (hn:∀δ ds,fs δ= .ok ds->ds.length=n) (ik:(x==("__debug__":Str))=false:=by decide) (he:starEach (e ::es) X.env=(false,eval e X.env) ::starEach es X.env:=by rfl) (fP:(backTo pos (starEach es X.env)).any (·.1)=false:=by rfl) :
 PD X (.Call (.Name x p) (e ::es) [] pos) (aV g fs):=
 (mY F hr hg hm hk hb .nil yK ha ik he fP).imp fun σ H Q ⟨Z,B,δ,d,E,hf,q⟩=>by
   obtain⟨ds,h1,h2⟩:=R.af hf;refine⟨Z,B,δ,ds,E,h1,fun vs H1 s1 r1=>?_⟩
   show xj X.K n g (vs++[]) H1 Q E0;rw[List.append_nil];exact⟨by rw[<-r1.length];exact hn δ ds h1,B,ds,d,(E.same s1).bs,r1,h2,fun z H' s2 r2=>q z H' (s1.trans s2) r2⟩
end
end L2
end
section
namespace L2
open PySem PySem.Spec PyProof.Rows
inductive Out where
 | nx (δ:ar) | rt (d:D)
abbrev FS:=ar->R Out
structure Ev (Z B:List Addr) (H:Hp) (B':List Addr) (H':Hp):Prop where
 bf:de B H B' H'
 zs:∀b o,H b=some o->b∈Z->H' b=some o/\b∈B'
theorem Ev.trans{Z B B' CQ:List Addr}(a:Ev Z B H B' H')(b:Ev Z B' H' CQ jT):Ev Z B H CQ jT:=
 ⟨a.bf.trans b.bf,fun c o e z=>let⟨e1,_⟩:=a.zs c o e z;b.zs c o e1 z⟩
theorem Ev.same{Z B:List Addr}(zb:∀a∈Z,a∈B)(s:aG H H'):Ev Z B H B H':=⟨de.same s,fun b o e z=>⟨s b o e,zb b z⟩⟩
def BS(K:W.Frag)(Z B:List Addr)(H:Hp)(D:Ends):Out->Prop
 | .nx dC=>∀bR B' H',Ev Z B H B' H'->ee K Z B' H' bR dC->D.nx bR H'
 | .rt d=>∀v B' H',Ev Z B H B' H'->(∀a∈Z,a∈B')->Rep K B' H' d v->D.rt v H'
def sD(K:W.Frag)(F:FS):TS:=fun D σ H=>∃Z B δ o,ee K Z B H σ δ/\F δ= .ok o/\BS K Z B H D o
abbrev BD(X:Cx)(st:Stmt)(F:FS):Prop:=PS X st (sD X.K F)
abbrev rZ(X:Cx)(st:List Stmt)(F:FS):Prop:=mD X st (sD X.K F)
section
variable {X:Cx}
def HX:FS:=fun δ=> .ok (.nx δ)
def rK(F G:FS):FS:=fun δ=>(F δ).bind fun o=>match o with | .nx dC=>G dC | .rt d=> .ok (.rt d)
theorem y3{K:W.Frag}{F G:FS}{D:Ends}(h:sD K (rK F G) D σ H):BQ (sD K F) (sD K G) D σ H:=by
 obtain⟨Z,B,δ,o,E,hf,q⟩:=h;obtain⟨o1,h1,h2⟩:=R.af hf;refine⟨Z,B,δ,o1,E,h1,?_⟩;cases o1 with
 | nx cg=>
   intro A0 B1 H1 ev E1;refine⟨Z,B1,cg,o,E1,h2,?_⟩;cases o with
   | nx fG=>exact fun bR B' H' FC E'=>q bR B' H' (ev.trans FC) E'
   | rt d=>exact fun v B' H' FC z r=>q v B' H' (ev.trans FC) z r
 | rt d=>
   cases h2;exact q
theorem t_{st:Stmt}{rest:List Stmt}{F G:FS}(h1:BD X st F)(h2:rZ X rest G):rZ X (st ::rest) (rK F G):=(kJ h1 h2).imp fun D σ H h=>y3 h
theorem wx{st:Stmt}{F:FS}(h1:BD X st F):rZ X [st] F:=my h1
theorem ee.set{K:W.Frag}{Z B:List Addr}{σ:St}{δ:ar}(E:ee K Z B H σ δ){i:Nat}{d:D}{v:V}(hi:i < σ.length)(r:Rep K B H d v):ee K Z B H (σ.set i (some v)) (δ.set i (.val d)) where
 len:=by rw[List.length_set,List.length_set];exact E.len
 bs:=E.bs
 zb:=E.zb
 val:=fun j d' e=>by
  by_cases h:i=j
  .subst h;rw[List.getElem?_set_self (by rw[E.len];exact hi)] at e
   cases e;exact⟨v,List.getElem?_set_self hi,r⟩
  .rw [List.getElem?_set_ne h] at e ⊢;exact E.val j d' e
 bld:=fun j ds e=>by
  by_cases h:i=j
  .subst h;rw[List.getElem?_set_self (by rw[E.len];exact hi)] at e
   cases e
  .rw [List.getElem?_set_ne h] at e ⊢;exact E.bld j ds e
 dis:=fun j k a ds es e1 e2 e3 e4=>by
  by_cases h:i=j
  .subst h;rw[List.getElem?_set_self (by rw[E.len];exact hi)] at e1
   cases e1
  .by_cases h':i=k
   .subst h';rw[List.getElem?_set_self (by rw[E.len];exact hi)] at e2
    cases e2
   .rw [List.getElem?_set_ne h] at e1 e3;rw[List.getElem?_set_ne h'] at e2 e4;exact E.dis j k a ds es e1 e2 e3 e4
def sH(i:Nat)(f:FD):FS:=fun δ=>(f δ).bind fun d=>R.ba (decide (i < δ.length)) (.ok (.nx (δ.set i (.val d))))
theorem zW{K:W.Frag}{i:Nat}{D:Ends}(h:sD K (sH i f) D σ H):uH (tD K f) (l8 i) D σ H:=by
 obtain⟨Z,B,δ,o,E,hf,q⟩:=h;obtain⟨d,h1,h2⟩:=R.af hf;obtain⟨hi,h3⟩:=R.aH h2;cases h3;refine⟨Z,B,δ,d,E,h1,fun v H1 s1 r1=>?_⟩
 exact q _ B H1 (Ev.same E.zb s1) ((E.same s1).set (by rw[<-E.len];exact of_decide_eq_true hi) r1)
theorem xx{i:Nat}{pos pos':Pos}(hN:X.N.Nodup)(hi:X.N[i]? =some x)(hx:Loc X.env.scope x)(he:PD X e f)(hs:swapsWith e (some (.Name x pos')) pos.line X.env=pure false:=by rfl)(hf:X.fn x=true\/X.env.scope.names.lookup x=some .local:=by first | exact .inl rfl | exact .inr rfl | assumption) :
 BD X (.Assign [.Name x pos'] e pos) (sH i f):=(qg hN hi hx he hs hf).imp fun D σ H h=>zW h
def HN(i:Nat)(f:ar->R (List D)):FS:=fun δ=>(f δ).bind fun ds=>R.ba (decide (i < δ.length)) (.ok (.nx (δ.set i (.bld ds))))
def t5(δ:ar)(i:Nat):R (List D):=match δ[i]? with | some (.bld ds)=> .ok ds | _=> .no
def Ij(i:Nat)(f:FD):FS:=fun δ=>(f δ).bind fun d=>(t5 δ i).bind fun ds=>R.ba (decide (ds.length < sizeLine)) (.ok (.nx (δ.set i (.bld (ds++[d])))))
def Ia(i:Nat)(f:ar->R (List D)):FS:=fun δ=>(f δ).bind fun es=>(t5 δ i).bind fun ds=>R.ba (decide (ds.length+es.length<=sizeLine)) (.ok (.nx (δ.set i (.bld (ds++es)))))
def jB(i:Nat)(δ:ar):ar:=match δ[i]? with | some (.bld ds)=>δ.set i (.val (.lst ds)) | _=>δ
def Iq(i:Nat)(F:FS):FS:=fun δ=>F (jB i δ)
def rN(f:FD):FS:=fun δ=>(f δ).bind fun d=> .ok (.rt d)
theorem wm(he:PD X e f):BD X (.Return (some e) pos) (rN f):=(uz he).imp fun D σ H ⟨Z,B,δ,o,E,hf,q⟩=>by
 obtain⟨d,h1,h2⟩:=R.af hf;cases h2;exact⟨Z,B,δ,d,E,h1,fun v H1 s1 r1=>q v B H1 (Ev.same E.zb s1) E.zb r1⟩
def J2(c:ar->R Bool)(F G:FS):FS:=fun δ=>(c δ).bind fun b=>if b then F δ else G δ
abbrev FT:=D->ar->R ar
def gD(K:W.Frag)(t:FT):TG:=fun v σ H Q=>∃Z B δ d dC,ee K Z B H σ δ/\Rep K B H d v/\t d δ= .ok dC/\∀bR H',aG H H'->ee K Z B H' bR dC->bR.length=σ.length->Q bR H'
abbrev Bo(X:Cx)(tg:Expr)(t:FT):Prop:=PG X tg (gD X.K t)
def cj(i:Nat):FT:=fun d δ=>R.ba (decide (i < δ.length)) (.ok (δ.set i (.val d)))
theorem vj{i:Nat}{pos:Pos}(hN:X.N.Nodup)(hi:X.N[i]? =some x)(hx:Loc X.env.scope x)(hf:X.fn x=true\/X.env.scope.names.lookup x=some .local:=by first | exact .inl rfl | exact .inr rfl | assumption):Bo X (.Name x pos) (cj i):=
 (qR hN hi hx hf).imp fun v σ H Q ⟨Z,B,δ,d,dC,E,r,ht,q⟩=>by
   obtain⟨hi,h⟩:=R.aH ht;cases h;exact q _ H (aG.refl H) (E.set (by rw[<-E.len];exact of_decide_eq_true hi) r) (List.length_set ..)
abbrev uh:=List D->ar->R ar
def IG(K:W.Frag)(t:uh):sQ:=fun vs σ H Q=>∃Z B δ ds dC,ee K Z B H σ δ/\ay K B H ds vs/\t ds δ= .ok dC/\∀bR H',aG H H'->ee K Z B H' bR dC->bR.length=σ.length->Q bR H'
abbrev t8(X:Cx)(ts:List Expr)(t:uh):Prop:=vX X ts (IG X.K t)
theorem vX.imp{X:Cx}{t t':sQ}(h:vX X e t)(w:∀v σ H Q,t' v σ H Q->t v σ H Q):vX X e t':=fun pins s σ H v u Q I r hq=>h pins s σ H v u Q I r (w v σ H Q hq)
def j5:uh:=fun ds δ=>match ds with | []=> .ok δ | _=> .no
def dG(t:FT)(u:uh):uh:=fun ds δ=>match ds with | d ::r=>(t d δ).bind fun dC=>u r dC | []=> .no
theorem va:t8 X [] j5:=qV.imp fun vs σ H Q ⟨Z,B,δ,ds,dC,E,r,ht,q⟩=>by
 cases ds with
 | nil=>unfold ay at r;cases ht;exact⟨r,q σ H (aG.refl H) E rfl⟩
 | cons=>cases ht
theorem rR{u:uh}(h1:Bo X e t)(h2:t8 X es u)(hs:(assignEach (e ::es) X.env).map (·.2)=assign e X.env ::(assignEach es X.env).map (·.2):=by rfl):t8 X (e ::es) (dG t u):=
 (oI h1 h2 hs).imp fun vs σ H Q ⟨Z,B,δ,ds,dC,E,r,ht,q⟩=>by
   cases ds with
   | nil=>cases ht
   | cons d ds=>
     obtain⟨x,xs,rfl,r1,r2⟩:=r.bQ;obtain⟨cg,h1,h2⟩:=R.af ht;exact⟨x,xs,rfl,Z,B,δ,d,cg,E,r1,h1,fun A0 H1 s1 E1 l1=>⟨Z,B,cg,ds,dC,E1,r2.same s1,h2,fun qw H2 s2 E2 l2=>q qw H2 (s1.trans s2) E2 (l2.trans l1)⟩⟩
def j4(n:Nat)(t:uh):FT:=fun d δ=>match d with | .tup ds=>R.ba (decide (ds.length=n)) (t ds δ) | _=> .no
theorem wJ{k:Nat}{t:uh}{n:Nat}{pos:Pos}(hc:X.calm=true)(h:t8 X es t)(hn:(assignEach es X.env).length=n:=by rfl)(lJ:(assignEach es X.env).findIdx? (·.1)=none:=by rfl):Bo X (.Tuple es k pos) (j4 n t):=
 (vc hc h hn lJ).imp fun v σ H Q ⟨Z,B,δ,d,dC,E,r,ht,q⟩=>by
   cases d with
   | tup ds=>
     unfold Rep at r;obtain⟨a,xs,rfl,l,r⟩:=r;obtain⟨hl,h⟩:=R.aH ht;exact⟨a,xs,rfl,l.sq,by rw[<-r.length];exact of_decide_eq_true hl,Z,B,δ,ds,dC,E,r,h,q⟩
   | _=>cases ht
def IC(f:FD)(t:FT):FS:=fun δ=>(f δ).bind fun d=>(t d δ).bind fun dC=> .ok (.nx dC)
def ux(K:W.Frag)(B:List Addr)(H:Hp)(J:It)(ds:List D):Prop:=∀B' H',de B H B' H'->(∀(i:Nat) (d:D),ds[i]? =some d->J.go i H'/\∀x jT,J.yld i H' x jT->(∀a∈B',∃o,H' a=some o)->aG H' jT/\Rep K B' jT d x)/\J.stop ds.length H'
def iD(K:W.Frag)(f:ar->R (List D)):TI:=fun σ H R=>∃Z B δ ds,ee K Z B H σ δ/\f δ= .ok ds/\∀J H1,aG H H1->ux K B H1 J ds->R J H1
abbrev Di(X:Cx)(tg e:Expr)(f:ar->R (List D)):Prop:=PI X tg e (iD X.K f)
def di(f:FD):ar->R (List D):=fun δ=>(f δ).bind fun d=>match d with | .lst ds=> .ok ds | .tup ds=> .ok ds | _=> .no
theorem x9(h:PD X e f):Di X tg e (di f):=by
 intro pins s σ H RR I ⟨Z,B,δ,ds,E,hf,q⟩;obtain⟨d,h1,h2⟩:=R.af hf;refine cN (h pins s σ H (fun v H1=>aG H H1/\Rep X.K B H1 d v) I ⟨Z,B,δ,d,E,h1,fun v H1 s1 r1=>⟨s1,r1⟩⟩) fun v s1 ⟨x,H1,I1,r1,ss,rr⟩=>?_
 cases d with
 | lst es=>
   cases h2;unfold Rep at rr;obtain⟨a,xs,rfl,l,rr⟩:=rr;cases r1;obtain⟨its,rv,p,hz⟩:=I1.list l.sq;refine wpAny_pyIter_list p.isList ?_;refine⟨s1.heap.objs.size,[s1.heap.objs.size],_,_,H1,rfl,I1.kept (t':=s1.toks) fun b o e=>Heap.get?_push_of_some _ e,lM a _,⟨_,Heap.get?_push_size _ rfl,rfl,rfl⟩,fun b hb=>?_,q _ H1 ss fun B' H' pr=>?_⟩
   .have e:b=s1.heap.objs.size:=by simpa using hb
    subst e;exact I1.sj (Nat.le_refl _) (I1.hok.fresh (Nat.le_refl _))
   .have l':lu X.K B' H' a xs:=l.bf pr;have rr':=rr.bf pr;refine⟨fun i d hd=>?_,⟨xs,l'.sq,by rw[rr.length];exact Nat.le_refl _⟩⟩
    obtain⟨x,hx,rx⟩:=rr'.get hd;exact⟨⟨xs,x,l'.sq,hx⟩,fun y jT ⟨e1,e2⟩ _=>by
     subst e1;have:=e2 xs l'.sq;rw[hx] at this;cases this;exact⟨aG.refl _,rx⟩⟩
 | tup es=>
   cases h2;unfold Rep at rr;obtain⟨a,xs,rfl,l,rr⟩:=rr;cases r1;obtain⟨its,rv,p,hz⟩:=I1.tuple l.sq;refine wpAny_pyIter_tuple (show s1.heap.IsTuple a its.toArray from p) ?_
   refine⟨s1.heap.objs.size,[s1.heap.objs.size],_,_,H1,rfl,I1.kept (t':=s1.toks) fun b o e=>Heap.get?_push_of_some _ e,qo a _,⟨_,Heap.get?_push_size _ rfl,rfl,rfl⟩,fun b hb=>?_,q _ H1 ss fun B' H' pr=>?_⟩
   .have e:b=s1.heap.objs.size:=by simpa using hb
    subst e;exact I1.sj (Nat.le_refl _) (I1.hok.fresh (Nat.le_refl _))
   .have l':nT X.K B' H' a xs:=l.elim (fun z=> .inl ⟨(pr.rd z.2 z.1).2,(pr.rd z.2 z.1).1⟩) .inr
    have rr':=rr.bf pr;refine⟨fun i d hd=>?_,⟨xs,l'.sq,by rw[rr.length];exact Nat.le_refl _⟩⟩
    obtain⟨x,hx,rx⟩:=rr'.get hd;exact⟨⟨xs,x,l'.sq,hx⟩,fun y jT ⟨e1,e2⟩ _=>by
     subst e1;have:=e2 xs l'.sq;rw[hx] at this;cases this;exact⟨aG.refl _,rx⟩⟩
 | _=>cases h2
def eu(lo:Int)(n:Nat):List D:=(List.range n).map fun(i:Nat)=>D.int (lo+i)
theorem uL{K:W.Frag}{B:List Addr}(lo:Int)(n:Nat):ux K B H (Cj lo n) (eu lo n):=fun B' H' _=>by
 refine⟨fun i d hd=>?_,?_⟩
 .unfold eu at hd;rw[List.getElem?_map] at hd;cases e:(List.range n)[i]? with
  | none=>rw [e] at hd;cases hd
  | some j=>
    rw[e] at hd;cases hd;obtain⟨hi,ej⟩:=List.getElem?_eq_some_iff.mp e;rw[List.getElem_range] at ej;subst ej;rw[List.length_range] at hi;exact⟨hi,fun x jT ⟨e1,e2⟩ _=>by subst e1 e2;exact⟨aG.refl _,by unfold Rep;rfl⟩⟩
 .show n<=(eu lo n).length;unfold eu;rw[List.length_map,List.length_range];exact Nat.le_refl _
def gf(f:FD):ar->R (List D):=fun δ=>(f δ).bind fun d=>match d with | .int j=>R.ba (decide (-(2 ^ 62)<=j/\j < 2 ^ 62)) (.ok (eu 0 j.toNat)) | _=> .no
theorem pA{tg a:Expr}{p pos:Pos}(h:PD X a f)(hg:Gl X "range")(hm:X.mg "range"=none)(hs:starEach [a] X.env=[(false,eval a X.env)]:=by rfl):Di X tg (.Call (.Name "range" p) [a] [] pos) (gf f):=
 (lQ hg hm (c1 h eP hs) hs).imp fun σ H RR ⟨Z,B,δ,ds,E,hf,q⟩=>by
   obtain⟨d,h1,h2⟩:=R.af hf;cases d with
   | int j=>
     obtain⟨hb,h3⟩:=R.aH h2;cases h3;have hb:=of_decide_eq_true hb;refine⟨Z,B,δ, .int j,E,h1,fun v H1 s1 r1=>⟨j,?_,hb.1,hb.2,q _ H1 s1 (uL 0 _)⟩⟩
     unfold Rep at r1;rw[r1]
   | _=>cases h2
def Em(f g:FD):ar->R (List D):=fun δ=>(f δ).bind fun d=>(g δ).bind fun e=>match d,e with
 | .int i, .int j=>R.ba (decide (-(2 ^ 62)<=i/\i < 2 ^ 62/\ -(2 ^ 62)<=j/\j < 2 ^ 62)) (.ok (eu i (j - i).toNat)) | _,_=> .no
def yE(t:FT)(body:FS):List D->FS
 | [],δ=> .ok (.nx δ)
 | d ::ds,δ=>(t d δ).bind fun cg=>(body cg).bind fun o=>match o with | .nx fG=>yE t body ds fG | .rt r=> .ok (.rt r)
def Ig(it:ar->R (List D))(t:FT)(body:FS):FS:=fun δ=>(it δ).bind fun ds=>yE t body ds δ
def vx(c:ar->R Bool)(body:FS):Nat->FS
 | 0,_=> .no
 | n+1,δ=>(c δ).bind fun b=>if b then(body δ).bind fun o=>match o with | .nx fG=>vx c body n fG | .rt r=> .ok (.rt r) else .ok (.nx δ)
def Et(n:Nat)(c:ar->R Bool)(body:FS):FS:=fun δ=>vx c body n δ
def kL(δ:ar)(i:Nat):Sl:=match δ[i]? with | some (.val d)=> .val d | _=> .un
def kI(own:List Str)(kp:List Nat)(δ:ar):ar:=List.replicate own.length .un++kp.map (kL δ)
def jo(t:FT)(c:ar->R Bool)(f:FD)(δ:ar):List D->R (List D)
 | []=> .ok []
 | d ::ds=>(t d δ).bind fun cg=>(c cg).bind fun b=>if b then(f cg).bind fun y=>(jo t c f δ ds).bind fun ys=> .ok (y ::ys) else jo t c f δ ds
def dA(it:ar->R (List D))(t:FT)(c:ar->R Bool)(f:FD)(own:List Str)(kp:List Nat):ar->R (List D):=fun δ=>(it δ).bind fun ds=>R.ba (decide (ds.length<=sizeLine)) (jo t c f (kI own kp δ) ds)
theorem yV{K:W.Frag}{Z B B':List Addr}{H H':Hp}{δ:ar}{own:List Str}{kp:List Nat}(E:ee K Z B H σ δ)(p:de B H B' H')(hB:∀a∈B',∃o,H' a=some o):ee K [] B' H' (ck own kp σ) (kI own kp δ) where
 len:=by unfold ck kI;simp
 bs:=hB
 zb:=fun a ha=>by cases ha
 val:=fun i d e=>by
  unfold kI at e;unfold ck;by_cases hi:i < own.length
  .rw [List.getElem?_append_left (by simpa using hi),List.getElem?_replicate] at e
   split at e <;> cases e
  .rw [List.getElem?_append_right (by simpa using hi),List.length_replicate,List.getElem?_map] at e ⊢
   cases q:kp[i - own.length]? with
   | none=>rw [q] at e;cases e
   | some j=>
     rw[q] at e;have e:kL δ j= .val d:=Option.some.inj e;unfold kL at e;split at e
     .rename_i d' ed;cases e;obtain⟨v,h1,h2⟩:=E.val j d ed;exact⟨v,by simp [h1],h2.bf p⟩
     .cases e
 bld:=fun i ds e=>by
  unfold kI at e;by_cases hi:i < own.length
  .rw [List.getElem?_append_left (by simpa using hi),List.getElem?_replicate] at e
   split at e <;> cases e
  .rw [List.getElem?_append_right (by simpa using hi),List.length_replicate,List.getElem?_map] at e
   cases q:kp[i - own.length]? with
   | none=>rw [q] at e;cases e
   | some j=>
     rw[q] at e;have e:kL δ j= .bld ds:=Option.some.inj e;unfold kL at e;split at e <;> cases e
 dis:=fun i j a ds es e=>by
  unfold kI at e;by_cases hi:i < own.length
  .rw [List.getElem?_append_left (by simpa using hi),List.getElem?_replicate] at e
   split at e <;> cases e
  .rw [List.getElem?_append_right (by simpa using hi),List.length_replicate,List.getElem?_map] at e
   cases q:kp[i - own.length]? with
   | none=>rw [q] at e;cases e
   | some j=>
     rw[q] at e;have e:kL δ j= .bld ds:=Option.some.inj e;unfold kL at e;split at e <;> cases e
theorem mX{K:W.Frag}{it:ar->R (List D)}{c:ar->R Bool}{own:List Str}{kp:List Nat}{Q:VK}(h:tN K (dA it t c f own kp) σ H Q) :
 qI (iD K it) (gD K t) (Bc K c) (tD K f) own kp σ H Q:=by
 obtain⟨Z,B,δ,ds,E,hf,q⟩:=h;obtain⟨es,h1,h2⟩:=R.af hf;obtain⟨hl,h3⟩:=R.aH h2;have hl:=of_decide_eq_true hl;refine⟨Z,B,δ,es,E,h1,fun J H1 s1 ir Dd hD=>?_⟩
 have E1:=E.same s1;have pD:de B H1 (Dd ::B) (upd H1 Dd (.lst [])):=jh hD;refine⟨fun i m ys H'=>m=es.length - i/\i<=es.length/\ys.length<=i/\H' Dd=some (.lst ys)/\aG H1 H'/\∃done rest,ds=done++rest/\ay K (Dd ::B) H' done ys/\jo t c f (kI own kp δ) (es.drop i)= .ok rest,
  ⟨es.length,rfl,Nat.zero_le _,Nat.le_refl _,aU,bt hD,[],ds,rfl,ay.nil,by simpa using h3⟩,?_⟩
 rintro i m ys H' ⟨rfl,hi,hy,hDl,ss,done,rest,rfl,rd,hc⟩;have dB:Dd ∉ B:=fun hb=>by obtain⟨o,ho⟩:=E1.bs Dd hb;rw [hD] at ho;cases ho
 have p':de B H1 (Dd ::B) H':=fun b o e nb=>⟨ss b o e,fun hb=>by
  rcases List.mem_cons.mp hb with z | z
  .exact aX e hD z
  .exact nb z⟩
 have hB':∀a∈Dd ::B,∃o,H' a=some o:=fun a ha=>by
  rcases List.mem_cons.mp ha with z | z
  .subst z;exact⟨_,hDl⟩
  .obtain⟨o,ho⟩:=E1.bs a z;exact⟨o,ss a o ho⟩
 obtain⟨go,stop⟩:=ir (Dd ::B) H' p';by_cases gE:i < es.length
 .have hd:es[i]? =some es[i]:=List.getElem?_eq_getElem gE;have hdrop:es.drop i=es[i] ::es.drop (i+1):=List.drop_eq_getElem_cons gE;rw[hdrop] at hc;obtain⟨cg,h4,h5⟩:=R.af hc;obtain⟨b,h6,h7⟩:=R.af h5;obtain⟨g1,g2⟩:=go i _ hd;refine .inr ⟨g1,fun x H2 y=>?_⟩
  obtain⟨sy,ry⟩:=g2 x H2 y hB';have Ec:ee K [] (Dd ::B) H2 (ck own kp σ) (kI own kp δ):=yV E1 (p'.trans (de.same sy)) fun a ha=>let⟨o,ho⟩:=hB' a ha;⟨o,sy a o ho⟩
  refine⟨[],Dd ::B,kI own kp δ,es[i],cg,Ec,ry,h4,fun yR H3 s3 E3 _=>⟨[],Dd ::B,cg,b,E3,h6,fun H4 s4=>?_⟩⟩
  have sAll:aG H' H4:=sy.trans (s3.trans s4);cases b with
  | true=>
    rw[if_pos rfl] at h7;refine wW ?_;obtain⟨yv,h8,h9⟩:=R.af h7;obtain⟨rs,Fq,Fj⟩:=R.af h9;cases Fj;refine⟨[],Dd ::B,cg,yv,E3.same s4,h8,fun v H5 s5 r5=>?_⟩
    have s':aG H' H5:=sAll.trans s5;have Fm:H5 Dd=some (.lst ys):=s' Dd _ hDl;have pu:de (Dd ::B) H5 (Dd ::B) (upd H5 Dd (.lst (ys++[v]))):=fun b o e nb=>⟨by rw[aW (fun(z:b=Dd)=>nb (by rw[z];exact List.mem_cons_self))];exact e,nb⟩
    refine⟨Fm,by omega,es.length - (i+1),by omega,rfl,gE,by rw[List.length_append,List.length_singleton];omega,aU,fun b o e=>?_,done++[yv],rs,by simp,((rd.same s').append (ay.cons r5 ay.nil)).bf pu,Fq⟩
    rw[aW (aX e hD)];exact s' b o (ss b o e)
  | false=>
    rw[if_neg (by decide)] at h7
    refine xO ?_;exact⟨es.length - (i+1),by omega,rfl,gE,by omega,sAll Dd _ hDl,ss.trans sAll,done,rest,rfl,rd.same sAll,h7⟩
 .have e:i=es.length:=by omega
  subst e;rw[List.drop_length] at hc;cases hc;rw[List.append_nil] at q;exact .inl ⟨stop,q Dd ys H' (s1.trans ss) (s1.free hD) hDl rd⟩
theorem x5{scope:Scope}{own:List Str}{kp:List Nat}{kn:List Str}{tg iter elt:Expr}{ifs:List Expr}{it:ar->R (List D)}{t:FT}{c:ar->R Bool}{f:FD}{pos:Pos}(hc:X.calm=true)(C:bN X scope own kp kn)(hi:Di X tg iter it)
 (hg:∀fp s H,Bo (aP X scope (own++kn) fp s H) tg t) (qv:∀fp s H,lI (aP X scope (own++kn) fp s H) ifs (Bc X.K c)) (he:∀fp s H,PD (aP X scope (own++kn) fp s H) elt f)
 (hs:∀x,foldedSetIterable iter X.env x=pure x:=by intro _;rfl):PN X (.ListComp elt [⟨tg,iter,ifs,0⟩] scope pos) (dA it t c f own kp):=
 (qJ hc C hi hg qv he hs).imp fun σ H Q h=>mX h
def iJ:ar->R Bool:=fun _=> .ok true
theorem tf:lI X [] (Bc X.K iJ):=fun pins s σ H Q I ⟨Z,B,δ,b,E,hf,q⟩=>oP pins s σ H Q I (by cases hf;exact q H (aG.refl H))
end
def fV(N:List Str)(ds:List D):ar:=ds.map .val++List.replicate (N.length - ds.length) .un
def zO(N:List Str)(F:FS):List D->R D:=fun ds=>(F (fV N ds)).bind fun o=>match o with | .rt d=> .ok d | .nx _=> .ok .cy
theorem wF{K:W.Frag}{B:List Addr}{H:Hp}{N:List Str}{ds:List D}{vs:List V}(hB:∀a∈B,∃o,H a=some o)(r:ay K B H ds vs):ee K B B H (start N vs) (fV N ds) where
 len:=by unfold start fV;simp [r.length]
 bs:=hB
 zb:=fun a ha=>ha
 val:=fun i d e=>by
  unfold fV at e;unfold start;by_cases hi:i < ds.length
  .rw [List.getElem?_append_left (by simpa using hi),List.getElem?_map] at e
   cases q:ds[i]? with
   | none=>rw [q] at e;cases e
   | some d'=>
     rw[q] at e;cases e;obtain⟨x,h1,h2⟩:=r.get q;exact⟨x,by rw[List.getElem?_append_left (by rw[List.length_map,<-r.length];exact hi),List.getElem?_map,h1];rfl,h2⟩
  .rw [List.getElem?_append_right (by simpa using hi),List.getElem?_replicate] at e
   split at e <;> cases e
 bld:=fun i es e=>by
  unfold fV at e;by_cases hi:i < ds.length
  .rw [List.getElem?_append_left (by simpa using hi),List.getElem?_map] at e
   cases q:ds[i]? with
   | none=>rw [q] at e;cases e
   | some d'=>rw [q] at e;cases e
  .rw [List.getElem?_append_right (by simpa using hi),List.getElem?_replicate] at e
   split at e <;> cases e
 dis:=fun i j a es fs e=>by
  unfold fV at e;by_cases hi:i < ds.length
  .rw [List.getElem?_append_left (by simpa using hi),List.getElem?_map] at e
   cases q:ds[i]? with
   | none=>rw [q] at e;cases e
   | some d'=>rw [q] at e;cases e
  .rw [List.getElem?_append_right (by simpa using hi),List.getElem?_replicate] at e
   split at e <;> cases e
theorem wq{P:Program}{w:World}{K:W.Frag}{mg:KY}{base:Heap}{x qual:Str}{st:Stmt}{f:Addr}{fd:FuncData}{N ps:List Str}{k:Nat}{F:FS}(Fn:pF K x qual st f fd)(S:bH N ps (aL st))
 (dZ:∀(df:Value) (A:Around) (outer:List Env) (s:Shared) (H:Hp) (E:XK),dH k (A.deeper (envOfC qual (aL st) s.heap.objs.size f df))->
   rZ (gU mn P w K mg base N qual (aL st) f df A outer s H E).xl (bw st) F):eU P w K mg base mn (k+1) f fd ps (xj K ps.length (zO N F)):=by
 refine Fn.ok S (fun vs H Q E h=>h.1) (fun df A outer s H vs Q E hr h=>⟨_,dZ df A outer s H E hr,?_⟩)
 obtain⟨_,B,ds,d,hB,r,hg,q⟩:=h;obtain⟨o,h1,h2⟩:=R.af hg;refine⟨B,B,fV N ds,o,wF hB r,h1,?_⟩;have sm:∀{B':List Addr} {H':Hp},Ev B B H B' H'->aG H H':=fun {B' H'} ev b u e=>by
  by_cases hb:b∈B
  .exact(ev.zs b u e hb).1
  .exact(ev.bf b u e hb).1
 cases o with
 | nx dC=>
   cases h2;exact fun bR B' H' ev _=>q _ H' (sm ev) (by unfold Rep;rfl)
 | rt d'=>
   cases h2;exact fun v B' H' ev z rr=>q v H' (sm ev) (rr.bf fun b o e nb=>⟨e,fun hb=>nb (z b hb)⟩)
end L2
end
section
namespace L2
open PySem PySem.Spec PyProof.Rows
theorem Rep.int{K:W.Frag}{B:List Addr}{i:Int}{v:V}:Rep K B H (.int i) v↔v= .int i:=by unfold Rep;exact Iff.rfl
theorem Rep.bl{K:W.Frag}{B:List Addr}{i:Bool}{v:V}:Rep K B H (.bl i) v↔v= .bl i:=by unfold Rep;exact Iff.rfl
theorem Rep.str{K:W.Frag}{B:List Addr}{v:V}:Rep K B H (.str i) v↔v= .str i:=by unfold Rep;exact Iff.rfl
theorem Rep.cy{K:W.Frag}{B:List Addr}{v:V}:Rep K B H .cy v↔v= .cy:=by unfold Rep;exact Iff.rfl
theorem Rep.lst{K:W.Frag}{B:List Addr}{ds:List D}{v:V}:Rep K B H (.lst ds) v↔∃a xs,v= .ref a/\lu K B H a xs/\ay K B H ds xs:=by rw[Rep]
theorem Rep.tup{K:W.Frag}{B:List Addr}{ds:List D}{v:V}:Rep K B H (.tup ds) v↔∃a xs,v= .ref a/\nT K B H a xs/\ay K B H ds xs:=by rw[Rep]
section
variable {X:Cx}
theorem iW.of{f:Value->Value->Sem Value}{r:R2}{g:D->D->R D}(h:j_ X f r)
 (w:∀(B:List Addr) (H:Hp) (da db d:D) (x y:V) (Q:VK),(∀a∈B,∃o,H a=some o)->Rep X.K B H da x->Rep X.K B H db y->g da db= .ok d->(∀z H',aG H H'->Rep X.K B H' d z->Q z H')->r x y H Q):iW X f g:=by
 intro pins s σ H B da db d x y v u I hb rx ry ra rb hg;exact h pins s σ H x y v u _ I rx ry (w B H da db d x y _ hb ra rb hg fun z H' s1 r1=>⟨s1,r1⟩)
theorem cq.of{f:Value}{r:List V->Hp->VK->Prop}{g:List D->R D}(h:eX X f r)
 (w:∀(B:List Addr) (H:Hp) (ds:List D) (d:D) (xs:List V) (Q:VK),(∀a∈B,∃o,H a=some o)->ay X.K B H ds xs->g ds= .ok d->(∀z H',aG H H'->Rep X.K B H' d z->Q z H')->r xs H Q):cq X f g:=by
 intro pins s σ H B ds d xs us I hb rx rs hg;exact h pins s σ H xs us _ I rx (w B H ds d xs _ hb rs hg fun z H' s1 r1=>⟨s1,r1⟩)
theorem cq.or{f:Value}{g g1 g2:List D->R D}(h1:cq X f g1)(h2:cq X f g2)(e:∀a d,g a= .ok d->g1 a= .ok d\/g2 a= .ok d):cq X f g:=by
 intro pins s σ H B ds d xs us I hb rx rs hg;rcases e ds d hg with q | q
 .exact h1 pins s σ H B ds d xs us I hb rx rs q
 .exact h2 pins s σ H B ds d xs us I hb rx rs q
def n5(C:Int->Int->Bool)(g:Int->Int->Int):D->D->R D
 | .int i, .int j=>R.ba (C i j) (.ok (.int (g i j)))
 | _,_=> .no
theorem vv{f:Value->Value->Sem Value}{C:Int->Int->Bool}{Cp:Int->Int->Prop}{g:Int->Int->Int}(h:j_ X f (rI Cp fun i j=> .int (g i j)))(hc:∀i j,C i j=true->Cp i j):iW X f (n5 C g):=
 iW.of h fun B H da db d x y Q _ ra rb hg q=>by
  unfold n5 at hg;split at hg
  .obtain⟨h1,h2⟩:=R.aH hg;cases h2;exact⟨_,_,Rep.int.mp ra,Rep.int.mp rb,hc _ _ h1,q _ H (aG.refl H) (Rep.int.mpr rfl)⟩
  .cases hg
def rS(g:Int->Int->Int):D->D->R D
 | .int i, .int j=> .ok (.int (g i j))
 | _,_=> .no
theorem yW{f:Value->Value->Sem Value}{g:Int->Int->Int}(h:j_ X f (yN fun i j=> .int (g i j))):iW X f (rS g):=
 iW.of h fun B H da db d x y Q _ ra rb hg q=>by
  unfold rS at hg;split at hg
  .cases hg;exact⟨_,_,Rep.int.mp ra,Rep.int.mp rb,q _ H (aG.refl H) (Rep.int.mpr rfl)⟩
  .cases hg
def rQ(g:Int->Int->Bool):D->D->R D
 | .int i, .int j=> .ok (.bl (g i j))
 | _,_=> .no
theorem yO{f:Value->Value->Sem Value}{g:Int->Int->Bool}(h:j_ X f (yN fun i j=> .bl (g i j))):iW X f (rQ g):=
 iW.of h fun B H da db d x y Q _ ra rb hg q=>by
  unfold rQ at hg;split at hg
  .cases hg;exact⟨_,_,Rep.int.mp ra,Rep.int.mp rb,q _ H (aG.refl H) (Rep.bl.mpr rfl)⟩
  .cases hg
abbrev pR:D->D->R D:=rS fun i j=>i - j
theorem qO:iW X (binaryOp .Sub) pR:=yW Aa
abbrev jY:D->D->R D:=n5 (fun _ j=>decide (0 < j/\j < 1073741824)) fun i j=>i / j
theorem nH:iW X (binaryOp .FloorDiv) jY:=vv xC fun i j h=>(of_decide_eq_true h:0 < j/\j < 1073741824)
abbrev jn:D->D->R D:=n5 (fun _ j=>decide (0 < j)) fun i j=>i % j
theorem jW:iW X (binaryOp .Mod) jn:=vv Ad fun i j h=>of_decide_eq_true h
abbrev Cd:D->D->R D:=n5 (fun i j=>decide (0<=j/\j<=1000000/\i.natAbs < 2 ^ 64)) fun i j=>i ^ j.toNat
theorem Cv:iW X (binaryOp .Pow) Cd:=vv Ag fun i j h=>(of_decide_eq_true h:0<=j/\j<=1000000/\i.natAbs < 2 ^ 64)
abbrev IK:D->D->R D:=n5 (fun _ j=>decide (0<=j)) fun i j=>i / 2 ^ j.toNat
abbrev JR:D->D->R D:=rS fun i j=>Builtin.bitAnd i j
abbrev J1:D->D->R D:=rS fun i j=>Builtin.bitOr i j
abbrev JZ:D->D->R D:=rS fun i j=>Builtin.bitXor i j
abbrev JW:D->D->R D:=rQ fun i j=>decide (i < j)
abbrev JU:D->D->R D:=rQ fun i j=>decide (i<=j)
abbrev sM:D->D->R D:=rQ fun i j=>decide (j < i)
theorem rE:iW X (compareOp .Gt) sM:=yO BK
abbrev Gp:D->D->R D:=rQ fun i j=>decide (j<=i)
theorem DX:iW X (compareOp .GtE) Gp:=yO BG
theorem lu.ue{K:W.Frag}{B:List Addr}{H:Hp}{a:Addr}{xs:List V}(h:H a=some (.lst xs))(n:a ∉ B):lu K B H a xs:= .inl ⟨n, .inl h⟩
theorem Inv.Cz{pins:KQ}{s:Shared}{a:Addr}{xs:List V}{B:List Addr}(I:Inv X pins σ H s)(h:lu X.K B H a xs):∃(its:List Value) (n:Nat),Vals xs its/\s.heap.get? a=some {cls:= .type "list",data:= .seq its.toArray n}/\xs.length<=sizeLine:=by
 rcases h with⟨_,h⟩ | ⟨its,n,hk,hz,r⟩
 .obtain⟨z,its,n,r,e⟩:=h.ok I.hok;exact⟨its,n,r,e,z⟩
 .exact⟨its,n,r,I.ve a _ hk,hz⟩
theorem xY:j_ X (binaryOp .Add) (fun x y H Q=>∃B l b xs zs,x= .ref l/\y= .ref b/\lu X.K B H l xs/\lu X.K B H b zs/\xs.length+zs.length<=sizeLine/\∀p,H p=none->Q (.ref p) (upd H p (.lst (xs++zs)))):=by
 intro pins s σ H x y v u Q I rx ry h;obtain⟨B,l,b,xs,zs,rfl,rfl,hH,hB,hz,q⟩:=h;cases rx;cases ry;obtain⟨its,n,r,e,_⟩:=I.Cz hH;obtain⟨qu,n2,r2,e2,_⟩:=I.Cz hB;have l1:=r.length;have l2:=r2.length;refine PySem.P.add_list e e2 ?_ (by rw[List.size_toArray,List.size_toArray];omega)
 have ea:its.toArray++qu.toArray=(its++qu).toArray:=by simp
 rw[ea];exact⟨.ref _,_,I.Av (t':=s.toks) (r.append r2) (by rw[List.length_append];omega),rfl,q _ I.fresh⟩
def cL:D->D->R D
 | .int i, .int j=> .ok (.int (i+j))
 | .str a, .str b=>R.ba (decide (a.length+b.length<=sizeLine)) (.ok (.str (a++b)))
 | .lst a, .lst b=>R.ba (decide (a.length+b.length<=sizeLine)) (.ok (.lst (a++b)))
 | _,_=> .no
theorem dY:iW X (binaryOp .Add) cL:=by
 intro pins s σ H B da db d x y v u I hb rx ry ra rb hg;unfold cL at hg;split at hg
 .cases hg;exact y9 pins s σ H x y v u _ I rx ry ⟨_,_,Rep.int.mp ra,Rep.int.mp rb,aG.refl H,Rep.int.mpr rfl⟩
 .obtain⟨h1,h2⟩:=R.aH hg;cases h2;exact pW pins s σ H x y v u _ I rx ry ⟨_,_,Rep.str.mp ra,Rep.str.mp rb,of_decide_eq_true h1,aG.refl H,Rep.str.mpr rfl⟩
 .obtain⟨h1,h2⟩:=R.aH hg;cases h2;obtain⟨a1,FY,rfl,l1,r1⟩:=Rep.lst.mp ra;obtain⟨a2,Jn,rfl,l2,r2⟩:=Rep.lst.mp rb;refine xY pins s σ H _ _ v u _ I rx ry ⟨B,a1,a2,FY,Jn,rfl,rfl,l1,l2,by rw[<-r1.length,<-r2.length];exact of_decide_eq_true h1,fun p hp=>⟨bt hp,Rep.lst.mpr ⟨p,_,rfl, .ue aU fun ha=>?_,(r1.append r2).same (bt hp)⟩⟩⟩
  obtain⟨o,ho⟩:=hb p ha;rw[hp] at ho;cases ho
 .cases hg
theorem wt:j_ X (binaryOp .Mult) (fun x y H Q=>∃z n,x= .str z/\y= .int n/\MulOk z n/\Q (.str (Txt.mul z n)) H):=by
 intro pins s σ H x y v u Q I rx ry h;obtain⟨z,n,rfl,rfl,hm,q⟩:=h;obtain⟨t,rfl⟩:=rx;obtain⟨t',rfl⟩:=ry;exact SB.mul hm fun t2 k=>⟨.str _,H,I.tok _,⟨_,rfl⟩,q⟩
end
end L2
end
section
namespace L2
open PySem PySem.Spec PyProof.Rows
section
variable {X:Cx}
theorem mulOk_of{x:Str}{n:Int}(h1: -(2 ^ 63)<=n)(h2:n < 2 ^ 63)(h3:x.length*n.toNat<=sizeLine):MulOk x n:=by
 refine⟨by simp only[Bool.or_eq_false_iff,decide_eq_false_iff_not];omega,fun hn _=>?_,fun hn _=>?_⟩
 .have hz:sizeLine=16777216:=sizeLine_eq;have e:(n.toNat:Int)=n:=by omega
  have h4:(x.length:Int)*n<=16777216:=by
   have:((x.length*n.toNat:Nat):Int)<=((16777216:Nat):Int):=Int.ofNat_le.mpr (by omega)
   rw[Int.natCast_mul,e] at this;exact this
  have:(x.length:Int)<=(2 ^ 63 - 1) / n:=(Int.le_ediv_iff_mul_le (by omega)).mpr (by omega)
  omega
 .unfold Builtin.Str.tooLong;exact decide_eq_false (by omega)
def eV:D->D->R D
 | .int i, .int j=>R.ba (decide ((-(2 ^ 64) < i/\i < 2 ^ 64)\/(-(2 ^ 64) < j/\j < 2 ^ 64))) (.ok (.int (i*j)))
 | .str x, .int n=>R.ba (decide (-(2 ^ 63)<=n/\n < 2 ^ 63/\x.length*n.toNat<=sizeLine)) (.ok (.str (Txt.mul x n)))
 | _,_=> .no
theorem ix:iW X (binaryOp .Mult) eV:=by
 intro pins s σ H B da db d x y v u I hb rx ry ra rb hg;unfold eV at hg;split at hg
 .obtain⟨h1,h2⟩:=R.aH hg;cases h2;have h1:=of_decide_eq_true h1;exact Ap pins s σ H x y v u _ I rx ry ⟨_,_,Rep.int.mp ra,Rep.int.mp rb,h1,aG.refl H,Rep.int.mpr rfl⟩
 .obtain⟨h1,h2⟩:=R.aH hg;cases h2;have h1:=of_decide_eq_true h1;exact wt pins s σ H x y v u _ I rx ry ⟨_,_,Rep.str.mp ra,Rep.int.mp rb,mulOk_of h1.1 h1.2.1 h1.2.2,aG.refl H,Rep.str.mpr rfl⟩
 .cases hg
mutual
def toPy:D->PyData
 | .cy=> .none
 | .bl b=> .bool b
 | .int i=> .int i
 | .str x=> .str x
 | .lst ds=> .list (gy ds)
 | .tup ds=> .tuple (gy ds)
 | .dct _ _=> .dict []
def gy:List D->List PyData
 | []=>[]
 | d ::ds=>toPy d ::gy ds
end
mutual
def dt:D->Bool
 | .dct _ _=>false
 | .lst ds=>e_ ds
 | .tup ds=>e_ ds
 | _=>true
def e_:List D->Bool
 | []=>true
 | d ::ds=>dt d && e_ ds
end
mutual
theorem Rep.reads{pins:KQ}{s:Shared}{B:List Addr}(I:Inv X pins σ H s):∀{d:D} {v:V} {u:Value},dt d=true->Rep X.K B H d v->RelV v u->∃as,Reads s.heap u (toPy d) as
 | .cy,v,u,_,r,q=>by rw[Rep.cy.mp r] at q;cases q;unfold toPy;exact⟨_, .none⟩
 | .bl b,v,u,_,r,q=>by rw[Rep.bl.mp r] at q;cases q;unfold toPy;exact⟨_, .bool b⟩
 | .int i,v,u,_,r,q=>by rw[Rep.int.mp r] at q;obtain⟨t,rfl⟩:=q;unfold toPy;exact⟨_, .int i t⟩
 | .str x,v,u,_,r,q=>by rw[Rep.str.mp r] at q;obtain⟨t,rfl⟩:=q;unfold toPy;exact⟨_, .str x t⟩
 | .lst ds,v,u,hp,r,q=>by
   obtain⟨a,xs,rfl,l,rs⟩:=Rep.lst.mp r;cases q;obtain⟨its,rv,⟨o,n,e,hc,hd,he⟩,_⟩:=I.list l.sq;obtain⟨as,ra⟩:=ay.reads I (by unfold dt at hp;exact hp) rs rv
   unfold toPy;exact⟨_, .list e hc he (by simpa using ra)⟩
 | .tup ds,v,u,hp,r,q=>by
   obtain⟨a,xs,rfl,l,rs⟩:=Rep.tup.mp r;cases q;obtain⟨its,rv,⟨o,e,hc,n,hd⟩,_⟩:=I.tuple l.sq;obtain⟨as,ra⟩:=ay.reads I (by unfold dt at hp;exact hp) rs rv
   unfold toPy;exact⟨_, .tuple e hc hd (by simpa using ra)⟩
 | .dct _ _,v,u,hp,r,q=>by unfold dt at hp;cases hp
theorem ay.reads{pins:KQ}{s:Shared}{B:List Addr}(I:Inv X pins σ H s):∀{ds:List D} {vs:List V} {us:List Value},e_ ds=true->ay X.K B H ds vs->Vals vs us->∃as,ReadsAll s.heap us (gy ds) as
 | [],vs,us,_,r,q=>by unfold ay at r;subst r;cases q;unfold gy;exact⟨_, .nil⟩
 | d ::ds,vs,us,hp,r,q=>by
   obtain⟨x,xs,rfl,r1,r2⟩:=r.bQ;cases q with
   | cons q1 q2=>
     unfold e_ at hp;obtain⟨h1,h2⟩:=Bool.and_eq_true_iff.mp hp;obtain⟨as,a1⟩:=Rep.reads I h1 r1 q1;obtain⟨bs,a2⟩:=ay.reads I h2 r2 q2;unfold gy;exact⟨_, .cons a1 a2⟩
end
def Bk:D->D->R Bool
 | .int i, .int j=> .ok (decide (i=j))
 | .str x, .str y=> .ok (decide (x=y))
 | .bl a, .bl b=> .ok (decide (a=b))
 | d,e=>R.ba (dt d && dt e && SeqAt.shaped (toPy d) && SeqAt.shaped (toPy e)) (.ok (PyData.eqv (toPy d) (toPy e)))
def qC(d e:D):R D:=(Bk d e).bind fun b=> .ok (.bl b)
def v7(d e:D):R D:=(Bk d e).bind fun b=> .ok (.bl (!b))
theorem oj(hu:X.A.units+64 < cLine):iW X (compareOp .Eq) qC:=by
 intro pins s σ H B da db d x y v u I hb rx ry ra rb hg;obtain⟨b,h1,h2⟩:=R.af hg;cases h2;unfold Bk at h1;split at h1
 .cases h1;rename_i i j;have:=uC pins s σ H x y v u (fun z H'=>aG H H'/\Rep X.K B H' (.bl (decide (i=j))) z) I rx ry
  rw[Rep.int.mp ra,Rep.int.mp rb] at this;refine this ⟨rfl,aG.refl H,Rep.bl.mpr ?_⟩;simp [V.int.injEq]
 .cases h1;rename_i i j;have:=uC pins s σ H x y v u (fun z H'=>aG H H'/\Rep X.K B H' (.bl (decide (i=j))) z) I rx ry
  rw[Rep.str.mp ra,Rep.str.mp rb] at this;refine this ⟨rfl,aG.refl H,Rep.bl.mpr ?_⟩;simp [V.str.injEq]
 .cases h1;rename_i i j;have:=uC pins s σ H x y v u (fun z H'=>aG H H'/\Rep X.K B H' (.bl (decide (i=j))) z) I rx ry
  rw[Rep.bl.mp ra,Rep.bl.mp rb] at this;refine this ⟨rfl,aG.refl H,Rep.bl.mpr ?_⟩;simp [V.bl.injEq]
 .obtain⟨h3,h4⟩:=R.aH h1;cases h4;simp only[Bool.and_eq_true] at h3;obtain⟨⟨⟨p1,p2⟩,s1⟩,s2⟩:=h3;obtain⟨as,r1⟩:=ra.reads I p1 rx;obtain⟨bs,r2⟩:=rb.reads I p2 ry;exact eq_dataH r1 r2 s1 s2 hu ⟨.bl _,H,I,rfl,aG.refl H,Rep.bl.mpr rfl⟩
theorem zP(hu:X.A.units+64 < cLine):iW X (compareOp .NotEq) v7:=by
 intro pins s σ H B da db d x y v u I hb rx ry ra rb hg;obtain⟨b,h1,h2⟩:=R.af hg;cases h2;unfold Bk at h1;split at h1
 .cases h1;rename_i i j;have:=uS pins s σ H x y v u (fun z H'=>aG H H'/\Rep X.K B H' (.bl (!decide (i=j))) z) I rx ry
  rw[Rep.int.mp ra,Rep.int.mp rb] at this;refine this ⟨rfl,aG.refl H,Rep.bl.mpr ?_⟩;simp [V.int.injEq]
 .cases h1;rename_i i j;have:=uS pins s σ H x y v u (fun z H'=>aG H H'/\Rep X.K B H' (.bl (!decide (i=j))) z) I rx ry
  rw[Rep.str.mp ra,Rep.str.mp rb] at this;refine this ⟨rfl,aG.refl H,Rep.bl.mpr ?_⟩;simp [V.str.injEq]
 .cases h1;rename_i i j;have:=uS pins s σ H x y v u (fun z H'=>aG H H'/\Rep X.K B H' (.bl (!decide (i=j))) z) I rx ry
  rw[Rep.bl.mp ra,Rep.bl.mp rb] at this;refine this ⟨rfl,aG.refl H,Rep.bl.mpr ?_⟩;simp [V.bl.injEq]
 .obtain⟨h3,h4⟩:=R.aH h1;cases h4;simp only[Bool.and_eq_true] at h3;obtain⟨⟨⟨p1,p2⟩,s1⟩,s2⟩:=h3;obtain⟨as,r1⟩:=ra.reads I p1 rx;obtain⟨bs,r2⟩:=rb.reads I p2 ry;exact ne_dataH r1 r2 s1 s2 hu ⟨.bl _,H,I,rfl,aG.refl H,Rep.bl.mpr rfl⟩
def strs?:List D->Option (List Str)
 | []=>some []
 | .str x ::ds=>(strs? ds).map (x ::·)
 | _ ::_=>none
def ints?:List D->Option (List Int)
 | []=>some []
 | .int x ::ds=>(ints? ds).map (x ::·)
 | _ ::_=>none
theorem lR{K:W.Frag}{B:List Addr}:∀{ds:List D} {xs:List V} {ss:List Int},ay K B H ds xs->ints? ds=some ss->xs=ss.map V.int
 | [],xs,ss,r,h=>by unfold ay at r;subst r;cases h;rfl
 | d ::ds,xs,ss,r,h=>by
   obtain⟨x,r',rfl,r1,r2⟩:=r.bQ;cases d with
   | int z=>
     unfold ints? at h;cases e:ints? ds with
     | none=>rw [e] at h;cases h
     | some tt=>
       rw[e] at h;cases h;rw[Rep.int.mp r1,lR r2 e];rfl
   | _=>cases h
def inD(d e:D):R Bool:=match d,e with
 | .str x, .lst ds=>(match strs? ds with | some ss=> .ok (ss.contains x) | none=> .no)
 | .str x, .tup ds=>(match strs? ds with | some ss=> .ok (ss.contains x) | none=> .no)
 | .str x, .str y=> .ok (!(Builtin.Str.occurrences y x 0 y.length 1).isEmpty)
 | .int x, .lst ds=>(match ints? ds with | some ss=> .ok (ss.contains x) | none=> .no)
 | .int x, .tup ds=>(match ints? ds with | some ss=> .ok (ss.contains x) | none=> .no)
 | _,_=> .no
def Kb(d e:D):R D:=(inD d e).bind fun b=> .ok (.bl b)
def Eh(d e:D):R D:=(inD d e).bind fun b=> .ok (.bl (!b))
def cu(d e:D):R D:=match d,e with
 | .lst ds, .int i=>(match lj ds i with | some x=> .ok x | none=> .no)
 | .tup ds, .int i=>(match lj ds i with | some x=> .ok x | none=> .no)
 | .str x, .int i=>R.ba (decide (x.length<=sizeLine)) (match lj x.cps.toList i with | some c=> .ok (.str ⟨#[c]⟩) | none=> .no)
 | _,_=> .no
theorem fM{K:W.Frag}{B:List Addr}{ds:List D}{xs:List V}{i:Int}{d:D}(r:ay K B H ds xs)(h:lj ds i=some d):∃x,lj xs i=some x/\Rep K B H d x:=by
 unfold lj at h ⊢;rw[<-r.length];cases e:r_ ds.length i with
 | none=>rw [e] at h;cases h
 | some j=>
   rw[e] at h;exact r.get h
theorem Ct(ha:PD X a fa)(hb:PD X b fb)(hs:ja b):PD X (.Subscript a b pos) (e2 cu fa fb):=by
 refine(vM (r:=Dr X.K) qi ha hb hs).imp fun σ H Q ⟨Z,B,δ,d,E,hf,q⟩=>?_
 obtain⟨d1,h1,h2⟩:=R.af hf;obtain⟨d2,h3,h4⟩:=R.af h2;refine⟨Z,B,δ,d1,E,h1,fun v1 H1 s1 r1=>⟨Z,B,δ,d2,E.same s1,h3,fun v2 H2 s2 r2=>?_⟩⟩
 have iZ:=r1.same s2;unfold cu at h4;split at h4
 .split at h4
  .rename_i e;cases h4;obtain⟨p,xs,rfl,l,rs⟩:=Rep.lst.mp iZ;obtain⟨y,e1,e2⟩:=fM rs e;exact .inl ⟨p,xs,_,y,rfl,Rep.int.mp r2,l.sq,e1,q y H2 (s1.trans s2) e2⟩
  .cases h4
 .split at h4
  .rename_i e;cases h4;obtain⟨p,xs,rfl,l,rs⟩:=Rep.tup.mp iZ;obtain⟨y,e1,e2⟩:=fM rs e;exact .inr (.inl ⟨p,xs,_,y,rfl,Rep.int.mp r2,l.sq,e1,q y H2 (s1.trans s2) e2⟩)
  .cases h4
 .obtain⟨hl,h5⟩:=R.aH h4;split at h5
  .rename_i e;cases h5;exact .inr (.inr ⟨_,_,_,Rep.str.mp iZ,Rep.int.mp r2,of_decide_eq_true hl,e,q _ H2 (s1.trans s2) (Rep.str.mpr rfl)⟩)
  .cases h5
 .cases h4
abbrev FO:=ar->R (Option Int)
def Jf(K:W.Frag)(f:FO):TO:=fun σ H Q=>∃Z B δ o,ee K Z B H σ δ/\f δ= .ok o/\∀H',aG H H'->Q o H'
theorem PO.imp{X:Cx}{e:Option Expr}{t t':TO}(h:PO X e t)(w:∀σ H Q,t' σ H Q->t σ H Q):PO X e t':=fun pins s σ H Q I hq=>h pins s σ H Q I (w σ H Q hq)
abbrev PP(X:Cx)(e:Option Expr)(f:FO):Prop:=PO X e (Jf X.K f)
def rl:FO:=fun _=> .ok none
def qT(f:FD):FO:=fun δ=>(f δ).bind fun d=>match d with | .int i=> .ok (some i) | _=> .no
theorem xN:PP X none rl:=xX.imp fun σ H Q ⟨Z,B,δ,o,E,hf,q⟩=>by cases hf;exact q H (aG.refl H)
theorem wC(h:PD X e f):PP X (some e) (qT f):=(wI h).imp fun σ H Q ⟨Z,B,δ,o,E,hf,q⟩=>by
 obtain⟨d,h1,h2⟩:=R.af hf;cases d with
 | int i=>cases h2;exact⟨Z,B,δ, .int i,E,h1,fun v H1 s1 r1=>⟨i,Rep.int.mp r1,q H1 s1⟩⟩
 | _=>cases h2
theorem AE:AL X (fun x lo hi H Q=>∃z,x= .str z/\z.length<=sizeLine/\Q (.str (Txt.slice z lo hi)) H):=by
 intro pins s σ H x v vl vu lo hi sl Q I rx hs pl pu h;obtain⟨z,rfl,hz,q⟩:=h;obtain⟨t,rfl⟩:=rx;refine⟨"str",_,F.slot_str_getitem.lookup,typeIs_str _ _ _,?_⟩;have fin:∀t' k,EP X pins σ Q (.str (Txt.slice z lo hi) t') {s with toks:=k}:=fun t' k=>⟨.str _,H,I.tok _,⟨_,rfl⟩,q⟩
 obtain⟨o,ho,hc,hd⟩:=hs;cases pl with
 | none=>
   cases pu with
   | none=>exact wpAny_getItem_str_slice (l:=none) (u:=none) (st:=none) ⟨o,ho,hc,hd⟩ rfl (post_val_or_str ⟨Nat.le_trans (Txt.slice_le z _ _) hz,fin⟩)
   | int j u=>exact wpAny_getItem_str_slice (l:=none) (u:=some (j,u)) (st:=none) ⟨o,ho,hc,hd⟩ rfl (post_val_or_str ⟨Nat.le_trans (Txt.slice_le z _ _) hz,fin⟩)
 | int i t1=>
   cases pu with
   | none=>exact wpAny_getItem_str_slice (l:=some (i,t1)) (u:=none) (st:=none) ⟨o,ho,hc,hd⟩ rfl (post_val_or_str ⟨Nat.le_trans (Txt.slice_le z _ _) hz,fin⟩)
   | int j u=>exact wpAny_getItem_str_slice (l:=some (i,t1)) (u:=some (j,u)) (st:=none) ⟨o,ho,hc,hd⟩ rfl (post_val_or_str ⟨Nat.le_trans (Txt.slice_le z _ _) hz,fin⟩)
def cutD{α:Type}(xs:List α)(lo hi:Option Int):List α:=(xs.drop (HT.kg xs.length 0 lo)).take (HT.kg xs.length xs.length hi - HT.kg xs.length 0 lo)
def DD(d:D)(lo hi:Option Int):R D:=match d with
 | .str x=>R.ba (decide (x.length<=sizeLine)) (.ok (.str (Txt.slice x lo hi)))
 | .lst ds=> .ok (.lst (cutD ds lo hi))
 | _=> .no
theorem u9{K:W.Frag}{B:List Addr}{ds:List D}{xs:List V}(r:ay K B H ds xs)(lo hi:Option Int):ay K B H (cutD ds lo hi) (qd xs lo hi):=by
 unfold cutD qd;rw[<-r.length];exact(r.drop _).take _
def Be(f:FD)(fl fh:FO):FD:=fun δ=>(f δ).bind fun d=>(fl δ).bind fun lo=>(fh δ).bind fun hi=>DD d lo hi
theorem BJ{lo hi:Option Expr}{fl fh:FO}(he:PD X e f)(hl:PP X lo fl)(hh:PP X hi fh):PD X (.Subscript e (.Slice lo hi none p2) pos) (Be f fl fh):=by
 refine(tj (AE.or wM) he hl hh).imp fun σ H Q ⟨Z,B,δ,d,E,hf,q⟩=>?_
 obtain⟨d1,h1,h2⟩:=R.af hf;obtain⟨l,h3,h4⟩:=R.af h2;obtain⟨h,h5,h6⟩:=R.af h4;refine⟨Z,B,δ,d1,E,h1,fun v1 H1 s1 r1=>⟨Z,B,δ,l,E.same s1,h3,fun H2 s2=>⟨Z,B,δ,h,(E.same s1).same s2,h5,fun H3 s3=>?_⟩⟩⟩
 have sA:aG H H3:=s1.trans (s2.trans s3);have iZ:=r1.same (s2.trans s3);unfold DD at h6;split at h6
 .obtain⟨hz,h7⟩:=R.aH h6;cases h7;exact .inl ⟨_,Rep.str.mp iZ,of_decide_eq_true hz,q _ H3 sA (Rep.str.mpr rfl)⟩
 .cases h6;obtain⟨a,xs,rfl,ls,rs⟩:=Rep.lst.mp iZ;refine .inr ⟨a,xs,rfl,ls.sq,fun p hp=>q _ _ (sA.trans (bt hp)) (Rep.lst.mpr ⟨p,_,rfl, .ue aU fun ha=>?_,(u9 rs l h).same (bt hp)⟩)⟩
  obtain⟨o,ho⟩:=(E.same sA).bs p ha;rw[hp] at ho;cases ho
 .cases h6
end
end L2
end
section
namespace L2
open PySem PySem.Spec PyProof.Rows
section
variable {X:Cx}
theorem ay.one{K:W.Frag}{B:List Addr}{d:D}{xs:List V}(h:ay K B H [d] xs):∃x,xs=[x]/\Rep K B H d x:=by
 obtain⟨x,r,rfl,h1,h2⟩:=h.bQ;unfold ay at h2;subst h2;exact⟨x,rfl,h1⟩
theorem ay.two{K:W.Frag}{B:List Addr}{d e:D}{xs:List V}(h:ay K B H [d,e] xs):∃x y,xs=[x,y]/\Rep K B H d x/\Rep K B H e y:=by
 obtain⟨x,r,rfl,h1,h2⟩:=h.bQ;obtain⟨y,rfl,h3⟩:=h2.one;exact⟨x,y,rfl,h1,h3⟩
def dR:List D->R D
 | [.str x]=>R.ba (decide (x.length<=sizeLine)) (.ok (.int x.length))
 | [.lst ds]=> .ok (.int ds.length)
 | [.tup ds]=> .ok (.int ds.length)
 | _=> .no
theorem eN:cq X (.builtin "len") dR:=cq.of uc fun B H ds d xs Q _ rs hg q=>by
 unfold dR at hg;split at hg
 .obtain⟨h1,h2⟩:=R.aH hg;cases h2;obtain⟨x,rfl,r⟩:=rs.one;exact⟨x,_,rfl,by rw[Rep.str.mp r];exact⟨of_decide_eq_true h1,rfl⟩,q _ H (aG.refl H) (Rep.int.mpr rfl)⟩
 .cases hg;obtain⟨x,rfl,r⟩:=rs.one;obtain⟨a,ys,rfl,l,r⟩:=Rep.lst.mp r;exact⟨_,_,rfl, .inl ⟨ys,l.sq,rfl⟩,q _ H (aG.refl H) (Rep.int.mpr (by rw[r.length]))⟩
 .cases hg;obtain⟨x,rfl,r⟩:=rs.one;obtain⟨a,ys,rfl,l,r⟩:=Rep.tup.mp r;exact⟨_,_,rfl, .inr ⟨ys,l.sq,rfl⟩,q _ H (aG.refl H) (Rep.int.mpr (by rw[r.length]))⟩
 .cases hg
def cInt:List D->R D
 | [.int i]=> .ok (.int i)
 | [.bl b]=> .ok (.int (if b then 1 else 0))
 | _=> .no
theorem Ci:cq X (.type "int") cInt:=cq.of su fun B H ds d xs Q _ rs hg q=>by
 unfold cInt at hg;split at hg
 .cases hg;obtain⟨x,rfl,r⟩:=rs.one;exact .inl ⟨_,by rw[Rep.int.mp r],q _ H (aG.refl H) (Rep.int.mpr rfl)⟩
 .cases hg;obtain⟨x,rfl,r⟩:=rs.one;exact .inr ⟨_,by rw[Rep.bl.mp r],q _ H (aG.refl H) (Rep.int.mpr rfl)⟩
 .cases hg
def cStr:List D->R D
 | [.int i]=>R.ba (decide (i.natAbs.log2 < 1920)) (.ok (.str (toString i)))
 | _=> .no
def Ar:List D->R D
 | [.int i, .int j]=> .ok (.int (if j < i then j else i))
 | _=> .no
theorem Cc(hc:X.calm=true):cq X (.builtin "min") Ar:=cq.of (rV hc) fun B H ds d xs Q _ rs hg q=>by
 unfold Ar at hg;split at hg
 .cases hg;obtain⟨x,y,rfl,r1,r2⟩:=rs.two;exact⟨_,_,by rw[Rep.int.mp r1,Rep.int.mp r2],q _ H (aG.refl H) (Rep.int.mpr rfl)⟩
 .cases hg
def EB:List D->R D
 | [.int i, .int j]=> .ok (.int (if j > i then j else i))
 | _=> .no
def iL:List D->R D
 | [.lst ds]=> .ok (.tup ds)
 | [.tup ds]=> .ok (.tup ds)
 | _=> .no
theorem ke:cq X (.type "tuple") iL:=cq.of lq fun B H ds d xs Q hb rs hg q=>by
 unfold iL at hg;split at hg
 .cases hg;obtain⟨x,rfl,r⟩:=rs.one;obtain⟨a,ys,rfl,l,r⟩:=Rep.lst.mp r;refine⟨a,ys,rfl, .inl ⟨l.sq,fun p hp=>q _ _ (bt hp) (Rep.tup.mpr ⟨p,ys,rfl, .inl ⟨fun ha=>?_, .inl aU⟩,r.same (bt hp)⟩)⟩⟩
  obtain⟨o,ho⟩:=hb p ha;rw[hp] at ho;cases ho
 .cases hg;obtain⟨x,rfl,r⟩:=rs.one;have r0:=r;obtain⟨a,ys,rfl,l,r⟩:=Rep.tup.mp r;exact⟨a,ys,rfl, .inr ⟨l.sq,q _ H (aG.refl H) r0⟩⟩
 .cases hg
def GA:List D->R D
 | [.lst ds]=> .ok (.lst ds)
 | [.tup ds]=> .ok (.lst ds)
 | _=> .no
def cAbs:List D->R D
 | [.int i]=> .ok (.int (if i < 0 then -i else i))
 | _=> .no
def Eo:List D->R D
 | [.lst ds]=>(match ints? ds with | some ns=> .ok (.int ns.sum) | none=> .no)
 | _=> .no
theorem iy:∀{ns:List Int} {us:List Value},Vals (ns.map V.int) us->∃l:List (Int × Tok),us=l.map (fun p=>Value.int p.1 p.2)/\l.map (·.1)=ns
 | [],_, .nil=>⟨[],rfl,rfl⟩
 | n ::ns,_, .cons r t=>by
   obtain⟨l,rfl,e⟩:=iy t;obtain⟨tk,rfl⟩:=r;exact⟨(n,tk) ::l,rfl,by rw[List.map_cons,e]⟩
def tyName:D->String
 | .cy=>"NoneType" | .bl _=>"bool" | .int _=>"int" | .str _=>"str" | .lst _=>"list" | .tup _=>"tuple" | .dct _ _=>"dict"
def HM(T:String)(f:FD):FD:=fun δ=>(f δ).bind fun d=>R.ba (tyName d==T && d.atom) (.ok (.bl true))
def Km(X:Cx)(id:String)(g:D->List D->R D):Prop:=
 ∀(pins:KQ) (s:Shared) (σ:St) (H:Hp) (B:List Addr) (da d:D) (ds:List D) (x:V) (xs:List V) (v:Value) (us:List Value),Inv X pins σ H s->(∀a∈B,∃o,H a=some o)->RelV x v->Vals xs us->Rep X.K B H da x->ay X.K B H ds xs->g da ds= .ok d->
  wpAny (model X.prog X.w) X.A (call (.builtin id) (v ::us)) (EP X pins σ fun z H'=>aG H H'/\Rep X.K B H' d z) X.xe s
def Kl(T:String)(g:D->List D->R D)(f:FD)(fs:ar->R (List D)):FD:=fun δ=>(f δ).bind fun d=>R.ba (tyName d==T && (d.atom || T=="list")) ((fs δ).bind fun ds=>g d ds)
def GU(d:D)(ds:List D):R D:=match d,ds with
 | .str sep,[.lst es]=>(match strs? es with | some ss=>R.ba (JoinOk sep ss) (.ok (.str (Str.join sep ss))) | none=> .no)
 | _,_=> .no
abbrev PJ(X:Cx)(es:List Expr)(f:ar->R (List Str)):Prop:=
 ∀(pins:KQ) (s:Shared) (σ:St) (H:Hp) (Z B:List Addr) (δ:ar) (acc:Str) (ss:List Str) (Q:VK),Inv X pins σ H s->ee X.K Z B H σ δ->f δ= .ok ss->(ss.foldl (·++·) acc).length<=sizeLine->(∀H',aG H H'->Q (.str (ss.foldl (·++·) acc)) H')->
  wpAny (model X.prog X.w) X.A (joinParts acc (evalEach es X.env)) (EP X pins σ Q) X.xe s
theorem l7:∀(ss:List Str) (acc:Str),acc.length<=(ss.foldl (·++·) acc).length
 | [],acc=>Nat.le_refl _
 | s ::ss,acc=>Nat.le_trans (by rw[Str.length_append];exact Nat.le_add_right _ _) (l7 ss (acc++s))
def zh:ar->R (List Str):=fun _=> .ok []
def qW(f:FD)(g:ar->R (List Str)):ar->R (List Str):=fun δ=>(f δ).bind fun d=>match d with | .str x=>(g δ).bind fun ss=> .ok (x ::ss) | _=> .no
theorem Aq:PJ X [] zh:=by
 intro pins s σ H Z B δ acc ss Q I E hf hl q;cases hf;exact joinParts_nil ⟨.str _,H,I.tok _,⟨_,rfl⟩,q H (aG.refl H)⟩ hl
theorem wZ{g:ar->R (List Str)}(he:PD X e f)(hr:PJ X es g)(F4:evalEach (e ::es) X.env=eval e X.env ::evalEach es X.env:=by rfl):PJ X (e ::es) (qW f g):=by
 intro pins s σ H Z B δ acc ss Q I E hf hl q;rw[F4];obtain⟨d,h1,h2⟩:=R.af hf;cases d with
 | str x=>
   obtain⟨Hk,h3,h4⟩:=R.af h2;cases h4;refine joinParts_cons (cN (he pins s σ H (fun v H'=>aG H H'/\v= .str x) I ⟨Z,B,δ, .str x,E,h1,fun v H' s1 r1=>⟨s1,Rep.str.mp r1⟩⟩) fun v s1 ⟨xv,H1,I1,r1,CW,e1⟩=>?_)
   subst e1;obtain⟨t,rfl⟩:=r1;exact⟨Nat.le_trans (l7 Hk (acc++x)) hl,hr pins s1 σ H1 Z B δ (acc++x) Hk Q I1 (E.same CW) h3 hl fun H' s2=>q H' (CW.trans s2)⟩
 | _=>cases h2
def mI(g:ar->R (List Str)):FD:=fun δ=>(g δ).bind fun ss=>R.ba (decide ((ss.foldl (·++·) Str.empty).length<=sizeLine)) (.ok (.str (ss.foldl (·++·) Str.empty)))
theorem sJ{rest:List Expr}{g:ar->R (List Str)}(h:PJ X (vW ::vR ::rest) g):PD X (.JoinedStr (vW ::vR ::rest) pos) (mI g):=by
 intro pins s σ H Q I ⟨Z,B,δ,d,E,hf,q⟩;obtain⟨ss,h1,h2⟩:=R.af hf;obtain⟨h3,h4⟩:=R.aH h2;cases h4;rw[arm_eval_JoinedStr];exact h pins s σ H Z B δ Str.empty ss Q I E h1 (of_decide_eq_true h3) fun H' s1=>q _ H' s1 (Rep.str.mpr rfl)
def Cg:D->R D
 | .str x=>R.ba (decide (x.length<=sizeLine)) (.ok (.str x))
 | .int i=>R.ba (decide (i.natAbs.log2 < 1920)) (.ok (.str (toString i)))
 | _=> .no
def zE(f:FD):FD:=fun δ=>(f δ).bind Cg
theorem zj(h:PD X e f):PD X (.FormattedValue e (-1) none pos) (zE f):=by
 intro pins s σ H Q I ⟨Z,B,δ,d,E,hf,q⟩;obtain⟨d1,h1,h2⟩:=R.af hf;refine FormattedValue_plain (cN (h pins s σ H (fun v H'=>aG H H'/\Rep X.K B H' d1 v) I ⟨Z,B,δ,d1,E,h1,fun v H' s1 r1=>⟨s1,r1⟩⟩) fun v s1 ⟨xv,H1,I1,r1,CW,e1⟩=>?_)
 unfold Cg at h2;split at h2
 .obtain⟨h3,h4⟩:=R.aH h2;cases h4;rw[Rep.str.mp e1] at r1;obtain⟨t,rfl⟩:=r1;exact formatField_str (fun t' tk=>⟨.str _,H1,I1.tok _,⟨_,rfl⟩,q _ H1 CW (Rep.str.mpr rfl)⟩) (of_decide_eq_true h3)
 .obtain⟨h3,h4⟩:=R.aH h2;cases h4;rw[Rep.int.mp e1] at r1;obtain⟨t,rfl⟩:=r1;exact formatField_int_small (of_decide_eq_true h3) ⟨.str _,H1,I1.tok _,⟨_,rfl⟩,q _ H1 CW (Rep.str.mpr rfl)⟩
 .cases h2
def Cb:List (D × D)->Str->R (Option D)
 | [],_=> .ok none
 | (.str y,d) ::r,x=>(Cb r x).bind fun o=> .ok (match o with | some e=>some e | none=>if y=x then some d else none)
 | _ ::_,_=> .no
def BX(x:Str):List D:=x.cps.toList.map fun c=> .str ⟨#[c]⟩
def JX(x:Str):It:=⟨fun i _=>i < x.cps.size,fun i H v H'=>H'=H/\∃c,x.cps[i]? =some c/\v= .str ⟨#[c]⟩,fun i _=>x.cps.size<=i⟩
def Gw(f:FD):ar->R (List D):=fun δ=>(f δ).bind fun d=>match d with | .str x=> .ok (BX x) | _=> .no
def Ks(K:W.Frag)(a:Addr):It:=
 ⟨fun i H=>∃xs x,iX K H a xs/\xs[i]? =some x,fun i H v H'=>∃p x,H p=none/\v= .ref p/\(∀xs,iX K H a xs->xs[i]? =some x)/\H'=upd H p (.tup [.int i,x]),fun i H=>∃xs,iX K H a xs/\xs.length<=i⟩
def oT(ds:List D):List D:=ds.zipIdx.map fun p=> .tup [.int p.2,p.1]
def DV(f:FD):ar->R (List D):=fun δ=>(f δ).bind fun d=>match d with | .lst ds=> .ok (oT ds) | _=> .no
end
end L2
end
section
namespace L2
open PySem PySem.Spec PyProof.Rows
def Def(K:W.Frag)(mg:KY)(x:Str)(st:Stmt):Prop:=∃f fd,pF K x x st f fd/\mg x=some (.ref f)
def Callee(P:Program)(w:World)(K:W.Frag)(mg:KY)(base:Heap)(k:Nat)(x:Str)(n:Nat)(g:List D->R D):Prop:=
 ∃f fd ps,eU P w K mg base mn k f fd ps (xj K n g)/\mg x=some (.ref f)/\PySem.W.keepIn K (.ref f)=true/\Binds K fd ps []
theorem i0:∀(δ:ar) (ds:List D),a_ δ= .ok ds->ds.length=0:=fun δ ds h=>by cases h;rfl
theorem dy{g:ar->R (List D)}{n:Nat}(h:∀(δ:ar) (ds:List D),g δ= .ok ds->ds.length=n):∀(δ:ar) (ds:List D),aq f g δ= .ok ds->ds.length=n+1:=fun δ ds e=>by
 obtain⟨d,h1,h2⟩:=R.af e;obtain⟨es,h3,h4⟩:=R.af h2;cases h4;rw[List.length_cons,h δ es h3]
theorem vF{P:Program}{w:World}{K:W.Frag}{mg:KY}{base:Heap}{x qual:Str}{st:Stmt}{f:Addr}{fd:FuncData}{N ps:List Str}{k:Nat}{F:FS}{b:List Stmt}{sc:Scope}(hb:bw st=b)(hs:aL st=sc)(Fn:pF K x qual st f fd)(S:bH N ps sc)
 (dZ:∀(df:Value) (A:Around) (outer:List Env) (s:Shared) (H:Hp) (E:XK),dH k (A.deeper (envOfC qual sc s.heap.objs.size f df))->
   rZ (gU mn P w K mg base N qual sc f df A outer s H E).xl b F):eU P w K mg base mn (k+1) f fd ps (xj K ps.length (zO N F)):=by
 subst hb hs;exact wq Fn S dZ
section
variable {X:Cx}
theorem t4{g:List D->R D}{k j n:Nat}{x:Str}{p pos:Pos}{e:Expr}{es:List Expr}{fs:ar->R (List D)}(C:Callee X.prog X.w X.K X.mg X.base k x n g)(hr:dH j X.A)(AW:k<=j)(hg:Gl X x)(ha:vY X (e ::es) fs)
 (hn:∀δ ds,fs δ= .ok ds->ds.length=n) (ik:(x==("__debug__":Str))=false:=by decide) (he:starEach (e ::es) X.env=(false,eval e X.env) ::starEach es X.env:=by rfl) (fP:(backTo pos (starEach es X.env)).any (·.1)=false:=by rfl) :
 PD X (.Call (.Name x p) (e ::es) [] pos) (aV g fs):=by
 obtain⟨f,fd,ps,F,hm,hk,hb⟩:=C;exact xm F (hr.mono AW) hg hm hk hb ha hn ik he fP
def CH(sc:Scope)(N:List Str)(scope:Scope)(kp:List Nat)(kn:List Str):Bool:=
 decide (scope.kind= .function) && scope.names.all (fun y=>decide (y.2= .cell->scope.names.lookup y.1=some .cell)) && scope.names.all (fun y=>decide (y.2= .local->scope.names.lookup y.1=some .local))
  && scope.names.all (fun y=>decide (y.2= .free->(sc.names.lookup y.1=some .cell\/sc.names.lookup y.1=some .free))) && scope.names.all (fun y=>decide (y.2= .free->scope.names.lookup y.1=some .free)) && decide (kn.length=kp.length)
  && (List.range kp.length).all (fun j=>decide ((kp[j]?).bind (N[·]?)=kn[j]?)) && kn.all (fun x=>decide (scope.names.lookup x=some .free))
theorem bN.of{own:List Str}{kp:List Nat}{kn:List Str}{N:List Str}(h1:X.env.scope=sc)(h2:X.N=N)(h:CH sc N scope kp kn=true):bN X scope own kp kn:=by
 unfold CH at h;simp only[Bool.and_eq_true,decide_eq_true_eq,List.all_eq_true] at h;obtain⟨⟨⟨⟨⟨⟨⟨a1,a2⟩,a3⟩,a4⟩,a8⟩,a5⟩,a6⟩,a7⟩:=h;refine⟨a1,a2,a3,fun y hy hf=>?_,a8,a5,fun j i x hj hx=>?_,a7⟩
 .have:=a4 y hy hf;unfold Env.kindOf;rw[h1];exact this
 .have gE:j < kp.length:=(List.getElem?_eq_some_iff.mp hj).1;have:=a6 j (List.mem_range.mpr gE);rw[hj] at this;rw[h2];exact this.trans hx
def zH(aI:List (Key × V))(f g:FD):FD:=fun δ=>(f δ).bind fun k=>(g δ).bind fun d=>match k with
 | .str x=>(match gJ (fB [] aI) (Sum.inr x) with | some (.int i)=> .ok (.int i) | none=> .ok d | _=> .no)
 | _=> .no
theorem zq{keys:List (Option Expr)}{values:List Expr}{mv:List (TE × TE)}{nR apos bW:Pos}{e f:Expr}{fe ff:FD}{aI:List (Key × V)}(hu:X.A.units+1 < cLine)(h:zV X nR keys values mv)(sO:keys.all (·.isSome)=true)(hl:keys.length=values.length)(h0:keys≠[])
 (hc:∀σ H Q,Q (aI.map fun kv=>(kV kv.1,kv.2)) H->jI mv σ H Q) (hlen:aI.length<=15) (he:PD X e fe) (hf:PD X f ff) (m:M2 X (.Dict keys values nR) "get" apos e f bW)
 (hd:PE X (.Dict keys values nR) (uO mv)):PD X (.Call (.Attribute (.Dict keys values nR) "get" apos) [e,f] [] bW) (zH aI fe ff):=by
 refine(uI hu hd he hf m).imp fun σ H Q ⟨Z,B,δ,d,E,hfd,q⟩=>?_
 obtain⟨k,h1,h2⟩:=R.af hfd;obtain⟨dd,h3,h4⟩:=R.af h2;intro p hp;refine hc σ _ _ ⟨aU,aI,rfl,hlen,p,rfl, .inl ⟨_, .inl aU⟩,?_⟩;rw[xr];have s0:aG H (upd H p (.dK (fB [] aI))):=bt hp;refine⟨Z,B,δ,k,E.same s0,h1,fun v1 H1 s1 r1=>⟨Z,B,δ,dd,(E.same s0).same s1,h3,fun v2 H2 s2 r2=>?_⟩⟩
 have hH2:H2 p=some (.dK (fB [] aI)):=s2 p _ (s1 p _ aU);have sA:aG H H2:=s0.trans (s1.trans s2);split at h4
 .rename_i x;refine⟨gJ (fB [] aI) (Sum.inr x),?_,?_⟩
  .rw [Rep.str.mp r1];exact lC.k (k:=Sum.inr x) hH2
  .split at h4
   .rename_i i e1;cases h4;rw[e1];exact q _ H2 sA (Rep.int.mpr rfl)
   .rename_i e1;cases h4;rw[e1];exact q _ H2 sA r2
   .cases h4
 .cases h4
theorem pI:Gy X "list.extend" (fun x vs H Q=>∃l b xs zs,x= .ref l/\vs=[.ref b]/\H l=some (.lst xs)/\(∃B,lu X.K B H b zs)/\xs.length+zs.length<=sizeLine/\Q .cy (upd H l (.lst (xs++zs)))):=by
 intro pins s σ H x vs v us Q I rx rv h;obtain⟨l,b,xs,zs,rfl,rfl,hH,⟨_,hB⟩,hz,q⟩:=h;cases rx;obtain⟨u,rfl,ru⟩:=rv.one;cases ru;obtain⟨z,its,n,r,hl,e⟩:=I.BY hH;obtain⟨qu,n2,r2,e2,z2⟩:=I.Cz hB;have hl2:=r2.length;have hsz:its.toArray.size+qu.toArray.size<=sizeLine:=by rw[List.size_toArray,List.size_toArray];omega
 have hlong:¬(!its.toArray.isEmpty && Builtin.List.listTooLong (its.toArray.size+qu.toArray.size))=true:=by
  rw[uq hsz,Bool.and_false];exact Bool.false_ne_true
 refine call_meets F.slot_list_extend ⟨_,e,rfl⟩ F.entry_list_extend (F.args_list_extend_2 _ _)
  (AutoSeq1.list_extend_list_list_0 l its.toArray n b qu.toArray n2 hlong (by rw[List.size_toArray];omega) (by omega)) ⟨e,e2,?_⟩
 refine⟨.cy,_,I.BN (its':=its++qu) hH e (by simp) (r.append r2) ?_,rfl,q⟩
 rw[List.length_append];omega
def GL(i:Nat)(f:FD):FS:=fun δ=>(f δ).bind fun d=>match d with
 | .lst es=>(t5 δ i).bind fun ds=>R.ba (decide (ds.length+es.length<=sizeLine)) (.ok (.nx (δ.set i (.bld (ds++es)))))
 | _=> .no
end
end L2
end
section
namespace L2
open PySem PySem.Spec PyProof.Rows
structure QD (X:Cx) (e:Expr) (f:FD):Prop where
 h:PD X e f
structure QN (X:Cx) (e:Expr) (f:ar->R (List D)):Prop where
 h:PN X e f
structure QB (X:Cx) (e:Expr) (f:ar->R Bool):Prop where
 h:PB X e f
structure Dm (X:Cx) (e:Expr) (f:ar->R Bool):Prop where
 h:zw X e f
structure yp (X:Cx) (e:List Expr) (f:ar->R (List D)):Prop where
 h:vY X e f
structure Ds (X:Cx) (e:Stmt) (f:FS):Prop where
 h:BD X e f
structure ya (X:Cx) (e:List Stmt) (f:FS):Prop where
 h:rZ X e f
structure Bg (X:Cx) (e:Expr) (f:FT):Prop where
 h:Bo X e f
structure yc (X:Cx) (e:List Expr) (f:uh):Prop where
 h:t8 X e f
structure A_ (X:Cx) (tg e:Expr) (f:ar->R (List D)):Prop where
 h:Di X tg e f
structure QP (X:Cx) (e:Option Expr) (f:FO):Prop where
 h:PP X e f
structure QJ (X:Cx) (e:List Expr) (f:ar->R (List Str)):Prop where
 h:PJ X e f
structure xa (X:Cx) (e:List Expr) (c:ar->R Bool):Prop where
 h:lI X e (Bc X.K c)
section
variable {X:Cx}
theorem cX{f:ar->R (List D)}(h:QN X e f):QD X e (eNew f):=⟨Ao h.1⟩
theorem aa(i:Nat){pos:Pos}(hN:X.N[i]? =some x:=by rfl)(hv:Az X.env.scope x:=by first | exact Or.inl rfl | exact Or.inr (Or.inl rfl) | exact Or.inr (Or.inr rfl))(hd:(x==("__debug__":Str))=false:=by decide)(lK:(x==("__classdict__":Str))=false:=by decide):QD X (.Name x pos) (ai i):=⟨zN i hN hv hd lK⟩
theorem ah{i j pos}:QD X (.Constant (.int i) j pos) (eC (.int i)):=⟨zC⟩
theorem kT{b j pos}:QD X (.Constant (.bool b) j pos) (eC (.bl b)):=⟨BZ⟩
theorem bI{x j pos}:QD X (.Constant (.str x) j pos) (eC (.str x)):=⟨z9⟩
theorem u0{d:D}{pos:Pos}(g:Glob X.K X.mg x d)(hg:Gl X x)(hd:(x==("__debug__":Str))=false:=by decide):QD X (.Name x pos) (eC d):=⟨xW g hg hd⟩
theorem av:yp X [] a_:=⟨xM⟩
theorem ae{g:ar->R (List D)}(h:QD X e f)(t:yp X es g)(hs:starEach (e ::es) X.env=(false,eval e X.env) ::starEach es X.env:=by rfl):yp X (e ::es) (aq f g):=⟨tE h.1 t.1 hs⟩
theorem dI{g:ar->R (List D)}{x1 pos}(h:yp X es g):QD X (.Tuple es x1 pos) (f9 g):=⟨z7 h.1⟩
theorem cZ{g:ar->R (List D)}{pos}(h:yp X es g):QN X (.List es pos) (fu g):=⟨zL h.1⟩
theorem aR{op:Operator}{g:D->D->R D}(ho:iW X (binaryOp op) g)(ha:QD X a fa)(hb:QD X b fb):QD X (.BinOp a op b pos) (e2 g fa fb):=⟨Cy ho ha.1 hb.1⟩
theorem jx{op:CmpOp}{g:D->D->R D}(ho:iW X (compareOp op) g)(ha:QD X a fa)(hb:QD X b fb)(hm:behindInMarks op b=false):QD X (.Compare a [op] [b] pos) (e2 g fa fb):=⟨AO ho ha.1 hb.1 hm⟩
theorem d8{op:CmpOp}{g:D->D->R D}(ho:iW X (compareOp op) g)(ha:QD X a fa)(hb:QD X b fb)(hm:behindInMarks op b=false):QB X (.Compare a [op] [b] pos) (b2 g fa fb):=⟨zg ho ha.1 hb.1 hm⟩
theorem kc{a:Expr}(ha:QD X a f)(he:∀whole,isTrue a X.env whole=(do let v <-whole;standAt a.pos;holding [v] (truthy v)):=by intro _;rfl):QB X a (lF f):=⟨Ab ha.1 he⟩
theorem xK{f:ar->R Bool}(h:Dm X e f):QB X e f:=⟨zw.pb h.1⟩
theorem vN{f:ar->R Bool}(h:QB X a f):Dm X (.BoolOp .Or [a] pos) f:=⟨yd h.1⟩
theorem x6{rest:List Expr}{f g:ar->R Bool}(ha:QB X a f)(hb:Dm X (.BoolOp .Or (b ::rest) pos) g):Dm X (.BoolOp .Or (a ::b ::rest) pos) (DA f g):=⟨As ha.1 hb.1⟩
theorem qH{f:ar->R Bool}(ha:QB X a f):QB X (.UnaryOp .Not a pos) (oQ f):=⟨Aj ha.1⟩
theorem wo{op}(h:QD X a f):QD X (.BoolOp op [a] pos) f:=⟨zx h.1⟩
theorem xh{rest:List Expr}(ha:QD X a f)(hb:QD X (.BoolOp .And (b ::rest) pos) g):QD X (.BoolOp .And (a ::b ::rest) pos) (vw f g):=⟨AJ ha.1 hb.1⟩
theorem bL{g:List D->R D}{id:String}{p pos:Pos}{fs:ar->R (List D)}(hc:cq X (.builtin id) g)(hg:Gl X x)(hm:X.mg x=none)(hv:bootBuiltins x=some (.builtin id))(ha:yp X (e ::es) fs)(hn:x≠"__name__":=by decide)(ik:(x==("__debug__":Str))=false:=by decide)(he:starEach (e ::es) X.env=(false,eval e X.env) ::starEach es X.env:=by rfl)(fP:(backTo pos (starEach es X.env)).any (·.1)=false:=by rfl):QD X (.Call (.Name x p) (e ::es) [] pos) (aV g fs):=⟨vI hc hg hm hv ha.1 hn ik he fP⟩
theorem d0{g:List D->R D}{T:String}{p pos:Pos}{fs:ar->R (List D)}(hc:cq X (.type T) g)(hg:Gl X x)(hm:X.mg x=none)(hv:bootBuiltins x=some (.type T))(ha:yp X (e ::es) fs)(hn:x≠"__name__":=by decide)(ik:(x==("__debug__":Str))=false:=by decide)(he:starEach (e ::es) X.env=(false,eval e X.env) ::starEach es X.env:=by rfl)(fP:(backTo pos (starEach es X.env)).any (·.1)=false:=by rfl):QD X (.Call (.Name x p) (e ::es) [] pos) (aV g fs):=⟨sk hc hg hm hv ha.1 hn ik he fP⟩
theorem sf{st:Stmt}{rest:List Stmt}{F G:FS}(h1:Ds X st F)(h2:ya X rest G):ya X (st ::rest) (rK F G):=⟨t_ h1.1 h2.1⟩
theorem oD{st:Stmt}{F:FS}(h1:Ds X st F):ya X [st] F:=⟨wx h1.1⟩
theorem uf{i:Nat}{pos pos':Pos}(hN:X.N.Nodup)(hi:X.N[i]? =some x)(hx:Loc X.env.scope x)(he:QD X e f)(hs:swapsWith e (some (.Name x pos')) pos.line X.env=pure false:=by rfl)(hf:X.fn x=true\/X.env.scope.names.lookup x=some .local:=by first | exact .inl rfl | exact .inr rfl | assumption):Ds X (.Assign [.Name x pos'] e pos) (sH i f):=⟨xx hN hi hx he.1 hs hf⟩
theorem oW(he:QD X e f):Ds X (.Return (some e) pos) (rN f):=⟨wm he.1⟩
theorem bO{i:Nat}{pos:Pos}(hN:X.N.Nodup)(hi:X.N[i]? =some x)(hx:Loc X.env.scope x)(hf:X.fn x=true\/X.env.scope.names.lookup x=some .local:=by first | exact .inl rfl | exact .inr rfl | assumption):Bg X (.Name x pos) (cj i):=⟨vj hN hi hx hf⟩
theorem hV:yc X [] j5:=⟨va⟩
theorem cR{u:uh}(h1:Bg X e t)(h2:yc X es u)(hs:(assignEach (e ::es) X.env).map (·.2)=assign e X.env ::(assignEach es X.env).map (·.2):=by rfl):yc X (e ::es) (dG t u):=⟨rR h1.1 h2.1 hs⟩
theorem i_{k:Nat}{t:uh}{n:Nat}{pos:Pos}(hc:X.calm=true)(h:yc X es t)(hn:(assignEach es X.env).length=n:=by rfl)(lJ:(assignEach es X.env).findIdx? (·.1)=none:=by rfl):Bg X (.Tuple es k pos) (j4 n t):=⟨wJ hc h.1 hn lJ⟩
theorem cO(h:QD X e f):A_ X tg e (di f):=⟨x9 h.1⟩
theorem eh{tg a:Expr}{p pos:Pos}(h:QD X a f)(hg:Gl X "range")(hm:X.mg "range"=none)(hs:starEach [a] X.env=[(false,eval a X.env)]:=by rfl):A_ X tg (.Call (.Name "range" p) [a] [] pos) (gf f):=⟨pA h.1 hg hm hs⟩
theorem eJ{own:List Str}{kp:List Nat}{kn:List Str}{it:ar->R (List D)}{c:ar->R Bool}{pos:Pos}(hc:X.calm=true)(C:bN X scope own kp kn)(hi:A_ X tg iter it)(hg:∀fp s H,Bg (aP X scope (own++kn) fp s H) tg t)(qv:∀fp s H,xa (aP X scope (own++kn) fp s H) ifs c)(he:∀fp s H,QD (aP X scope (own++kn) fp s H) elt f)(hs:∀x,foldedSetIterable iter X.env x=pure x:=by intro _;rfl):QN X (.ListComp elt [⟨tg,iter,ifs,0⟩] scope pos) (dA it t c f own kp):=⟨x5 hc C hi.1 (fun fp s H=>(hg fp s H).1) (fun fp s H=>(qv fp s H).1) (fun fp s H=>(he fp s H).1) hs⟩
theorem cK:xa X [] iJ:=⟨tf⟩
theorem bh(ha:QD X a fa)(hb:QD X b fb)(hs:ja b):QD X (.Subscript a b pos) (e2 cu fa fb):=⟨Ct ha.1 hb.1 hs⟩
theorem oi:QP X none rl:=⟨xN⟩
theorem oR(h:QD X e f):QP X (some e) (qT f):=⟨wC h.1⟩
theorem uF{lo hi:Option Expr}{fl fh:FO}(he:QD X e f)(hl:QP X lo fl)(hh:QP X hi fh):QD X (.Subscript e (.Slice lo hi none p2) pos) (Be f fl fh):=⟨BJ he.1 hl.1 hh.1⟩
theorem w_:QJ X [] zh:=⟨Aq⟩
theorem o9{g:ar->R (List Str)}(he:QD X e f)(hr:QJ X es g)(F4:evalEach (e ::es) X.env=eval e X.env ::evalEach es X.env:=by rfl):QJ X (e ::es) (qW f g):=⟨wZ he.1 hr.1 F4⟩
theorem pB{rest:List Expr}{g:ar->R (List Str)}(h:QJ X (vW ::vR ::rest) g):QD X (.JoinedStr (vW ::vR ::rest) pos) (mI g):=⟨sJ h.1⟩
theorem wL(h:QD X e f):QD X (.FormattedValue e (-1) none pos) (zE f):=⟨zj h.1⟩
theorem ml{P:Program}{w:World}{K:W.Frag}{mg:KY}{base:Heap}{x qual:Str}{st:Stmt}{f:Addr}{fd:FuncData}{N ps:List Str}{k:Nat}{F:FS}{b:List Stmt}{sc:Scope}(hb:bw st=b)(hs:aL st=sc)(Fn:pF K x qual st f fd)(S:bH N ps sc)(dZ:∀(df:Value) (A:Around) (outer:List Env) (s:Shared) (H:Hp) (E:XK),dH k (A.deeper (envOfC qual sc s.heap.objs.size f df))->
 ya (gU mn P w K mg base N qual sc f df A outer s H E).xl b F):eU P w K mg base mn (k+1) f fd ps (xj K ps.length (zO N F)):=vF hb hs Fn S (fun df A outer s H E hr=>(dZ df A outer s H E hr).1)
theorem ib{g:List D->R D}{k j n:Nat}{p pos:Pos}{fs:ar->R (List D)}(C:Callee X.prog X.w X.K X.mg X.base k x n g)(hr:dH j X.A)(AW:k<=j)(hg:Gl X x)(ha:yp X (e ::es) fs)(hn:∀δ ds,fs δ= .ok ds->ds.length=n)(ik:(x==("__debug__":Str))=false:=by decide)(he:starEach (e ::es) X.env=(false,eval e X.env) ::starEach es X.env:=by rfl)(fP:(backTo pos (starEach es X.env)).any (·.1)=false:=by rfl):QD X (.Call (.Name x p) (e ::es) [] pos) (aV g fs):=⟨t4 C hr AW hg ha.1 hn ik he fP⟩
theorem wA{keys:List (Option Expr)}{values:List Expr}{mv:List (TE × TE)}{aI:List (Key × V)}(hu:X.A.units+1 < cLine)(h:zV X nR keys values mv)(sO:keys.all (·.isSome)=true)(hl:keys.length=values.length)(h0:keys≠[])(hc:∀σ H Q,Q (aI.map fun kv=>(kV kv.1,kv.2)) H->jI mv σ H Q)(hlen:aI.length<=15)(he:QD X e fe)(hf:QD X f ff)(m:M2 X (.Dict keys values nR) "get" apos e f bW)(hd:PE X (.Dict keys values nR) (uO mv)):QD X (.Call (.Attribute (.Dict keys values nR) "get" apos) [e,f] [] bW) (zH aI fe ff):=⟨zq hu h sO hl h0 hc hlen he.1 hf.1 m hd⟩
end
end L2
end
section
namespace L2
open PySem PySem.Spec PyProof.Rows
theorem sG{P:Program}{w:World}{K:W.Frag}{mg mb:KY}{CX:sT}{k:Nat}{fa a:Addr}{fd:FuncData}{x:Str}{sp:Sp}{s₁:Shared}{vs:List Value}{ns:List Int}
 (KX:K.In s₁.heap) (Hj:s₁.heap.Ns mainGlobals mg) (hb:s₁.heap.Ns builtinsNs mb) (Jx:∀x:Str,x≠"__name__"->mb x=bootBuiltins x) (Fs:s₁.heap.NoLimit) (hg:s₁.gens=#[])
 (ha:s₁.heap.get? a=some {cls:= .type "list",data:= .seq vs.toArray}) (hi:IntsAre vs ns) (hl:ns.length<=sizeLine) (hr:dH k callerA)
 (F:∀base:Heap,K.In base->base.Ns mainGlobals mg->eU P w K mg base CX k fa fd [x] sp) (Df:∀(s:Shared) (u:Value),BindsTo s fd ⟨[u],[]⟩ [(x,u)])
 (wj:∀H:Hp,B_ H->lu K [] H a (ns.map V.int)->sp [.ref a] H (fun v _=>v= .bl true) fun _ _ _=>False)
 (Jt:∀H e s',CX [] H s₁ (fun _ _ _=>False) e s'->False) :
 codeAny (model P w) callerA (.call (.ref fa) ⟨[.ref a],[]⟩) (fun r s'=>r= .ok (.ret (.bool true))/\OldK s₁.heap s'.heap/\s'.os=s₁.os/\AllBare s'.gens) s₁:=by
 have rv:=ma hi;have lenV:=hi.length;have core:∀H:Hp,B_ H->lu K [] H a (ns.map V.int)->ie P w H s₁.heap->(∀b,H b≠none->b=a)->(H a≠none->K.lookup a=none)->
  codeAny (model P w) callerA (.call (.ref fa) ⟨[.ref a],[]⟩) (fun r s'=>r= .ok (.ret (.bool true))/\OldK s₁.heap s'.heap/\s'.os=s₁.os/\AllBare s'.gens) s₁:=by
  intro H hO hS hok hA hK;have rC:∀{b:Addr} {o:Obj},s₁.heap.get? b=some o->H b=none->(nE s₁.heap H).get? b=some o:=fun e n=>vn e n
  have noA:∀{b:Addr} {o:Obj} {es:Array DictEntry} {ep:Nat},s₁.heap.get? b=some o->o.data= .dict es ep->H b=none:=fun {b o es ep} e d=>by
   cases q:H b with
   | none=>rfl
   | some u=>
     have e':b=a:=hA b (by rw[q];simp)
     subst e';rw[ha] at e;cases e;have d':Data.seq vs.toArray _=Data.dict es ep:=d;cases d'
  have nsK:∀{b:Addr} {m:KY},s₁.heap.Ns b m->(nE s₁.heap H).Ns b m:=fun {b m} ⟨o,es,ep,e,d,r⟩=>⟨o,es,ep,rC e (noA e d),d,r⟩
  have hKb:K.In (nE s₁.heap H):=fun b o e=>rC (KX b o e) (by
   cases q:H b with
   | none=>rfl
   | some u=>
     have e':b=a:=hA b (by rw[q];simp)
     subst e';rw[hK (by rw[q];simp)] at e;cases e)
  have hM:Mod K mg (nE s₁.heap H):=⟨hKb,nsK Hj,⟨mb,nsK hb,Jx⟩,let⟨mc,h1,h2⟩:=Fs;⟨mc,nsK h1,h2⟩⟩
  have e0:xZ P w K mg (nE s₁.heap H) callerA [] s₁ H:=⟨rfl,hM,fun b o e=>xF e,Nat.le_of_eq (r6 _ _),trivial,fun b hb=>absurd (show b∈([]:List Addr) from hb) (by simp),hok, .of_eq hg⟩
  refine codeAny_mono ((F _ hKb (nsK Hj)).run callerA [] s₁ H ⟨[.ref a],[]⟩ [.ref a] [.ref a] _ _ hr e0 (Df s₁ (.ref a)) (.cons rfl .nil) (wj H hO hS)) fun r s' h=>?_
  cases r with
  | error e=>exact(Jt H e s' h).elim
  | ok fl=>
    cases fl with
    | next=>exact False.elim h
    | brk=>exact False.elim h
    | cont=>exact False.elim h
    | ret u=>
      obtain⟨v,H',os,bare,un,Gf,r',q⟩:=h;have q':v= .bl true:=q;subst q';obtain rfl:u=Value.bool true:=r';refine⟨rfl,OldK.of_keep fun b o e=>?_,os,bare⟩
      cases q:H b with
      | none=>exact un.keep b o e q (by intro z;exact absurd (show b∈([]:List Addr) from z) (by simp)) (by simp)
      | some u=>
        rcases hO b with z | ⟨ob,xs,z⟩
        .rw [q] at z;cases z
        .have z2:=un.frzs b ob _ z;obtain⟨e1,_⟩:=hok b _ z;obtain⟨e2,_⟩:=Gf b _ z2;rw[e] at e1;cases e1;exact e2
 cases hk:K.lookup a with
 | some o=>
   have e:=KX a o hk;rw[ha] at e;cases e;refine core (fun _=>none) (fun _=> .inl rfl) (.inr ⟨vs,_,hk,by rw[List.length_map];exact hl,rv⟩) (fun b u z=>by have z':(none:Option HO)=some u:=z;cases z') (fun b z=>absurd rfl z) fun z=>absurd rfl z
 | none=>
   refine core (fun b=>if b=a then some (.jB {cls:= .type "list",data:= .seq vs.toArray} (.lst (ns.map V.int))) else none) (fun b=>?_) (.inl ⟨by simp, .inr ⟨{cls:= .type "list",data:= .seq vs.toArray},if_pos rfl⟩⟩) (fun b u z=>?_) (fun b z=>?_) fun _=>hk
   .by_cases hb:b=a
    .exact .inr ⟨_,_,if_pos hb⟩
    .exact .inl (if_neg hb)
   .by_cases hb:b=a
    .have z':=(if_pos hb).symm.trans z;cases z';subst hb;exact⟨ha,by rw[List.length_map];exact hl,vs,_,rv,ha⟩
    .have z':=(if_neg hb).symm.trans z;cases z'
   .by_cases hb:b=a
    .exact hb
    .exact absurd (if_neg hb) z
theorem ints_rep{K:W.Frag}{B:List Addr}:∀ns:List Int,ay K B H (ns.map D.int) (ns.map V.int)
 | []=>ay.nil
 | n ::ns=>ay.cons (Rep.int.mpr rfl) (ints_rep ns)
theorem BO{l:PySem.W.OpenLaw}{n k:Nat}{q:Program}{loose:List Str}{XP:(Str->Option Value)->Heap->Prop}{YP:World->Heap->Prop}{d:DefRec}{K:Params->W.Frag}{x:Str}{g:List D->R D}
 (hn:l.most=some n) (DT:n<=sizeLine) (Ge:d.params.defaults=[]) (hr:dH k callerA) (hY:∀(w:World) (h:Heap),YP w h->(K w.params).In h)
 (F:∀(w:World) (mg:KY) (fa:Addr) (h:Heap),(K w.params).In h->h.Ns mainGlobals mg->mg d.name=some (.ref fa)->
   ∃fd:FuncData,(∀(s:Shared) (u:Value),BindsTo s fd ⟨[u],[]⟩ [(x,u)])/\∀base:Heap,(K w.params).In base->base.Ns mainGlobals mg->eU l.prog w (K w.params) mg base mn k fa fd [x] (xj (K w.params) 1 g))
 (hg:∀ns:List Int,ns.length<=n->g [.lst (ns.map D.int)]= .ok (.bl true)):PySem.W.WalkO q loose XP YP l.row.toRowW d [] (fun f vs=>PySem.call f vs):=by
 refine Att.ox hn Ge fun w s₀ s₁ mg mb fa o pm cd doc a vs ns G Y ho hd lK De A7 hints hlen F0=>?_
 have KX:=hY w _ Y;obtain⟨fd,hb,hF⟩:=F w mg fa _ KX G.T.g De;refine sG KX G.T.g G.T.b G.T.builtins G.T.nolimit F0 A7 hints (Nat.le_trans hlen DT) hr hF hb (fun H hO hS=>?_) fun H e s' h=>h
 refine⟨rfl,[],[.lst (ns.map D.int)], .bl true,fun b hb=>(by cases hb),ay.cons (Rep.lst.mpr ⟨_,_,rfl,hS,ints_rep ns⟩) ay.nil,hg ns hlen,fun z H' _ r=>Rep.bl.mp r⟩
theorem dF{K:W.Frag}{h:Heap}{mg:KY}{x:Str}{st:Stmt}{f:Addr}{oc:Value}{od an:Option Addr}{sY:Array (Option Value)}{kV doc pm df ct:Value}(X:K.In h)(G:h.Ns mainGlobals mg)(a:PySem.W.nsIn K mainGlobals x=some (some (.ref f)))
 (l:K.lookup f=some ⟨oc,od, .func (PySem.W.fnOf x x (jj st) (bw st) (aL st) .none kV doc pm an df ct),sY⟩) (c:PySem.W.codeIn K df x=true) (k:PySem.W.keepIn K (.ref f)=true):Def K mg x st:=
 ⟨f,_,zJ l c k,PySem.W.mg_of X G a⟩
theorem uT{K:W.Frag}{h:Heap}{mg:KY}(X:K.In h)(G:h.Ns mainGlobals mg){i:Int}{t:Tok}(a:PySem.W.nsIn K mainGlobals x=some (some (.int i t))):Glob K mg x (.int i):=
 ⟨_, .int i,PySem.W.mg_of X G a,⟨t,rfl⟩,fun _ _=>Rep.int.mpr rfl⟩
end L2
end
section
namespace L2
open PySem PySem.Spec PyProof.Rows
theorem jR{t:FT}{c:ar->R Bool}{f:FD}{δ:ar}(g:D->D):∀{ds:List D},(∀d∈ds,∃cg,t d δ= .ok cg/\c cg= .ok true/\f cg= .ok (g d))->jo t c f δ ds= .ok (ds.map g)
 | [],_=>rfl
 | d ::ds,h=>by
   obtain⟨cg,h1,h2,h3⟩:=h d List.mem_cons_self;have ih:=jR (t:=t) (c:=c) (f:=f) (δ:=δ) g (fun d' hd=>h d' (List.mem_cons_of_mem _ hd))
   unfold jo;rw[h1,R.bo,h2,R.bo,if_pos rfl,h3,R.bo,ih];rfl
theorem wO{F G:FS}{δ cg:ar}{r:R Out}(h:F δ= .ok (.nx cg))(h2:G cg=r):rK F G δ=r:=by unfold rK;rw [h,R.bo];exact h2
theorem fX{f:ar->R (List D)}{δ:ar}{ds:List D}(h:f δ= .ok ds):eNew f δ= .ok (.lst ds):=by unfold eNew;rw [h];rfl
theorem rn{f:FD}{δ:ar}{d:D}(h:f δ= .ok d):rN f δ= .ok (.rt d):=by unfold rN;rw [h];rfl
theorem vB{N:List Str}{F:FS}{ds:List D}{d:D}(h:F (fV N ds)= .ok (.rt d)):zO N F ds= .ok d:=by unfold zO;rw [h];rfl
theorem cB{α:Type}{p:Prop} [Decidable p](r:R α)(h:p):R.ba (decide p) r=r:=by rw[decide_eq_true h];rfl
theorem wu{i:Nat}{f:FD}{δ:ar}{d:D}(h:f δ= .ok d)(hi:i < δ.length):sH i f δ= .ok (.nx (δ.set i (.val d))):=by unfold sH;rw [h,R.bo,cB _ hi]
theorem dg{it:ar->R (List D)}{c:ar->R Bool}{own:List Str}{kp:List Nat}{δ:ar}{ds ys:List D}(h1:it δ= .ok ds)(h2:ds.length<=sizeLine)(h3:jo t c f (kI own kp δ) ds= .ok ys):dA it t c f own kp δ= .ok ys:=by unfold dA;rw [h1,R.bo,cB _ h2,h3]
theorem zc{ds:List D}{i:Int}{d:D}(h:lj ds i=some d):cu (.lst ds) (.int i)= .ok d:=by unfold cu;simp only[h]
theorem Am{ds:List D}{i:Int}{d:D}(h:lj ds i=some d):cu (.tup ds) (.int i)= .ok d:=by unfold cu;simp only[h]
end L2
end
section
namespace L2
open PySem PySem.Spec PyProof.Rows
theorem bB{g:D->D->R D}{fa fb:FD}{δ:ar}{a b:D}{r:R D}(ha:fa δ= .ok a)(hb:fb δ= .ok b)(h:g a b=r):e2 g fa fb δ=r:=by unfold e2;rw [ha,R.bo,hb,R.bo];exact h
theorem oa{g:D->D->R D}{fa fb:FD}{δ:ar}{a b:D}{k:Bool}(ha:fa δ= .ok a)(hb:fb δ= .ok b)(h:g a b= .ok (.bl k)):b2 g fa fb δ= .ok k:=by unfold b2;rw [bB ha hb h];rfl
theorem aJ{f:FD}{g:ar->R (List D)}{δ:ar}{d:D}{ds:List D}(h:f δ= .ok d)(h2:g δ= .ok ds):aq f g δ= .ok (d ::ds):=by unfold aq;rw [h,R.bo,h2];rfl
theorem bJ{g:List D->R D}{fs:ar->R (List D)}{δ:ar}{ds:List D}{r:R D}(h:fs δ= .ok ds)(h2:g ds=r):aV g fs δ=r:=by unfold aV;rw [h,R.bo];exact h2
theorem dS{g:ar->R (List D)}{δ:ar}{ds:List D}(h:g δ= .ok ds)(hl:ds.length<=sizeLine):f9 g δ= .ok (.tup ds):=by unfold f9;rw [h,R.bo,cB _ hl]
theorem ny{g:ar->R (List D)}{δ:ar}{ds:List D}(h:g δ= .ok ds)(hl:ds.length<=sizeLine):fu g δ= .ok ds:=by unfold fu;rw [h,R.bo,cB _ hl]
theorem vf{f:FD}{fl fh:FO}{δ:ar}{d:D}{lo hi:Option Int}{r:R D}(h:f δ= .ok d)(h1:fl δ= .ok lo)(h2:fh δ= .ok hi)(h3:DD d lo hi=r):Be f fl fh δ=r:=by unfold Be;rw [h,R.bo,h1,R.bo,h2,R.bo];exact h3
theorem pH{a b:Int}(h:0 < b):jn (.int a) (.int b)= .ok (.int (a % b)):=by unfold jn n5;exact cB _ h
theorem xi{a b:Int}(h:0 < b)(h2:b < 1073741824):jY (.int a) (.int b)= .ok (.int (a / b)):=by unfold jY n5;exact cB _ ⟨h,h2⟩
theorem ju{f:FD}{δ:ar}{n:Nat}(h:f δ= .ok (.int n))(hn:n < 1000000):gf f δ= .ok (eu 0 n):=by
 unfold gf;rw [h,R.bo];show R.ba (decide (-(2 ^ 62)<=(n:Int)/\(n:Int) < 2 ^ 62)) _=_;rw[cB _ ⟨by omega,by omega⟩,Int.toNat_natCast]
theorem Ax{f:FD}{δ:ar}{ds:List D}(h:f δ= .ok (.lst ds)):di f δ= .ok ds:=by unfold di;rw [h];rfl
theorem qf{f:FD}{δ:ar}{ds:List D}(h:f δ= .ok (.tup ds)):di f δ= .ok ds:=by unfold di;rw [h];rfl
theorem Ah{f:FD}{δ:ar}{b:Bool}(h:f δ= .ok (.bl b)):Bh f δ= .ok b:=by unfold Bh;rw [h];rfl
theorem k7(ds:List D):dR [.lst ds]= .ok (.int ds.length):=rfl
end L2
end
section
namespace L3
open PySem PySem.Spec PyProof.Rows L2
inductive V3 where
 | d (x:D) | loc (k:Nat) | lst (vs:List V3) | tup (vs:List V3)
inductive SO where
 | lst (ds:List D) | dct (aI:List (Key × D)) | ins (c:Nat) (fs:List (Str × V3)) | jB | exc (c:Nat)
abbrev aA:=List SO
inductive R3 (α:Type) where
 | ok (a:α) (S:aA) | ex (c:Nat) (S:aA) | no
def R3.bind{α β:Type}:R3 α->(α->aA->R3 β)->R3 β
 | .ok a S,f=>f a S
 | .ex c S,_=> .ex c S
 | .no,_=> .no
theorem R3.af{α β:Type}{r:R3 α}{f:α->aA->R3 β}{b:β}{S':aA}(h:r.bind f= .ok b S'):∃a S,r= .ok a S/\f a S= .ok b S':=by
 cases r with
 | ok a S=>exact⟨a,S,rfl,h⟩
 | ex c S=>cases h
 | no=>cases h
@[simp] theorem R3.bo{α β:Type}(a:α)(S:aA)(f:α->aA->R3 β):(R3.ok a S).bind f=f a S:=rfl
def R3.ba{α:Type}(c:Bool)(r:R3 α):R3 α:=if c then r else .no
theorem R3.aH{α:Type}{c:Bool}{r:R3 α}{a:α}{S:aA}(h:R3.ba c r= .ok a S):c=true/\r= .ok a S:=by
 cases c with
 | true=>exact⟨rfl,h⟩
 | false=>cases h
def R3.of{α:Type}(r:R α)(S:aA):R3 α:=match r with | .ok a=> .ok a S | _=> .no
theorem R3.of_ok{α:Type}{r:R α}{S S':aA}{a:α}(h:R3.of r S= .ok a S'):r= .ok a/\S'=S:=by
 cases r with
 | ok b=>cases h;exact⟨rfl,rfl⟩
 | ex c=>cases h
 | no=>cases h
structure P3 where
 r:List Addr
 z:List Addr
 f:List Addr
def P3.b(ρ:P3):List Addr:=ρ.r.filter (fun a=>!ρ.f.contains a)++ρ.z
theorem P3.dc{ρ:P3}{a:Addr}:a∈ρ.b↔(a∈ρ.r/\a ∉ ρ.f)\/a∈ρ.z:=by
 unfold P3.b;rw[List.mem_append,List.mem_filter];simp
def P3.push(ρ:P3)(a:Addr):P3:=⟨ρ.r++[a],ρ.z,ρ.f⟩
def P3.cut(ρ:P3)(n:Nat):P3:=⟨ρ.r.take n,ρ.z,ρ.f⟩
mutual
def aB(K:W.Frag)(ρ:P3)(H:Hp):V3->V->Prop
 | .d x,v=>Rep K ρ.b H x v
 | .loc k,v=>∃a,ρ.r[k]? =some a/\v= .ref a
 | .lst vs,v=>∃a xs,v= .ref a/\lu K ρ.b H a xs/\aw K ρ H vs xs
 | .tup vs,v=>∃a xs,v= .ref a/\nT K ρ.b H a xs/\aw K ρ H vs xs
def aw(K:W.Frag)(ρ:P3)(H:Hp):List V3->List V->Prop
 | [],xs=>xs=[]
 | d ::ds,xs=>∃x r,xs=x ::r/\aB K ρ H d x/\aw K ρ H ds r
end
structure Pre (ρ:P3) (H:Hp) (br:P3) (H':Hp):Prop where
 bf:de ρ.b H br.b H'
 zz:br.z=ρ.z
 zs:∀(b:Addr) (o:HO),b∈ρ.z->H b=some o->H' b=some o
 ext:∀(k:Nat) (a:Addr),ρ.r[k]? =some a->br.r[k]? =some a
theorem Pre.refl(ρ:P3)(H:Hp):Pre ρ H ρ H:=⟨de.refl ρ.b H,rfl,fun _ _ _ h=>h,fun _ _ h=>h⟩
theorem Pre.trans(a:Pre ρ H br H')(b:Pre br H' vS jT):Pre ρ H vS jT:=⟨a.bf.trans b.bf,b.zz.trans a.zz,fun c o hc h=>b.zs c o (by rw[a.zz];exact hc) (a.zs c o hc h),fun k x h=>b.ext k x (a.ext k x h)⟩
theorem Pre.same(s:aG H H'):Pre ρ H ρ H':=⟨de.same s,rfl,fun b o _ h=>s b o h,fun _ _ h=>h⟩
theorem nT.bf{K:W.Frag}{B B':List Addr}(p:de B H B' H'){a:Addr}{xs:List V}(l:nT K B H a xs):nT K B' H' a xs:=
 l.elim (fun z=> .inl ⟨(p.rd z.2 z.1).2,(p.rd z.2 z.1).1⟩) .inr
mutual
theorem aB.pre{K:W.Frag}(p:Pre ρ H br H'):∀{d:V3} {v:V},aB K ρ H d v->aB K br H' d v
 | .d x,v,h=>by unfold aB at h ⊢;exact h.bf p.bf
 | .loc k,v,h=>by unfold aB at h ⊢;obtain⟨a,h1,h2⟩:=h;exact⟨a,p.ext k a h1,h2⟩
 | .lst vs,v,h=>by unfold aB at h ⊢;obtain⟨a,xs,e,l,r⟩:=h;exact⟨a,xs,e,l.bf p.bf,aw.pre p r⟩
 | .tup vs,v,h=>by unfold aB at h ⊢;obtain⟨a,xs,e,l,r⟩:=h;exact⟨a,xs,e,nT.bf p.bf l,aw.pre p r⟩
theorem aw.pre{K:W.Frag}(p:Pre ρ H br H'):∀{ds:List V3} {xs:List V},aw K ρ H ds xs->aw K br H' ds xs
 | [],_,h=>by unfold aw at h ⊢;exact h
 | d ::ds,xs,h=>by
   unfold aw at h ⊢;obtain⟨x,r,e,h1,h2⟩:=h;exact⟨x,r,e,aB.pre p h1,aw.pre p h2⟩
end
structure PW (ρ:P3) (H:Hp) (br:P3) (H':Hp):Prop where
 bf:de ρ.b H br.b H'
 ext:∀(k:Nat) (a:Addr),ρ.r[k]? =some a->br.r[k]? =some a
theorem Pre.pw(p:Pre ρ H br H'):PW ρ H br H':=⟨p.bf,p.ext⟩
theorem PW.trans(a:PW ρ H br H')(b:PW br H' vS jT):PW ρ H vS jT:=⟨a.bf.trans b.bf,fun k x h=>b.ext k x (a.ext k x h)⟩
mutual
theorem aB.pw{K:W.Frag}(p:PW ρ H br H'):∀{d:V3} {v:V},aB K ρ H d v->aB K br H' d v
 | .d x,v,h=>by unfold aB at h ⊢;exact h.bf p.bf
 | .loc k,v,h=>by unfold aB at h ⊢;obtain⟨a,h1,h2⟩:=h;exact⟨a,p.ext k a h1,h2⟩
 | .lst vs,v,h=>by unfold aB at h ⊢;obtain⟨a,xs,e,l,r⟩:=h;exact⟨a,xs,e,l.bf p.bf,aw.pw p r⟩
 | .tup vs,v,h=>by unfold aB at h ⊢;obtain⟨a,xs,e,l,r⟩:=h;exact⟨a,xs,e,nT.bf p.bf l,aw.pw p r⟩
theorem aw.pw{K:W.Frag}(p:PW ρ H br H'):∀{ds:List V3} {xs:List V},aw K ρ H ds xs->aw K br H' ds xs
 | [],_,h=>by unfold aw at h ⊢;exact h
 | d ::ds,xs,h=>by
   unfold aw at h ⊢;obtain⟨x,r,e,h1,h2⟩:=h;exact⟨x,r,e,aB.pw p h1,aw.pw p h2⟩
end
theorem aw.nil{K:W.Frag}:aw K ρ H [] []:=by unfold aw;rfl
theorem aw.cons{K:W.Frag}{d:V3}{ds:List V3}{x:V}{xs:List V}(h:aB K ρ H d x)(t:aw K ρ H ds xs):aw K ρ H (d ::ds) (x ::xs):=by
 unfold aw;exact⟨x,xs,rfl,h,t⟩
theorem aw.bQ{K:W.Frag}{d:V3}{ds:List V3}{xs:List V}(h:aw K ρ H (d ::ds) xs):∃x r,xs=x ::r/\aB K ρ H d x/\aw K ρ H ds r:=by
 unfold aw at h;exact h
theorem aw.length{K:W.Frag}:∀{ds:List V3} {xs:List V},aw K ρ H ds xs->ds.length=xs.length
 | [],_,h=>by unfold aw at h;rw [h];rfl
 | d ::ds,xs,h=>by
   obtain⟨x,r,rfl,_,h2⟩:=h.bQ;simp [h2.length]
theorem aw.of{K:W.Frag}{ρ:P3}:∀{ds:List D} {xs:List V},ay K ρ.b H ds xs->aw K ρ H (ds.map .d) xs
 | [],_,h=>by unfold ay at h;subst h;exact aw.nil
 | d ::ds,xs,h=>by
   obtain⟨x,r,rfl,h1,h2⟩:=h.bQ;exact aw.cons (by unfold aB;exact h1) (aw.of h2)
theorem aw.to{K:W.Frag}{ρ:P3}:∀{ds:List D} {xs:List V},aw K ρ H (ds.map .d) xs->ay K ρ.b H ds xs
 | [],_,h=>by unfold aw at h;subst h;exact ay.nil
 | d ::ds,xs,h=>by
   obtain⟨x,r,rfl,h1,h2⟩:=aw.bQ h;unfold aB at h1;exact ay.cons h1 (aw.to h2)
def isExc(C b:Addr):Heap->Prop:=fun h=>∃o,h.get? b=some o/\o.cls= .ref C
def sS(K:W.Frag)(cl:KZ)(ρ:P3)(H:Hp):SO->Option HO->Prop
 | .lst ds,h=>∃xs,h=some (.lst xs)/\ay K ρ.b H ds xs
 | .dct aI,h=>∃ys,h=some (.dK ys)/\ys.map (·.1)=aI.map (·.1)/\ay K ρ.b H (aI.map (·.2)) (ys.map (·.2))
 | .ins c fs,h=>∃dx ys,h=some (.ins (cl c) dx ys)/\ys.map (·.1)=fs.map (·.1)/\aw K ρ H (fs.map (·.2)) (ys.map (·.2))
 | .jB,h=>∃u,h=some u
 | .exc c,h=>∃b,h=some (.ext (isExc (cl c) b))
theorem sS.pre{K:W.Frag}{cl:KZ}(p:Pre ρ H br H'){o:SO}{h:Option HO}(r:sS K cl ρ H o h):sS K cl br H' o h:=by
 cases o with
 | lst ds=>obtain⟨xs,e,q⟩:=r;exact⟨xs,e,q.bf p.bf⟩
 | dct aI=>obtain⟨ys,e,e2,q⟩:=r;exact⟨ys,e,e2,q.bf p.bf⟩
 | ins c fs=>obtain⟨dx,ys,e,e2,q⟩:=r;exact⟨dx,ys,e,e2,q.pre p⟩
 | jB=>exact r
 | exc c=>exact r
theorem sS.pw{K:W.Frag}{cl:KZ}(p:PW ρ H br H'){o:SO}{h:Option HO}(r:sS K cl ρ H o h):sS K cl br H' o h:=by
 cases o with
 | lst ds=>obtain⟨xs,e,q⟩:=r;exact⟨xs,e,q.bf p.bf⟩
 | dct aI=>obtain⟨ys,e,e2,q⟩:=r;exact⟨ys,e,e2,q.bf p.bf⟩
 | ins c fs=>obtain⟨dx,ys,e,e2,q⟩:=r;exact⟨dx,ys,e,e2,q.pw p⟩
 | jB=>exact r
 | exc c=>exact r
theorem sS.some{K:W.Frag}{cl:KZ}{o:SO}{h:Option HO}(r:sS K cl ρ H o h):∃u,h=some u:=by
 cases o with
 | lst ds=>obtain⟨xs,e,q⟩:=r;exact⟨_,e⟩
 | dct aI=>obtain⟨ys,e,e2,q⟩:=r;exact⟨_,e⟩
 | ins c fs=>obtain⟨dx,ys,e,e2,q⟩:=r;exact⟨_,e⟩
 | jB=>exact r
 | exc c=>obtain⟨b,e⟩:=r;exact⟨_,e⟩
structure SW (K:W.Frag) (cl:KZ) (ρ:P3) (H:Hp) (S:aA):Prop where
 len:ρ.r.length=S.length
 nd:∀(i j:Nat) (a:Addr),ρ.r[i]? =some a->ρ.r[j]? =some a->i=j
 ob:∀(k:Nat) (a:Addr) (o:SO),ρ.r[k]? =some a->S[k]? =some o->sS K cl ρ H o (H a)
 zb:∀b∈ρ.z,(∃xs,H b=some (.lst xs))/\b ∉ ρ.r
 fz:∀(k:Nat) (a:Addr),ρ.r[k]? =some a->S[k]?≠some .jB->a ∉ ρ.f
 ff:∀a∈ρ.f,∃o,H a=some o
 fi:∀(k:Nat) (a:Addr),ρ.r[k]? =some a->S[k]? =some .jB->a∈ρ.f
theorem SW.rs{K:W.Frag}{cl:KZ}{ρ:P3}{H:Hp}{S:aA}(w:SW K cl ρ H S):∀a∈ρ.r,∃o,H a=some o:=fun a z=>by
 obtain⟨k,hk⟩:=List.getElem?_of_mem z;have hl:=(List.getElem?_eq_some_iff.mp hk).1;exact(w.ob k a _ hk (List.getElem?_eq_getElem (by rw[<-w.len];exact hl))).some
theorem SW.bs{K:W.Frag}{cl:KZ}{ρ:P3}{H:Hp}{S:aA}(w:SW K cl ρ H S):∀a∈ρ.b,∃o,H a=some o:=fun a ha=>by
 rcases P3.dc.mp ha with z | z
 .exact w.rs a z.1
 .obtain⟨xs,h⟩:=(w.zb a z).1;exact⟨_,h⟩
theorem SW.same{K:W.Frag}{cl:KZ}{S:aA}(w:SW K cl ρ H S)(s:aG H H'):SW K cl ρ H' S:=
 ⟨w.len,w.nd,fun k a o h1 h2=>by
   have r:=w.ob k a o h1 h2;obtain⟨u,hu⟩:=r.some;rw[s a u hu,<-hu];exact r.pre (Pre.same s),fun b hb=>let⟨⟨o,ho⟩,n⟩:=w.zb b hb;⟨⟨o,s b _ ho⟩,n⟩,w.fz,fun a ha=>let⟨o,ho⟩:=w.ff a ha;⟨o,s a o ho⟩,w.fi⟩
theorem P3.mem_push{ρ:P3}{a b:Addr}(h:b∈(ρ.push a).b):b∈ρ.b\/b=a:=by
 rcases P3.dc.mp h with⟨z,n⟩ | z
 .rcases List.mem_append.mp z with y | y
  .exact .inl (P3.dc.mpr (.inl ⟨y,n⟩))
  .exact .inr (List.mem_singleton.mp y)
 .exact .inl (P3.dc.mpr (.inr z))
theorem SW.new{K:W.Frag}{cl:KZ}{ρ:P3}{H H':Hp}{S:aA}(w:SW K cl ρ H S){a:Addr}{o:SO}(s:aG H H')(n:H a=none)(r:sS K cl (ρ.push a) H' o (H' a))(yj:o≠SO.jB:=by intro h;cases h) :
 SW K cl (ρ.push a) H' (S++[o])/\Pre ρ H (ρ.push a) H':=by
 have na:a ∉ ρ.b:=fun ha=>by obtain⟨o,ho⟩:=w.bs a ha;rw [n] at ho;cases ho
 have nr:a ∉ ρ.r:=fun ha=>by obtain⟨o,ho⟩:=w.rs a ha;rw [n] at ho;cases ho
 have nf:a ∉ ρ.f:=fun ha=>by obtain⟨o,ho⟩:=w.ff a ha;rw [n] at ho;cases ho
 have p:Pre ρ H (ρ.push a) H':=⟨fun b u e nb=>⟨s b u e,fun hb=>by
  rcases P3.mem_push hb with z | z
  .exact nb z
  .subst z;rw [n] at e;cases e⟩,rfl,fun b o _ h=>s b o h,fun k x hx=>by
   show(ρ.r++[a])[k]? =_;rw[List.getElem?_append_left (List.getElem?_eq_some_iff.mp hx).1];exact hx⟩
 have last:∀(i:Nat) (b:Addr),(ρ.push a).r[i]? =some b->(i < ρ.r.length/\ρ.r[i]? =some b)\/(i=ρ.r.length/\b=a):=fun i b h=>by
  have h:(ρ.r++[a])[i]? =some b:=h;by_cases q:i < ρ.r.length
  .rw [List.getElem?_append_left q] at h;exact .inl ⟨q,h⟩
  .rw [List.getElem?_append_right (by omega)] at h
   have h0:i - ρ.r.length=0:=by
    have:=(List.getElem?_eq_some_iff.mp h).1;simp at this;omega
   rw[h0] at h;cases h;exact .inr ⟨by omega,rfl⟩
 refine⟨⟨by show(ρ.r++[a]).length=_;rw [List.length_append,List.length_append,w.len];rfl,fun i j b hi hj=>?_,fun k b u hk hu=>?_,fun b hb=>?_,fun k b hk hu=>?_,fun b hb=>?_,fun k b hk hu=>?_⟩,p⟩
 .rcases last i b hi with⟨q1,q2⟩ | ⟨q1,rfl⟩
  .rcases last j b hj with⟨z1,z2⟩ | ⟨z1,rfl⟩
   .exact w.nd i j b q2 z2
   .exact absurd (List.mem_of_getElem? q2) nr
  .rcases last j b hj with⟨z1,z2⟩ | ⟨z1,z3⟩
   .exact absurd (List.mem_of_getElem? z2) nr
   .omega
 .rcases last k b hk with⟨q1,q2⟩ | ⟨q1,rfl⟩
  .rw [List.getElem?_append_left (by rw[<-w.len];exact q1)] at hu
   have r0:=w.ob k b u q2 hu;obtain⟨x,hx⟩:=r0.some;rw[s b x hx,<-hx];exact r0.pre p
  .rw [List.getElem?_append_right (by rw[<-w.len];omega),q1,w.len,Nat.sub_self] at hu
   cases hu;exact r
 .obtain⟨⟨o,ho⟩,nb⟩:=w.zb b hb;refine⟨⟨o,s b _ ho⟩,fun h=>?_⟩
  rcases List.mem_append.mp h with y | y
  .exact nb y
  .rw [List.mem_singleton] at y;subst y;rw [n] at ho;cases ho
 .rcases last k b hk with⟨q1,q2⟩ | ⟨q1,rfl⟩
  .rw [List.getElem?_append_left (by rw[<-w.len];exact q1)] at hu
   exact w.fz k b q2 hu
  .exact nf
 .obtain⟨o,ho⟩:=w.ff b hb;exact⟨o,s b o ho⟩
 .rcases last k b hk with⟨q1,q2⟩ | ⟨q1,rfl⟩
  .rw [List.getElem?_append_left (by rw[<-w.len];exact q1)] at hu
   exact w.fi k b q2 hu
  .rw [List.getElem?_append_right (by rw[<-w.len];omega),q1,w.len,Nat.sub_self] at hu
   cases hu;exact absurd rfl yj
theorem SW.put{K:W.Frag}{cl:KZ}{ρ:P3}{S:aA}(w:SW K cl ρ H S){k:Nat}{a:Addr}{o:SO}{u:HO}(hk:ρ.r[k]? =some a)(hf:a ∉ ρ.f)(r:sS K cl ρ H o (some u))(yj:o≠SO.jB:=by intro h;cases h) :
 SW K cl ρ (upd H a u) (S.set k o)/\Pre ρ H ρ (upd H a u):=by
 have ha:a∈ρ.r:=List.mem_of_getElem? hk;have hb:a∈ρ.b:=P3.dc.mpr (.inl ⟨ha,hf⟩);have nz:∀b∈ρ.z,b≠a:=fun b hb z=>(w.zb b hb).2 (by rw[z];exact ha)
 have p:Pre ρ H ρ (upd H a u):=⟨fun b x e nb=>⟨by rw[aW (fun(z:b=a)=>nb (by rw[z];exact hb))];exact e,nb⟩,rfl,fun b o hb h=>by rw[aW (nz b hb)];exact h,fun _ _ h=>h⟩
 have hl:k < S.length:=by rw[<-w.len];exact(List.getElem?_eq_some_iff.mp hk).1
 refine⟨⟨by rw[List.length_set];exact w.len,w.nd,fun j b x hj hx=>?_,fun b hb=>?_,fun j b hj hx=>?_,fun b hb=>?_,fun j b hj hx=>?_⟩,p⟩
 .by_cases q:k=j
  .subst q;rw[hk] at hj;cases hj;rw[List.getElem?_set_self hl] at hx;cases hx;rw[aU];exact r.pre p
  .rw [List.getElem?_set_ne q] at hx;have ne:b≠a:=fun z=>by subst z;exact q (w.nd k j b hk hj)
   rw[aW ne];exact(w.ob j b x hj hx).pre p
 .obtain⟨⟨o,ho⟩,nb⟩:=w.zb b hb;exact⟨⟨o,by rw[aW (nz b hb)];exact ho⟩,nb⟩
 .by_cases q:k=j
  .subst q;rw[hk] at hj;cases hj;exact hf
  .rw [List.getElem?_set_ne q] at hx;exact w.fz j b hj hx
 .obtain⟨o,ho⟩:=w.ff b hb;exact⟨o,by rw[aW (fun z=>hf (by rw[<-z];exact hb))];exact ho⟩
 .by_cases q:k=j
  .subst q;rw[List.getElem?_set_self hl] at hx;cases hx;exact absurd rfl yj
  .rw [List.getElem?_set_ne q] at hx;exact w.fi j b hj hx
mutual
def jk:D->Bool
 | .lst _=>false
 | .dct _ _=>false
 | .tup ds=>dX ds
 | _=>true
def dX:List D->Bool
 | []=>true
 | d ::ds=>jk d && dX ds
end
mutual
theorem Rep.mq{K:W.Frag}{B:List Addr}(hB:∀b∈B,∀xs,¬Rd H b (.tup xs)):∀{d:D} {v:V},jk d=true->Rep K [] H d v->Rep K B H d v
 | .cy,v,_,r=>Rep.cy.mpr (Rep.cy.mp r)
 | .bl _,v,_,r=>Rep.bl.mpr (Rep.bl.mp r)
 | .int _,v,_,r=>Rep.int.mpr (Rep.int.mp r)
 | .str _,v,_,r=>Rep.str.mpr (Rep.str.mp r)
 | .lst _,v,h,_=>by unfold jk at h;cases h
 | .dct _ _,v,h,_=>by unfold jk at h;cases h
 | .tup ds,v,h,r=>by
   unfold jk at h;obtain⟨a,xs,rfl,l,rs⟩:=Rep.tup.mp r;exact Rep.tup.mpr ⟨a,xs,rfl,l.elim (fun z=> .inl ⟨fun hb=>hB a hb xs z.2,z.2⟩) .inr,ay.mq hB h rs⟩
theorem ay.mq{K:W.Frag}{B:List Addr}(hB:∀b∈B,∀xs,¬Rd H b (.tup xs)):∀{ds:List D} {vs:List V},dX ds=true->ay K [] H ds vs->ay K B H ds vs
 | [],_,_,r=>by unfold ay at r;subst r;exact ay.nil
 | d ::ds,vs,h,r=>by
   unfold dX at h;obtain⟨h1,h2⟩:=Bool.and_eq_true_iff.mp h;obtain⟨x,xs,rfl,r1,r2⟩:=r.bQ;exact ay.cons (Rep.mq hB h1 r1) (ay.mq hB h2 r2)
end
theorem SW.nt{K:W.Frag}{cl:KZ}{ρ:P3}{S:aA}(w:SW K cl ρ H S):∀b∈ρ.b,∀xs,¬Rd H b (.tup xs):=fun b hb xs h=>by
 have key:∀o,H b=some o->(∀xs,o≠ .tup xs)->(∀ob xs,o≠ .jB ob (.tup xs))->False:=fun o e h1 h2=>by
  rcases h with z | ⟨ob,z⟩
  .rw [e] at z;cases z;exact h1 _ rfl
  .rw [e] at z;cases z;exact h2 _ _ rfl
 rcases P3.dc.mp hb with⟨z,n⟩ | z
 .obtain⟨k,hk⟩:=List.getElem?_of_mem z;have hl:=(List.getElem?_eq_some_iff.mp hk).1;have hS:S[k]? =some (S[k]'(by rw[<-w.len];exact hl)):=List.getElem?_eq_getElem (by rw[<-w.len];exact hl)
  have r:=w.ob k b _ hk hS;generalize S[k]'(by rw[<-w.len];exact hl)=o at r hS
  cases o with
  | lst ds=>obtain⟨ys,e,_⟩:=r;exact key _ e (fun _ q=>by cases q) (fun _ _ q=>by cases q)
  | dct aI=>obtain⟨ys,e,_⟩:=r;exact key _ e (fun _ q=>by cases q) (fun _ _ q=>by cases q)
  | ins c fs=>obtain⟨dx,ys,e,_⟩:=r;exact key _ e (fun _ q=>by cases q) (fun _ _ q=>by cases q)
  | jB=>exact n (w.fi k b hk hS)
  | exc c=>obtain⟨b',e⟩:=r;exact key _ e (fun _ q=>by cases q) (fun _ _ q=>by cases q)
 .obtain⟨⟨ys,e⟩,_⟩:=w.zb b z;exact key _ e (fun _ q=>by cases q) (fun _ _ q=>by cases q)
abbrev DE:=List (Option V3)
structure cY (K:W.Frag) (cl:KZ) (ρ:P3) (H:Hp) (S:aA) (σ:L2.St) (δ:DE):Prop where
 len:δ.length=σ.length
 sw:SW K cl ρ H S
 val:∀(i:Nat) (d:V3),δ[i]? =some (some d)->∃v,σ[i]? =some (some v)/\aB K ρ H d v
theorem cY.to{K:W.Frag}{cl:KZ}{S S':aA}{σ:L2.St}{δ:DE}(E:cY K cl ρ H S σ δ)(p:Pre ρ H br H')(w:SW K cl br H' S'):cY K cl br H' S' σ δ:=
 ⟨E.len,w,fun i d e=>let⟨v,h1,h2⟩:=E.val i d e;⟨v,h1,h2.pre p⟩⟩
theorem cY.set{K:W.Frag}{cl:KZ}{S:aA}{σ:L2.St}{δ:DE}(E:cY K cl ρ H S σ δ){i:Nat}{d:V3}{v:V}(hi:i < σ.length)(r:aB K ρ H d v):cY K cl ρ H S (σ.set i (some v)) (δ.set i (some d)):=
 ⟨by rw[List.length_set,List.length_set];exact E.len,E.sw,fun j d' e=>by
   by_cases h:i=j
   .subst h;rw[List.getElem?_set_self (by rw[E.len];exact hi)] at e
    cases e;exact⟨v,List.getElem?_set_self hi,r⟩
   .rw [List.getElem?_set_ne h] at e ⊢;exact E.val j d' e⟩
def down(δ:DE):ar:=δ.map fun x=>match x with | some (.d d)=> .val d | _=> .un
theorem cY.down{K:W.Frag}{cl:KZ}{ρ:P3}{S:aA}{σ:L2.St}{δ:DE}(E:cY K cl ρ H S σ δ):ee K [] ρ.b H σ (down δ) where
 len:=by unfold L3.down;rw [List.length_map];exact E.len
 bs:=E.sw.bs
 zb:=fun a ha=>by cases ha
 val:=fun i d e=>by
  unfold L3.down at e;rw[List.getElem?_map] at e;cases q:δ[i]? with
  | none=>rw [q] at e;cases e
  | some x=>
    rw[q] at e
    match x,e,q with
    | some (.d y),e,q=>
      cases e;obtain⟨v,h1,h2⟩:=E.val i _ q;unfold aB at h2;exact⟨v,h1,h2⟩
    | some (.loc k),e,q=>cases e
    | some (.lst k),e,q=>cases e
    | some (.tup k),e,q=>cases e
    | none,e,q=>cases e
 bld:=fun i ds e=>by
  unfold L3.down at e;rw[List.getElem?_map] at e;cases q:δ[i]? with
  | none=>rw [q] at e;cases e
  | some x=>
    rw[q] at e
    match x,e with
    | some (.d y),e=>cases e
    | some (.loc k),e=>cases e
    | some (.lst k),e=>cases e
    | some (.tup k),e=>cases e
    | none,e=>cases e
 dis:=fun i j a ds es e=>by
  unfold L3.down at e;rw[List.getElem?_map] at e;cases q:δ[i]? with
  | none=>rw [q] at e;cases e
  | some x=>
    rw[q] at e
    match x,e with
    | some (.d y),e=>cases e
    | some (.loc k),e=>cases e
    | some (.lst k),e=>cases e
    | some (.tup k),e=>cases e
    | none,e=>cases e
mutual
def res(S:aA):V3->Option D
 | .d x=>some x
 | .loc k=>(match S[k]? with | some (.lst ds)=>some (.lst ds) | _=>none)
 | .lst vs=>(kN S vs).map D.lst
 | .tup vs=>(kN S vs).map D.tup
def kN(S:aA):List V3->Option (List D)
 | []=>some []
 | v ::vs=>(res S v).bind fun d=>(kN S vs).map (d ::·)
end
def bX(S:aA)(δ:DE):ar:=δ.map fun x=>match x with | some v=>(match res S v with | some d=> .val d | none=> .un) | none=> .un
theorem jQ{α β:Type}{o:Option α}{f:α->β}{b:β}(h:o.map f=some b):∃a,o=some a/\f a=b:=by
 cases o with
 | none=>cases h
 | some a=>cases h;exact⟨a,rfl,rfl⟩
theorem pN{α β:Type}{o:Option α}{f:α->Option β}{b:β}(h:o.bind f=some b):∃a,o=some a/\f a=some b:=by
 cases o with
 | none=>cases h
 | some a=>exact⟨a,rfl,h⟩
mutual
def ek(n:Nat):V3->Bool
 | .d _=>true
 | .loc k=>decide (n<=k)
 | .lst vs=>gx n vs
 | .tup vs=>gx n vs
def gx(n:Nat):List V3->Bool
 | []=>true
 | v ::vs=>ek n v && gx n vs
end
mutual
theorem aB.resB{K:W.Frag}{cl:KZ}{ρ:P3}{S:aA}{B':List Addr}{n:Nat}(w:SW K cl ρ H S)(p:de ρ.b H B' H)(hn:∀(k:Nat) (a:Addr),n<=k->ρ.r[k]? =some a->a ∉ B'):∀{v:V3} {d:D} {x:V},ek n v=true->res S v=some d->aB K ρ H v x->Rep K B' H d x
 | .d y,d,x,_,h,r=>by unfold L3.res at h;cases h;unfold aB at r;exact r.bf p
 | .loc k,d,x,g,h,r=>by
   unfold L3.res at h;unfold aB at r;unfold ek at g;obtain⟨a,h1,rfl⟩:=r;split at h
   .rename_i ds e;cases h;obtain⟨xs,e2,q⟩:=w.ob k a _ h1 e;unfold Rep;exact⟨a,xs,rfl, .inl ⟨hn k a (of_decide_eq_true g) h1, .inl e2⟩,q.bf p⟩
   .cases h
 | .lst vs,d,x,g,h,r=>by
   unfold L3.res at h;unfold ek at g;obtain⟨ds,e,rfl⟩:=jQ h;unfold aB at r;obtain⟨a,xs,rfl,l,r⟩:=r;unfold Rep;exact⟨a,xs,rfl,l.bf p,aw.resB w p hn g e r⟩
 | .tup vs,d,x,g,h,r=>by
   unfold L3.res at h;unfold ek at g;obtain⟨ds,e,rfl⟩:=jQ h;unfold aB at r;obtain⟨a,xs,rfl,l,r⟩:=r;unfold Rep;exact⟨a,xs,rfl,nT.bf p l,aw.resB w p hn g e r⟩
theorem aw.resB{K:W.Frag}{cl:KZ}{ρ:P3}{S:aA}{B':List Addr}{n:Nat}(w:SW K cl ρ H S)(p:de ρ.b H B' H)(hn:∀(k:Nat) (a:Addr),n<=k->ρ.r[k]? =some a->a ∉ B'):∀{vs:List V3} {ds:List D} {xs:List V},gx n vs=true->kN S vs=some ds->aw K ρ H vs xs->ay K B' H ds xs
 | [],ds,xs,_,h,r=>by unfold kN at h;cases h;unfold aw at r;subst r;exact ay.nil
 | v ::vs,ds,xs,g,h,r=>by
   unfold kN at h;unfold gx at g;obtain⟨g1,g2⟩:=Bool.and_eq_true_iff.mp g;obtain⟨d,e1,h2⟩:=pN h;obtain⟨es,e2,rfl⟩:=jQ h2;obtain⟨y,ys,rfl,r1,r2⟩:=r.bQ;exact ay.cons (aB.resB w p hn g1 e1 r1) (aw.resB w p hn g2 e2 r2)
end
mutual
theorem lX:∀v:V3,ek 0 v=true
 | .d _=>by unfold ek;rfl
 | .loc k=>by unfold ek;exact decide_eq_true (Nat.zero_le _)
 | .lst vs=>by unfold ek;exact iF vs
 | .tup vs=>by unfold ek;exact iF vs
theorem iF:∀vs:List V3,gx 0 vs=true
 | []=>by unfold gx;rfl
 | v ::vs=>by unfold gx;rw [lX v,iF vs];rfl
end
theorem aB.res{K:W.Frag}{cl:KZ}{S:aA}(w:SW K cl ρ H S){v:V3}{d:D}{x:V}(h:res S v=some d)(r:aB K ρ H v x):Rep K [] H d x:=
 r.resB w (fun b o e _=>⟨e,by simp⟩) (n:=0) (fun _ _ _ _=>by simp) (lX v) h
theorem jL{S:aA}{δ:DE}{i:Nat}{y:Sl}(e:(bX S δ)[i]? =some y):(∃v d,δ[i]? =some (some v)/\res S v=some d/\y= .val d)\/y= .un:=by
 unfold bX at e;rw[List.getElem?_map] at e;cases q:δ[i]? with
 | none=>rw [q] at e;cases e
 | some x=>
   rw[q] at e;cases x with
   | none=>cases e;exact .inr rfl
   | some v=>
     cases z:res S v with
     | none=>
       have e:some (match res S v with | some d=>Sl.val d | none=> .un)=some y:=e
       rw[z] at e;cases e;exact .inr rfl
     | some d=>
       have e:some (match res S v with | some d=>Sl.val d | none=> .un)=some y:=e
       rw[z] at e;cases e;exact .inl ⟨v,d,rfl,z,rfl⟩
theorem cY.bX{K:W.Frag}{cl:KZ}{S:aA}{σ:L2.St}{δ:DE}(E:cY K cl ρ H S σ δ):ee K [] [] H σ (bX S δ) where
 len:=by unfold L3.bX;rw [List.length_map];exact E.len
 bs:=fun a ha=>by cases ha
 zb:=fun a ha=>by cases ha
 val:=fun i d e=>by
  rcases jL e with⟨v,d',h1,h2,h3⟩ | h
  .cases h3;obtain⟨x,q1,q2⟩:=E.val i v h1;exact⟨x,q1,q2.res E.sw h2⟩
  .cases h
 bld:=fun i ds e=>by
  rcases jL e with⟨v,d',h1,h2,h3⟩ | h
  .cases h3
  .cases h
 dis:=fun i j a ds es e=>by
  rcases jL e with⟨v,d',h1,h2,h3⟩ | h
  .cases h3
  .cases h
abbrev FX:=DE->aA->R3 V3
abbrev FB:=DE->aA->R3 Bool
abbrev FA:=DE->aA->R3 (List V3)
def tX(K:W.Frag)(cl:KZ)(f:FX):TE:=fun σ H Q=>∃ρ S δ v S',cY K cl ρ H S σ δ/\f δ S= .ok v S'/\∀u br H',Pre ρ H br H'->SW K cl br H' S'->aB K br H' v u->Q u H'
def zT(K:W.Frag)(cl:KZ)(f:FB):TT:=fun σ H Q=>∃ρ S δ b S',cY K cl ρ H S σ δ/\f δ S= .ok b S'/\∀br H',Pre ρ H br H'->SW K cl br H' S'->Q b H'
def GF(K:W.Frag)(cl:KZ)(f:FA):TA:=fun σ H Q=>∃ρ S δ vs S',cY K cl ρ H S σ δ/\f δ S= .ok vs S'/\∀us br H',Pre ρ H br H'->SW K cl br H' S'->aw K br H' vs us->Q us H'
structure PX (X:Cx) (cl:KZ) (e:Expr) (f:FX):Prop where
 go:PE X e (tX X.K cl f)
structure t7 (X:Cx) (cl:KZ) (e:Expr) (f:FB):Prop where
 go:PT X e (zT X.K cl f)
structure yC (X:Cx) (cl:KZ) (es:List Expr) (f:FA):Prop where
 go:PA X es (GF X.K cl f)
section
variable {X:Cx} {cl:KZ}
def xP(f:FD):FX:=fun δ S=>(R3.of (f (down δ)) S).bind fun d S=> .ok (.d d) S
theorem aj(h:QD X e f):PX X cl e (xP f):=⟨h.1.imp fun σ H Q ⟨ρ,S,δ,v,S',E,hf,q⟩=>by
 obtain⟨d,S1,h1,h2⟩:=R3.af hf;obtain⟨h3,e3⟩:=R3.of_ok h1;cases h2;subst e3;exact⟨[],ρ.b,down δ,d,E.down,h3,fun v H' s r=>q v ρ H' (Pre.same s) (E.sw.same s) (by unfold aB;exact r)⟩⟩
def xT(f:FD):FX:=fun δ S=>(R3.of (f (bX S δ)) S).bind fun d S=>R3.ba (jk d) (.ok (.d d) S)
theorem c9(h:QD X e f):PX X cl e (xT f):=⟨h.1.imp fun σ H Q ⟨ρ,S,δ,v,S',E,hf,q⟩=>by
 obtain⟨d,S1,h1,h2⟩:=R3.af hf;obtain⟨h4,e3⟩:=R3.of_ok h1;obtain⟨ha,h3⟩:=R3.aH h2;cases h3;subst e3;exact⟨[],[],bX _ δ,d,E.bX,h4,fun v H' s r=>q v ρ H' (Pre.same s) (E.sw.same s) (by unfold aB;exact Rep.mq (E.sw.same s).nt ha r)⟩⟩
def bP(f:ar->R Bool):FB:=fun δ S=>R3.of (f (down δ)) S
theorem cw{f:ar->R Bool}(h:QB X e f):t7 X cl e (bP f):=⟨h.1.imp fun σ H Q ⟨ρ,S,δ,v,S',E,hf,q⟩=>by
 obtain⟨h1,e3⟩:=R3.of_ok hf;subst e3;exact⟨[],ρ.b,down δ,v,E.down,h1,fun H' s=>q ρ H' (Pre.same s) (E.sw.same s)⟩⟩
def bT(f:ar->R Bool):FB:=fun δ S=>R3.of (f (bX S δ)) S
def bz(i:Nat):FX:=fun δ S=>match δ[i]? with | some (some v)=> .ok v S | _=> .no
theorem bj(i:Nat){x:Str}{pos:Pos}(hN:X.N[i]? =some x:=by rfl)(hv:Az X.env.scope x:=by first | exact Or.inl rfl | exact Or.inr (Or.inl rfl) | exact Or.inr (Or.inr rfl))(hd:(x==("__debug__":Str))=false:=by decide)
 (lK:(x==("__classdict__":Str))=false:=by decide):PX X cl (.Name x pos) (bz i):=⟨(ni hN hv hd lK).imp fun σ H Q ⟨ρ,S,δ,v,S',E,hf,q⟩=>by
 unfold bz at hf;split at hf
 .rename_i d' e;cases hf;obtain⟨u,h1,h2⟩:=E.val i _ e;exact⟨u,h1,q u ρ H (Pre.refl ρ H) E.sw h2⟩
 .cases hf⟩
def gB(f:ar->R (List D)):FX:=fun δ S=>(R3.of (f (down δ)) S).bind fun ds S=> .ok (.loc S.length) (S++[.lst ds])
theorem fy{f:ar->R (List D)}(h:QN X e f):PX X cl e (gB f):=⟨h.1.imp fun σ H Q ⟨ρ,S,δ,v,S',E,hf,q⟩=>by
 obtain⟨ds,S1,h1,h2⟩:=R3.af hf;obtain⟨h3,e3⟩:=R3.of_ok h1;cases h2;subst e3;refine⟨[],ρ.b,down δ,ds,E.down,h3,fun a xs H' s n e r=>?_⟩
 have r':ay X.K (ρ.push a).b H' ds xs:=r.bf fun b o e nb=>⟨e,fun hb=>nb (by
  rcases P3.mem_push hb with z | z
  .exact List.mem_cons_of_mem _ z
  .subst z;exact List.mem_cons_self)⟩
 obtain⟨w,p⟩:=E.sw.new (o:= .lst ds) s n ⟨xs,e,r'⟩;exact q _ _ H' p w (by unfold aB;exact⟨a,by show(ρ.r++[a])[_]? =_;rw [<-E.sw.len,List.getElem?_append_right (by omega),Nat.sub_self];rfl,rfl⟩)⟩
end
end L3
end
section
namespace L3
open PySem PySem.Spec PyProof.Rows L2
section
variable {X:Cx} {cl:KZ}
def aZ:FA:=fun _ S=> .ok [] S
def ak(f:FX)(g:FA):FA:=fun δ S=>(f δ S).bind fun v S1=>(g δ S1).bind fun vs S2=> .ok (v ::vs) S2
theorem aE:yC X cl [] aZ:=⟨eP.imp fun σ H Q ⟨ρ,S,δ,v,S',E,hf,q⟩=>by
 cases hf;exact q [] ρ H (Pre.refl ρ H) E.sw aw.nil⟩
theorem ag(h:PX X cl e f)(t:yC X cl es g)(hs:starEach (e ::es) X.env=(false,eval e X.env) ::starEach es X.env:=by rfl):yC X cl (e ::es) (ak f g):=
 ⟨(c1 h.1 t.1 hs).imp fun σ H Q ⟨ρ,S,δ,v,S',E,hf,q⟩=>by
   obtain⟨v1,S1,h1,h2⟩:=R3.af hf;obtain⟨vs,S2,h3,h4⟩:=R3.af h2;cases h4;exact⟨ρ,S,δ,v1,S1,E,h1,fun u bu H1 p1 w1 r1=>⟨bu,S1,δ,vs,_,E.to p1 w1,h3,fun us iR H2 p2 w2 r2=>q _ iR H2 (p1.trans p2) w2 (aw.cons (r1.pre p2) r2)⟩⟩⟩
def j6:List V3->Option (List D)
 | []=>some []
 | .d x ::r=>(j6 r).map (x ::·)
 | _ ::_=>none
theorem fK:∀{vs:List V3} {ds:List D},j6 vs=some ds->vs=ds.map .d
 | [],ds,h=>by cases h;rfl
 | .d x ::r,ds,h=>by
   cases e:j6 r with
   | none=>have h:(j6 r).map (x ::·)=some ds:=h;rw [e] at h;cases h
   | some es=>
     have h:(j6 r).map (x ::·)=some ds:=h
     rw[e] at h;cases h;rw[fK e];rfl
 | .loc _ ::_,_,h=>by cases h
 | .lst _ ::_,_,h=>by cases h
 | .tup _ ::_,_,h=>by cases h
theorem k9:∀ds:List D,j6 (ds.map .d)=some ds
 | []=>rfl
 | d ::ds=>by show(j6 (ds.map .d)).map (d ::·)=_;rw [k9 ds];rfl
def nZ(vs:List V3):V3:=match j6 vs with | some ds=> .d (.tup ds) | none=> .tup vs
def j1(vs:List V3):V3:=match j6 vs with | some ds=> .d (.lst ds) | none=> .lst vs
def j7(g:FA):FX:=fun δ S=>(g δ S).bind fun vs S=>R3.ba (decide (vs.length<=sizeLine)) (.ok (nZ vs) S)
theorem i2{H:Hp}{p:Addr}{o:HO}(hp:H p=none):Pre ρ H ρ (upd H p o):=Pre.same (bt hp)
theorem se{K:W.Frag}{ρ:P3}{vs:List V3}{xs:List V}{a:Addr}(l:nT K ρ.b H a xs)(r:aw K ρ H vs xs):aB K ρ H (nZ vs) (.ref a):=by
 unfold nZ;split
 .rename_i ds e;rw[fK e] at r;unfold aB Rep;exact⟨a,xs,rfl,l,r.to⟩
 .unfold aB;exact⟨a,xs,rfl,l,r⟩
theorem mr{K:W.Frag}{ρ:P3}{vs:List V3}{xs:List V}{a:Addr}(l:lu K ρ.b H a xs)(r:aw K ρ H vs xs):aB K ρ H (j1 vs) (.ref a):=by
 unfold j1;split
 .rename_i ds e;rw[fK e] at r;unfold aB Rep;exact⟨a,xs,rfl,l,r.to⟩
 .unfold aB;exact⟨a,xs,rfl,l,r⟩
theorem jP{x1 pos}(h:yC X cl es g):PX X cl (.Tuple es x1 pos) (j7 g):=⟨(qp h.1).imp fun σ H Q ⟨ρ,S,δ,v,S',E,hf,q⟩=>by
 obtain⟨vs,S1,h1,h2⟩:=R3.af hf;obtain⟨hl,h3⟩:=R3.aH h2;cases h3;refine⟨ρ,S,δ,vs,_,E,h1,fun us bu H1 p1 w1 r1=>⟨by rw[<-r1.length];exact of_decide_eq_true hl,fun p hp=>q _ bu _ (p1.trans (i2 hp)) (w1.same (bt hp)) ?_⟩⟩
 refine se (.inl ⟨fun ha=>?_, .inl aU⟩) (r1.pre (i2 hp))
 obtain⟨o,ho⟩:=w1.bs p ha;rw[hp] at ho;cases ho⟩
def p7(g:FA):FX:=fun δ S=>(g δ S).bind fun vs S=>R3.ba (decide (vs.length<=sizeLine)) (.ok (j1 vs) S)
theorem qe{pos}(h:yC X cl es g):PX X cl (.List es pos) (p7 g):=⟨(vy h.1).imp fun σ H Q ⟨ρ,S,δ,v,S',E,hf,q⟩=>by
 obtain⟨vs,S1,h1,h2⟩:=R3.af hf;obtain⟨hl,h3⟩:=R3.aH h2;cases h3;refine⟨ρ,S,δ,vs,_,E,h1,fun us bu H1 p1 w1 r1=>⟨by rw[<-r1.length];exact of_decide_eq_true hl,fun p hp=>q _ bu _ (p1.trans (i2 hp)) (w1.same (bt hp)) ?_⟩⟩
 refine mr (.inl ⟨fun ha=>?_, .inl aU⟩) (r1.pre (i2 hp))
 obtain⟨o,ho⟩:=w1.bs p ha;rw[hp] at ho;cases ho⟩
def x2(g:D->D->R D)(fa fb:FX):FX:=fun δ S=>(fa δ S).bind fun a S1=>(fb δ S1).bind fun b S2=>match a,b with
 | .d x, .d y=>(R3.of (g x y) S2).bind fun d S=> .ok (.d d) S
 | _,_=> .no
theorem Aw{K:W.Frag}{g:D->D->R D}{σ:L2.St}{Q:VK}(h:tX K cl (x2 g fa fb) σ H Q) :
 Bf (fun x y H Q=>∃B da db d,(∀a∈B,∃o,H a=some o)/\Rep K B H da x/\Rep K B H db y/\g da db= .ok d/\∀z H',aG H H'->Rep K B H' d z->Q z H') (tX K cl fa) (tX K cl fb) σ H Q:=by
 obtain⟨ρ,S,δ,v,S',E,hf,q⟩:=h;obtain⟨a,S1,h1,h2⟩:=R3.af hf;obtain⟨b,S2,h3,h4⟩:=R3.af h2
 match a,b,h1,h3,h4 with
 | .d x, .d y,h1,h3,h4=>
   obtain⟨d,S3,h5,h6⟩:=R3.af h4;obtain⟨h7,e⟩:=R3.of_ok h5;cases h6;subst e;refine⟨ρ,S,δ, .d x,S1,E,h1,fun u1 bu H1 p1 w1 r1=>⟨bu,S1,δ, .d y,_,E.to p1 w1,h3,fun u2 iR H2 p2 w2 r2=>?_⟩⟩
   have iZ:=r1.pre p2;unfold aB at iZ r2;exact⟨iR.b,x,y,d,w2.bs,iZ,r2,h7,fun z H' s r=>q z iR H' (p1.trans (p2.trans (Pre.same s))) (w2.same s) (by unfold aB;exact r)⟩
 | .d x, .loc _,_,_,h4=>cases h4
 | .d x, .lst _,_,_,h4=>cases h4
 | .d x, .tup _,_,_,h4=>cases h4
 | .loc _,_,_,_,h4=>cases h4
 | .lst _,_,_,_,h4=>cases h4
 | .tup _,_,_,_,h4=>cases h4
theorem k4{op:Operator}{g:D->D->R D}(ho:iW X (binaryOp op) g)(ha:PX X cl a fa)(hb:PX X cl b fb):PX X cl (.BinOp a op b pos) (x2 g fa fb):=
 ⟨(yw ho.r ha.1 hb.1).imp fun σ H Q h=>Aw h⟩
theorem zZ{op:CmpOp}{g:D->D->R D}(ho:iW X (compareOp op) g)(ha:PX X cl a fa)(hb:PX X cl b fb)(hm:behindInMarks op b=false):PX X cl (.Compare a [op] [b] pos) (x2 g fa fb):=
 ⟨(qE ho.r ha.1 hb.1 hm).imp fun σ H Q h=>Aw h⟩
def Bj(g:D->D->R D)(fa fb:FX):FB:=fun δ S=>(x2 g fa fb δ S).bind fun v S=>match v with | .d (.bl b)=> .ok b S | _=> .no
theorem rp{op:CmpOp}{g:D->D->R D}(ho:iW X (compareOp op) g)(ha:PX X cl a fa)(hb:PX X cl b fb)(hm:behindInMarks op b=false):t7 X cl (.Compare a [op] [b] pos) (Bj g fa fb):=
 ⟨(rf ho.r ha.1 hb.1 hm).imp fun σ H Q ⟨ρ,S,δ,b,S',E,hf,q⟩=>by
   obtain⟨v,S1,h1,h2⟩:=R3.af hf;have hv:v= .d (.bl b)/\S1=S':=by
    match v,h2 with
    | .d (.bl k),h2=>cases h2;exact⟨rfl,rfl⟩
    | .d .cy,h2=>cases h2
    | .d (.int _),h2=>cases h2
    | .d (.str _),h2=>cases h2
    | .d (.lst _),h2=>cases h2
    | .d (.tup _),h2=>cases h2
    | .d (.dct _ _),h2=>cases h2
    | .loc _,h2=>cases h2
    | .lst _,h2=>cases h2
    | .tup _,h2=>cases h2
   obtain⟨rfl,rfl⟩:=hv;exact Aw (g:=g) (Q:=fun x H'=>∃k,x= .bl k/\Q k H') ⟨ρ,S,δ,_,_,E,h1,fun u br H' p w r=>⟨b,by unfold aB Rep at r;exact r,q br H' p w⟩⟩⟩
inductive Ou where
 | nx (δ:DE) | rt (v:V3)
abbrev FZ:=DE->aA->R3 Ou
def p_(K:W.Frag)(cl:KZ)(ρ:P3)(H:Hp)(D:Ends)(S':aA):Ou->Prop
 | .nx dC=>∀bR br H',Pre ρ H br H'->cY K cl br H' S' bR dC->D.nx bR H'
 | .rt v=>∀u br H',Pre ρ H br H'->SW K cl br H' S'->aB K br H' v u->D.rt u H'
theorem p_.pre{K:W.Frag}{D:Ends}{S':aA}{o:Ou}(q:p_ K cl ρ H D S' o)(p:Pre ρ H bu H1):p_ K cl bu H1 D S' o:=by
 cases o with
 | nx dC=>exact fun bR br H' p' E'=>q bR br H' (p.trans p') E'
 | rt d=>exact fun v br H' p' w r=>q v br H' (p.trans p') w r
def sX(K:W.Frag)(cl:KZ)(F:FZ):TS:=fun D σ H=>∃ρ S δ o S',cY K cl ρ H S σ δ/\F δ S= .ok o S'/\p_ K cl ρ H D S' o
structure PZ (X:Cx) (cl:KZ) (st:Stmt) (F:FZ):Prop where
 go:PS X st (sX X.K cl F)
structure tP (X:Cx) (cl:KZ) (st:List Stmt) (F:FZ):Prop where
 go:mD X st (sX X.K cl F)
def ij:FZ:=fun δ S=> .ok (.nx δ) S
def aQ(F G:FZ):FZ:=fun δ S=>(F δ S).bind fun o S1=>match o with | .nx dC=>G dC S1 | .rt d=> .ok (.rt d) S1
theorem fW:tP X cl [] ij:=⟨qA.imp fun D σ H ⟨ρ,S,δ,o,S',E,hf,q⟩=>by
 cases hf;exact q σ ρ H (Pre.refl ρ H) E⟩
theorem au{st:Stmt}{rest:List Stmt}(h1:PZ X cl st F)(h2:tP X cl rest G):tP X cl (st ::rest) (aQ F G):=⟨(kJ h1.1 h2.1).imp fun D σ H ⟨ρ,S,δ,o,S',E,hf,q⟩=>by
 obtain⟨o1,S1,h1,h2⟩:=R3.af hf;refine⟨ρ,S,δ,o1,S1,E,h1,?_⟩;cases o1 with
 | nx cg=>
   intro A0 bu H1 p1 E1;exact⟨bu,S1,cg,o,S',E1,h2,q.pre p1⟩
 | rt d=>
   cases h2;exact q⟩
theorem bg{st:Stmt}(h1:PZ X cl st F):tP X cl [st] F:=⟨my h1.1⟩
def bA(i:Nat)(f:FX):FZ:=fun δ S=>(f δ S).bind fun v S=>R3.ba (decide (i < δ.length)) (.ok (.nx (δ.set i (some v))) S)
theorem bq{i:Nat}{pos pos':Pos}(hN:X.N.Nodup)(hi:X.N[i]? =some x)(hx:Loc X.env.scope x)(he:PX X cl e f)(hs:swapsWith e (some (.Name x pos')) pos.line X.env=pure false:=by rfl)(hf:X.fn x=true\/X.env.scope.names.lookup x=some .local:=by first | exact .inl rfl | exact .inr rfl | assumption) :
 PZ X cl (.Assign [.Name x pos'] e pos) (bA i f):=⟨(qg hN hi hx he.1 hs hf).imp fun D σ H ⟨ρ,S,δ,o,S',E,hf,q⟩=>by
 obtain⟨v,S1,h1,h2⟩:=R3.af hf;obtain⟨hi,h3⟩:=R3.aH h2;cases h3;refine⟨ρ,S,δ,v,_,E,h1,fun u bu H1 p1 w1 r1=>?_⟩
 exact q _ bu H1 p1 ((E.to p1 w1).set (by rw[<-E.len];exact of_decide_eq_true hi) r1)⟩
def eT(f:FX):FZ:=fun δ S=>(f δ S).bind fun v S=> .ok (.rt v) S
theorem dD(he:PX X cl e f):PZ X cl (.Return (some e) pos) (eT f):=⟨(uz he.1).imp fun D σ H ⟨ρ,S,δ,o,S',E,hf,q⟩=>by
 obtain⟨v,S1,h1,h2⟩:=R3.af hf;cases h2;exact⟨ρ,S,δ,v,_,E,h1,fun u bu H1 p1 w1 r1=>q u bu H1 p1 w1 r1⟩⟩
def kR(c:FB)(F G:FZ):FZ:=fun δ S=>(c δ S).bind fun b S=>if b then F δ S else G δ S
theorem jb(hc:t7 X cl c fc)(ha:tP X cl a F)(hb:tP X cl b G):PZ X cl (.If c a b pos) (kR fc F G):=⟨(yQ hc.1 ha.1 hb.1).imp fun D σ H ⟨ρ,S,δ,o,S',E,hf,q⟩=>by
 obtain⟨k,S1,h1,h2⟩:=R3.af hf;refine⟨ρ,S,δ,k,S1,E,h1,fun bu H1 p1 w1=>?_⟩
 cases k with
 | true=>rw [if_pos rfl] at h2;exact wW ⟨bu,S1,δ,o,S',E.to p1 w1,h2,q.pre p1⟩
 | false=>rw [if_neg (by decide)] at h2;exact xO ⟨bu,S1,δ,o,S',E.to p1 w1,h2,q.pre p1⟩⟩
def l6(f:FX):FZ:=fun δ S=>(f δ S).bind fun _ S=> .ok (.nx δ) S
def qL(c:FB)(body:FZ):Nat->FZ
 | 0,_,_=> .no
 | n+1,δ,S=>(c δ S).bind fun b S=>if b then(body δ S).bind fun o S=>match o with | .nx fG=>qL c body n fG S | .rt r=> .ok (.rt r) S else .ok (.nx δ) S
def EX(n:Nat)(c:FB)(body:FZ):FZ:=fun δ S=>qL c body n δ S
end
end L3
end
section
namespace L3
open PySem PySem.Spec PyProof.Rows L2
theorem aw.get{K:W.Frag}:∀{ds:List V3} {xs:List V} {i:Nat} {d:V3},aw K ρ H ds xs->ds[i]? =some d->∃x,xs[i]? =some x/\aB K ρ H d x
 | [],_,_,_,_,e=>by simp at e
 | d ::ds,xs,0,d',h,e=>by
   obtain⟨x,r,rfl,h1,h2⟩:=h.bQ;simp at e;subst e;exact⟨x,rfl,h1⟩
 | d ::ds,xs,i+1,d',h,e=>by
   obtain⟨x,r,rfl,h1,h2⟩:=h.bQ;obtain⟨y,e1,e2⟩:=aw.get (i:=i) h2 (by simpa using e)
   exact⟨y,by simpa using e1,e2⟩
def CI(K:W.Frag)(ρ:P3)(H:Hp)(J:It)(vs:List V3):Prop:=∀br H',PW ρ H br H'->(∀a∈br.b,∃o,H' a=some o)->(∀(i:Nat) (d:V3),vs[i]? =some d->J.go i H'/\∀x jT,J.yld i H' x jT->aG H' jT/\aB K br jT d x)/\J.stop vs.length H'
theorem CI.of{K:W.Frag}{ρ:P3}{J:It}{ds:List D}(h:ux K ρ.b H J ds):CI K ρ H J (ds.map .d):=fun br H' p bs=>by
 obtain⟨h1,h2⟩:=h br.b H' p.bf;refine⟨fun i v hv=>?_,by rw[List.length_map];exact h2⟩
 rw[List.getElem?_map] at hv;cases e:ds[i]? with
 | none=>rw [e] at hv;cases hv
 | some d=>
   rw[e] at hv;cases hv;obtain⟨g1,g2⟩:=h1 i d e;exact⟨g1,fun x jT y=>let⟨s,r⟩:=g2 x jT y bs;⟨s,by unfold aB;exact r⟩⟩
def Gv(K:W.Frag)(cl:KZ)(f:FA):TI:=fun σ H R=>∃ρ S δ vs S',cY K cl ρ H S σ δ/\f δ S= .ok vs S'/\∀J bu H1,Pre ρ H bu H1->SW K cl bu H1 S'->CI K bu H1 J vs->R J H1
structure Bb (X:Cx) (cl:KZ) (tg e:Expr) (f:FA):Prop where
 go:PI X tg e (Gv X.K cl f)
section
variable {X:Cx} {cl:KZ}
def iP(f:ar->R (List D)):FA:=fun δ S=>(R3.of (f (down δ)) S).bind fun ds S=> .ok (ds.map .d) S
theorem fJ{f:ar->R (List D)}(h:A_ X tg e f):Bb X cl tg e (iP f):=⟨h.1.imp fun σ H Q ⟨ρ,S,δ,vs,S',E,hf,q⟩=>by
 obtain⟨ds,S1,h1,h2⟩:=R3.af hf;obtain⟨h3,e3⟩:=R3.of_ok h1;cases h2;subst e3;exact⟨[],ρ.b,down δ,ds,E.down,h3,fun J H1 s r=>q J ρ H1 (Pre.same s) (E.sw.same s) (CI.of r)⟩⟩
def md(f:FX):FA:=fun δ S=>(f δ S).bind fun v S=>match v with | .d (.int j)=>R3.ba (decide (-(2 ^ 62)<=j/\j < 2 ^ 62)) (.ok ((eu 0 j.toNat).map .d) S) | _=> .no
theorem kU{tg a:Expr}{p pos:Pos}(h:PX X cl a f)(hg:Gl X "range")(hm:X.mg "range"=none)(hs:starEach [a] X.env=[(false,eval a X.env)]:=by rfl):Bb X cl tg (.Call (.Name "range" p) [a] [] pos) (md f):=
 ⟨(lQ hg hm (c1 h.1 eP hs) hs).imp fun σ H RR ⟨ρ,S,δ,vs,S',E,hf,q⟩=>by
   obtain⟨v,S1,h1,h2⟩:=R3.af hf
   match v,h1,h2 with
   | .d (.int j),h1,h2=>
     obtain⟨hb,h3⟩:=R3.aH h2;cases h3;have hb:=of_decide_eq_true hb;refine⟨ρ,S,δ, .d (.int j),_,E,h1,fun u bu H1 p1 w1 r1=>⟨j,?_,hb.1,hb.2,q _ bu H1 p1 w1 (CI.of (uL 0 _))⟩⟩
     unfold aB Rep at r1;rw[r1]
   | .d .cy,_,h2=>cases h2
   | .d (.bl _),_,h2=>cases h2
   | .d (.str _),_,h2=>cases h2
   | .d (.lst _),_,h2=>cases h2
   | .d (.tup _),_,h2=>cases h2
   | .d (.dct _ _),_,h2=>cases h2
   | .loc _,_,h2=>cases h2
   | .lst _,_,h2=>cases h2
   | .tup _,_,h2=>cases h2⟩
def zA(f:FX):FA:=fun δ S=>(f δ S).bind fun v S=>match v with | .d (.lst ds)=> .ok (ds.map .d) S | .lst vs=> .ok vs S | _=> .no
theorem xB(h:PX X cl e f):Bb X cl tg e (zA f):=⟨by
 intro pins s σ H RR I ⟨ρ,S,δ,vs,S',E,hf,q⟩;obtain⟨v,S1,h1,h2⟩:=R3.af hf;refine cN (h.1 pins s σ H (fun u H1=>∃bu,Pre ρ H bu H1/\SW X.K cl bu H1 S1/\aB X.K bu H1 v u) I ⟨ρ,S,δ,v,S1,E,h1,fun u bu H1 p1 w1 r1=>⟨bu,p1,w1,r1⟩⟩) fun u s1 ⟨x,H1,I1,r1,bu,p1,w1,rr⟩=>?_
 have key:S1=S'/\∃a xs,x= .ref a/\lu X.K bu.b H1 a xs/\aw X.K bu H1 vs xs:=by
  match v,h2,rr with
  | .d (.lst ds),h2,rr=>
    cases h2;unfold aB Rep at rr;obtain⟨a,xs,e,l,r⟩:=rr;exact⟨rfl,a,xs,e,l,aw.of r⟩
  | .lst ws,h2,rr=>
    cases h2;unfold aB at rr;exact⟨rfl,rr⟩
  | .d .cy,h2,_=>cases h2
  | .d (.bl _),h2,_=>cases h2
  | .d (.int _),h2,_=>cases h2
  | .d (.str _),h2,_=>cases h2
  | .d (.tup _),h2,_=>cases h2
  | .d (.dct _ _),h2,_=>cases h2
  | .loc _,h2,_=>cases h2
  | .tup _,h2,_=>cases h2
 obtain⟨rfl,a,xs,rfl,l,rr⟩:=key;cases r1;obtain⟨its,rv,p,hz⟩:=I1.list l.sq;refine wpAny_pyIter_list p.isList ?_;refine⟨s1.heap.objs.size,[s1.heap.objs.size],_,_,H1,rfl,I1.kept (t':=s1.toks) fun b o e=>Heap.get?_push_of_some _ e,lM a _,⟨_,Heap.get?_push_size _ rfl,rfl,rfl⟩,fun b hb=>?_,q _ bu H1 p1 w1 fun br H' pr bs=>?_⟩
 .have e:b=s1.heap.objs.size:=by simpa using hb
  subst e;exact I1.sj (Nat.le_refl _) (I1.hok.fresh (Nat.le_refl _))
 .have l':lu X.K br.b H' a xs:=l.bf pr.bf;have rr':=rr.pw pr;refine⟨fun i d hd=>?_,⟨xs,l'.sq,by rw[rr.length];exact Nat.le_refl _⟩⟩
  obtain⟨x,hx,rx⟩:=rr'.get hd;exact⟨⟨xs,x,l'.sq,hx⟩,fun y jT ⟨e1,e2⟩=>by
   subst e1;have:=e2 xs l'.sq;rw[hx] at this;cases this;exact⟨aG.refl _,rx⟩⟩⟩
abbrev FG:=V3->DE->Option DE
abbrev wa:=List V3->DE->Option DE
def gX(K:W.Frag)(cl:KZ)(t:FG):TG:=fun v σ H Q=>∃ρ S δ x dC,cY K cl ρ H S σ δ/\aB K ρ H x v/\t x δ=some dC/\∀bR H',aG H H'->cY K cl ρ H' S bR dC->Q bR H'
def IJ(K:W.Frag)(cl:KZ)(t:wa):sQ:=fun v σ H Q=>∃ρ S δ x dC,cY K cl ρ H S σ δ/\aw K ρ H x v/\t x δ=some dC/\∀bR H',aG H H'->cY K cl ρ H' S bR dC->Q bR H'
structure yx (X:Cx) (cl:KZ) (tg:Expr) (t:FG):Prop where
 go:PG X tg (gX X.K cl t)
structure uW (X:Cx) (cl:KZ) (tg:List Expr) (t:wa):Prop where
 go:vX X tg (IJ X.K cl t)
theorem cY.same{K:W.Frag}{S:aA}{σ:L2.St}{δ:DE}(E:cY K cl ρ H S σ δ)(s:aG H H'):cY K cl ρ H' S σ δ:=E.to (Pre.same s) (E.sw.same s)
def jw(i:Nat):FG:=fun d δ=>if i < δ.length then some (δ.set i (some d)) else none
theorem bG{i:Nat}{pos:Pos}(hN:X.N.Nodup)(hi:X.N[i]? =some x)(hx:Loc X.env.scope x)(hf:X.fn x=true\/X.env.scope.names.lookup x=some .local:=by first | exact .inl rfl | exact .inr rfl | assumption):yx X cl (.Name x pos) (jw i):=
 ⟨(qR hN hi hx hf).imp fun v σ H Q ⟨ρ,S,δ,d,dC,E,r,ht,q⟩=>by
   unfold jw at ht;split at ht
   .rename_i hi;cases ht;exact q _ H (aG.refl H) (E.set (by rw[<-E.len];exact hi) r)
   .cases ht⟩
def zm:wa:=fun ds δ=>match ds with | []=>some δ | _=>none
def nU(t:FG)(u:wa):wa:=fun ds δ=>match ds with | d ::r=>(t d δ).bind fun dC=>u r dC | []=>none
theorem js:uW X cl [] zm:=⟨qV.imp fun vs σ H Q ⟨ρ,S,δ,ds,dC,E,r,ht,q⟩=>by
 cases ds with
 | nil=>unfold aw at r;cases ht;exact⟨r,q σ H (aG.refl H) E⟩
 | cons=>cases ht⟩
theorem cx{u:wa}(h1:yx X cl e t)(h2:uW X cl es u)(hs:(assignEach (e ::es) X.env).map (·.2)=assign e X.env ::(assignEach es X.env).map (·.2):=by rfl):uW X cl (e ::es) (nU t u):=
 ⟨(oI h1.1 h2.1 hs).imp fun vs σ H Q ⟨ρ,S,δ,ds,dC,E,r,ht,q⟩=>by
   cases ds with
   | nil=>cases ht
   | cons d ds=>
     obtain⟨x,xs,rfl,r1,r2⟩:=r.bQ;have ht:(t d δ).bind (fun dC=>u ds dC)=some dC:=ht
     cases e1:t d δ with
     | none=>rw [e1] at ht;cases ht
     | some cg=>
       rw[e1] at ht;exact⟨x,xs,rfl,ρ,S,δ,d,cg,E,r1,e1,fun A0 H1 s1 E1=>⟨ρ,S,cg,ds,dC,E1,r2.pre (Pre.same s1),ht,fun qw H2 s2 E2=>q qw H2 (s1.trans s2) E2⟩⟩⟩
def Ay(n:Nat)(t:wa):FG:=fun d δ=>match d with
 | .d (.tup ds)=>if ds.length=n then t (ds.map .d) δ else none
 | .tup vs=>if vs.length=n then t vs δ else none
 | _=>none
theorem mE{k:Nat}{t:wa}{n:Nat}{pos:Pos}(hc:X.calm=true)(h:uW X cl es t)(hn:(assignEach es X.env).length=n:=by rfl)(lJ:(assignEach es X.env).findIdx? (·.1)=none:=by rfl):yx X cl (.Tuple es k pos) (Ay n t):=
 ⟨(vc hc h.1 hn lJ).imp fun v σ H Q ⟨ρ,S,δ,d,dC,E,r,ht,q⟩=>by
   have key:∃vs a xs,v= .ref a/\nT X.K ρ.b H a xs/\aw X.K ρ H vs xs/\vs.length=n/\t vs δ=some dC:=by
    unfold Ay at ht;split at ht
    .rename_i ds;split at ht
     .rename_i hl;unfold aB Rep at r;obtain⟨a,xs,e,l,r⟩:=r;exact⟨ds.map .d,a,xs,e,l,aw.of r,by rw[List.length_map];exact hl,ht⟩
     .cases ht
    .rename_i vs;split at ht
     .rename_i hl;unfold aB at r;obtain⟨a,xs,e,l,r⟩:=r;exact⟨vs,a,xs,e,l,r,hl,ht⟩
     .cases ht
    .cases ht
   obtain⟨vs,a,xs,rfl,l,r,hl,ht⟩:=key;exact⟨a,xs,rfl,l.sq,by rw[<-r.length];exact hl,ρ,S,δ,vs,dC,E,r,ht,q⟩⟩
def sI(f:FX)(t:FG):FZ:=fun δ S=>(f δ S).bind fun d S=>match t d δ with | some dC=> .ok (.nx dC) S | none=> .no
theorem qa{tg e:Expr}{f:FX}{t:FG}{pos:Pos}(he:PX X cl e f)(hg:yx X cl tg t)(hs:swapsWithSole [tg] e pos.line X.env=pure false:=by rfl)(hw:swappedStores [tg] e X.env=pure none:=by rfl)
 (h1:(assignEach [tg] X.env).map (·.2)=[assign tg X.env]:=by rfl):PZ X cl (.Assign [tg] e pos) (sI f t):=⟨(vJ he.1 hg.1 hs hw h1).imp fun D σ H ⟨ρ,S,δ,o,S',E,hf,q⟩=>by
 obtain⟨d,S1,h1,h2⟩:=R3.af hf;split at h2
 .rename_i cg e1;cases h2;exact⟨ρ,S,δ,d,_,E,h1,fun v bu H1 p1 w1 r1=>⟨bu,_,δ,d,cg,E.to p1 w1,r1,e1,fun bR H2 s2 E2=>q bR bu H2 (p1.trans (Pre.same s2)) E2⟩⟩
 .cases h2⟩
def jr(t:FG)(body:FZ):List V3->FZ
 | [],δ,S=> .ok (.nx δ) S
 | d ::ds,δ,S=>match t d δ with
   | none=> .no
   | some cg=>(body cg S).bind fun o S=>match o with | .nx fG=>jr t body ds fG S | .rt r=> .ok (.rt r) S
def mR(it:FA)(t:FG)(body:FZ):FZ:=fun δ S=>(it δ S).bind fun vs S=>jr t body vs δ S
theorem jG{tg iter:Expr}{body:List Stmt}{it:FA}{t:FG}{F:FZ}{pos:Pos}(hp:PassesOwn (model X.prog X.w) X.A X.env X.xe)(hc:X.calm=true)(hi:Bb X cl tg iter it)(hg:yx X cl tg t)(hb:tP X cl body F)
 (hs:∀x,foldedSetIterable iter X.env x=pure x:=by intro _;rfl):PZ X cl (.For tg iter body [] pos) (mR it t F):=⟨(za hp hc hi.1 hg.1 hb.1 hs).imp fun D σ H ⟨ρ,S,δ,o,S',E,hf,q⟩=>by
 obtain⟨ds,S0,h1,h2⟩:=R3.af hf;refine⟨ρ,S,δ,ds,S0,E,h1,fun J bu H1 p1 w1 ir=>?_⟩
 refine⟨fun i m bR H'=>m=ds.length - i/\i<=ds.length/\∃br S1 dC,Pre bu H1 br H'/\cY X.K cl br H' S1 bR dC/\jr t F (ds.drop i) dC S1= .ok o S',⟨ds.length,rfl,Nat.zero_le _,bu,S0,δ,Pre.refl bu H1,E.to p1 w1,by simpa using h2⟩,?_⟩
 rintro i m bR H' ⟨rfl,hi,br,S1,dC,pv,E',hl⟩;obtain⟨go,stop⟩:=ir br H' pv.pw E'.sw.bs;by_cases gE:i < ds.length
 .have hd:ds[i]? =some ds[i]:=List.getElem?_eq_getElem gE;have hdrop:ds.drop i=ds[i] ::ds.drop (i+1):=List.drop_eq_getElem_cons gE;rw[hdrop] at hl;unfold jr at hl;split at hl
  .cases hl
  .rename_i cg h3;obtain⟨o1,S2,h5,h6⟩:=R3.af hl;obtain⟨g1,g2⟩:=go i _ hd;refine .inr ⟨g1,fun qw H2=>∃iR S2 fG,Pre bu H1 iR H2/\cY X.K cl iR H2 S2 qw fG/\jr t F (ds.drop (i+1)) fG S2= .ok o S',fun qw H2 n=>⟨ds.length - (i+1),by omega,rfl,gE,n⟩,fun x jT y=>?_⟩
   obtain⟨ss,rr⟩:=g2 x jT y;refine⟨br,S1,dC,ds[i],cg,E'.same ss,rr,h3,fun qw H2 s2 E2=>⟨br,S1,cg,o1,S2,E2,h5,?_⟩⟩
   have pv2:Pre bu H1 br H2:=pv.trans (Pre.same (ss.trans s2));cases o1 with
   | nx fG=>exact fun yR Dg H3 p3 E3=>⟨Dg,S2,fG,pv2.trans p3,E3,h6⟩
   | rt d=>
     cases h6;exact fun v Dg H3 p3 w r=>q v Dg H3 (p1.trans (pv2.trans p3)) w r
 .have e:i=ds.length:=by omega
  subst e;rw[List.drop_length] at hl;cases hl;exact .inl ⟨stop,q bR br H' (p1.trans pv) E'⟩⟩
end
end L3
end
section
namespace L3
open PySem PySem.Spec PyProof.Rows L2
mutual
def oV(n:Nat):V3->Bool
 | .d _=>true
 | .loc k=>decide (k < n)
 | .lst vs=>jN n vs
 | .tup vs=>jN n vs
def jN(n:Nat):List V3->Bool
 | []=>true
 | v ::vs=>oV n v && jN n vs
end
def pG(n:Nat):SO->Bool
 | .ins _ fs=>jN n (fs.map (·.2))
 | _=>true
theorem xk{ρ:P3}{n:Nat}{b:Addr}(h:b∈(ρ.cut n).b):b∈ρ.b:=by
 rcases P3.dc.mp h with z | z
 .exact P3.dc.mpr (.inl ⟨List.mem_of_mem_take z.1,z.2⟩)
 .exact P3.dc.mpr (.inr z)
theorem eK{ρ:P3}(n:Nat):de ρ.b H (ρ.cut n).b H:=fun b o e nb=>⟨e,fun hb=>nb (xk hb)⟩
mutual
theorem aB.cut{K:W.Frag}{ρ:P3}{n:Nat}:∀{v:V3} {x:V},oV n v=true->aB K ρ H v x->aB K (ρ.cut n) H v x
 | .d y,x,_,h=>by unfold aB at h ⊢;exact h.bf (eK n)
 | .loc k,x,o,h=>by
   unfold aB at h ⊢;unfold oV at o;obtain⟨a,h1,h2⟩:=h;exact⟨a,by show(ρ.r.take n)[k]? =_;rw [List.getElem?_take_of_lt (of_decide_eq_true o)];exact h1,h2⟩
 | .lst vs,x,o,h=>by
   unfold aB at h ⊢;unfold oV at o;obtain⟨a,xs,e,l,r⟩:=h;exact⟨a,xs,e,l.bf (eK n),aw.cut o r⟩
 | .tup vs,x,o,h=>by
   unfold aB at h ⊢;unfold oV at o;obtain⟨a,xs,e,l,r⟩:=h;exact⟨a,xs,e,nT.bf (eK n) l,aw.cut o r⟩
theorem aw.cut{K:W.Frag}{ρ:P3}{n:Nat}:∀{vs:List V3} {xs:List V},jN n vs=true->aw K ρ H vs xs->aw K (ρ.cut n) H vs xs
 | [],_,_,h=>by unfold aw at h ⊢;exact h
 | v ::vs,xs,o,h=>by
   unfold jN at o;obtain⟨o1,o2⟩:=Bool.and_eq_true_iff.mp o;obtain⟨x,r,rfl,h1,h2⟩:=h.bQ;exact aw.cons (aB.cut o1 h1) (aw.cut o2 h2)
end
theorem SW.cut{K:W.Frag}{cl:KZ}{ρ:P3}{S:aA}(w:SW K cl ρ H S){n:Nat}(ok:(S.take n).all (pG n)=true):SW K cl (ρ.cut n) H (S.take n):=
 ⟨by show(ρ.r.take n).length=_;rw [List.length_take,List.length_take,w.len],fun i j a hi hj=>by
   have hi:(ρ.r.take n)[i]? =some a:=hi;have hj:(ρ.r.take n)[j]? =some a:=hj;have gi:ρ.r[i]? =some a:=by
    rw[List.getElem?_take] at hi;split at hi
    .exact hi
    .cases hi
   have gj:ρ.r[j]? =some a:=by
    rw[List.getElem?_take] at hj;split at hj
    .exact hj
    .cases hj
   exact w.nd i j a gi gj,fun k a o hk ho=>by
   have hk:(ρ.r.take n)[k]? =some a:=hk;have gk:ρ.r[k]? =some a:=by
    rw[List.getElem?_take] at hk;split at hk
    .exact hk
    .cases hk
   have go:S[k]? =some o:=by
    rw[List.getElem?_take] at ho;split at ho
    .exact ho
    .cases ho
   have r:=w.ob k a o gk go;have oo:pG n o=true:=List.all_eq_true.mp ok o (List.mem_of_getElem? ho);cases o with
   | lst ds=>obtain⟨xs,e,q⟩:=r;exact⟨xs,e,q.bf (eK n)⟩
   | dct aI=>obtain⟨ys,e,e2,q⟩:=r;exact⟨ys,e,e2,q.bf (eK n)⟩
   | ins c fs=>obtain⟨dx,ys,e,e2,q⟩:=r;exact⟨dx,ys,e,e2,q.cut oo⟩
   | exc c=>exact r
   | jB=>exact r,fun b hb=>let⟨h1,h2⟩:=w.zb b hb;⟨h1,fun h=>h2 (List.mem_of_mem_take h)⟩,(fun k a hk ho=>by
   have hk:(ρ.r.take n)[k]? =some a:=hk;rw[List.getElem?_take] at hk;split at hk
   .rename_i gE;rw[List.getElem?_take_of_lt gE] at ho;exact w.fz k a hk ho
   .cases hk),w.ff,(fun k a hk ho=>by
   have hk:(ρ.r.take n)[k]? =some a:=hk;rw[List.getElem?_take] at hk;split at hk
   .rename_i gE;rw[List.getElem?_take_of_lt gE] at ho;exact w.fi k a hk ho
   .cases hk)⟩
theorem SW.AN{K:W.Frag}{cl:KZ}{ρ br:P3}{n:Nat}(hn:ρ.r.length<=n)(p:Pre ρ H br H'):Pre ρ H (br.cut n) H':=
 ⟨p.bf.trans (eK n),p.zz,p.zs,fun k a h=>by show(br.r.take n)[k]? =_;rw [List.getElem?_take_of_lt (Nat.lt_of_lt_of_le (List.getElem?_eq_some_iff.mp h).1 hn)];exact p.ext k a h⟩
section
variable {X:Cx} {cl:KZ}
def bU(S:aA)(k:Nat):Option (List D):=match S[k]? with | some (.lst ds)=>some ds | _=>none
theorem cP{S:aA}{k:Nat}{ds:List D}(h:bU S k=some ds):S[k]? =some (.lst ds):=by
 unfold bU at h;split at h
 .rename_i e;cases h;exact e
 .cases h
def fL(δ:DE)(i:Nat):Option Nat:=match δ[i]? with | some (some (.loc k))=>some k | _=>none
theorem kr{δ:DE}{i k:Nat}(h:fL δ i=some k):δ[i]? =some (some (.loc k)):=by
 unfold fL at h;split at h
 .rename_i e;cases h;exact e
 .cases h
def lA(i:Nat)(f:FX):FZ:=fun δ S=>match fL δ i with
 | none=> .no
 | some k=>match bU S k with
   | none=> .no
   | some _=>(f δ S).bind fun v S1=>match v with
     | .d d=>(match bU S1 k with | some ds=>R3.ba (decide (ds.length < sizeLine)) (.ok (.nx δ) (S1.set k (.lst (ds++[d])))) | none=> .no)
     | _=> .no
theorem jE{i:Nat}{x:Str}{e:Expr}{f:FX}{lh apos bW pos:Pos}(hN:X.N[i]? =some x)(hv:Az X.env.scope x)(he:PX X cl e f)
 (hd:(x==("__debug__":Str))=false:=by decide) (lK:(x==("__classdict__":Str))=false:=by decide)
 (hs:starEach [e] X.env=(false,eval e X.env) ::starEach [] X.env:=by rfl) (pk:(apos.endLine==bW.line)=true:=by rfl)
 (vV:((backTo bW (starEach [e] X.env)).all (fun x=>!x.1) && (backToKw bW (keywordEach [] X.env)).all (fun x=>x.1.isSome)
   && decide (([e]:List Expr).length+([]:List Keyword).length+(if([]:List Keyword).isEmpty then 0 else 1) < 30))=true:=by rfl)
 (sP:swapsWith (.Call (.Attribute (.Name x lh) "append" apos) [e] [] bW) none pos.line X.env=pure false:=by rfl)
 (ph:attributeBase (.Name x lh) "append" X.env (eval (.Name x lh) X.env)=eval (.Name x lh) X.env:=by rfl) :
 PZ X cl (.Expr (.Call (.Attribute (.Name x lh) "append" apos) [e] [] bW) pos) (lA i f):=by
 refine⟨(mU (yF (X:=X) PySem.F.plainAttrs_list PySem.F.slot_list_append PySem.F.type_list_append lN (ni hN hv hd lK) (c1 he.1 eP hs) ph vV pk hs) sP).imp fun D σ H ⟨ρ,S,δ,o,S',E,hf,q⟩=>?_⟩
 unfold lA at hf;split at hf
 .cases hf
 .rename_i k hk;split at hf
  .cases hf
  .rename_i ds0 h0;obtain⟨v,S1,h1,h2⟩:=R3.af hf;split at h2
   .rename_i d;split at h2
    .rename_i ds h3;obtain⟨hl,h4⟩:=R3.aH h2;cases h4;obtain⟨u,u1,u2⟩:=E.val i _ (kr hk);unfold aB at u2;obtain⟨a,a1,rfl⟩:=u2;obtain⟨F5,x0,_⟩:=E.sw.ob k a _ a1 (cP h0);refine⟨.ref a,u1, .inl ⟨rfl,F5,iX.of x0⟩,⟨ρ,S,δ, .d d,S1,E,h1,fun y bu H1 p1 w1 r1=>?_⟩⟩
     have b1:=p1.ext k a a1;obtain⟨xs,x1,x2⟩:=w1.ob k a _ b1 (cP h3);refine⟨a,xs,y,rfl,rfl,x1,by rw[<-x2.length];exact of_decide_eq_true hl,?_⟩
     unfold aB at r1;obtain⟨w2,p2⟩:=w1.put (o:= .lst (ds++[d])) (u:= .lst (xs++[y])) b1 (w1.fz k a b1 (by rw[cP h3];intro h;cases h)) ⟨xs++[y],rfl,x2.append (ay.cons r1 ay.nil)⟩
     exact q σ bu _ (p1.trans p2) (E.to (p1.trans p2) w2)
    .cases h2
   .cases h2
def m5(fo fi fe:FX):FZ:=fun δ S=>(fe δ S).bind fun v S1=>(fo δ S1).bind fun o S2=>(fi δ S2).bind fun j S3=>match v,o,j with
 | .d d, .loc k, .d (.int n)=>(match bU S3 k with
   | some ds=>(match r_ ds.length n with | some m=> .ok (.nx δ) (S3.set k (.lst (ds.set m d))) | none=> .no)
   | none=> .no)
 | _,_,_=> .no
def xR(K:W.Frag)(cl:KZ)(n:Nat)(g:List V3->aA->R3 V3):Sp:=fun vs H Q _=>vs.length=n/\∃ρ S xs v S',SW K cl ρ H S/\aw K ρ H xs vs/\g xs S= .ok v S'/\∀u br H',Pre ρ H br H'->SW K cl br H' S'->aB K br H' v u->Q u H'
def bb(g:List V3->aA->R3 V3)(fs:FA):FX:=fun δ S=>(fs δ S).bind g
def bZ(P:Program)(w:World)(K:W.Frag)(mg:KY)(base:Heap)(cl:KZ)(k:Nat)(x:Str)(n:Nat)(g:List V3->aA->R3 V3):Prop:=
 ∃(f:Addr) (fd:FuncData) (ps:List Str),eU P w K mg base mn k f fd ps (xR K cl n g)/\mg x=some (.ref f)/\PySem.W.keepIn K (.ref f)=true/\Binds K fd ps []
theorem bE{g:List V3->aA->R3 V3}{k j n:Nat}{x:Str}{p pos:Pos}{e:Expr}{es:List Expr}{fs:FA}(C:bZ X.prog X.w X.K X.mg X.base cl k x n g)(hr:dH j X.A)(AW:k<=j)(hg:Gl X x)(ha:yC X cl (e ::es) fs)
 (hn:∀δ S ds S',fs δ S= .ok ds S'->ds.length=n) (ik:(x==("__debug__":Str))=false:=by decide) (he:starEach (e ::es) X.env=(false,eval e X.env) ::starEach es X.env:=by rfl) (fP:(backTo pos (starEach es X.env)).any (·.1)=false:=by rfl) :
 PX X cl (.Call (.Name x p) (e ::es) [] pos) (bb g fs):=by
 obtain⟨f,fd,ps,F,hm,hk,hb⟩:=C;refine⟨(mY F (hr.mono AW) hg hm hk hb .nil yK ha.1 ik he fP).imp fun σ H Q ⟨ρ,S,δ,v,S',E,hf,q⟩=>?_⟩
 obtain⟨vs,S1,h1,h2⟩:=R3.af hf;refine⟨ρ,S,δ,vs,S1,E,h1,fun us bu H1 p1 w1 r1=>?_⟩
 show xR X.K cl n g (us++[]) H1 Q E0;rw[List.append_nil];exact⟨by rw[<-r1.length];exact hn δ S vs S1 h1,bu,S1,vs,v,S',w1,r1,h2,fun z iR H2 p2 w2 r2=>q z iR H2 (p1.trans p2) w2 r2⟩
end
def bM(N:List Str)(vs:List V3):DE:=vs.map some++List.replicate (N.length - vs.length) none
theorem oE{K:W.Frag}{cl:KZ}{S:aA}{N:List Str}{ds:List V3}{vs:List V}(w:SW K cl ρ H S)(r:aw K ρ H ds vs):cY K cl ρ H S (L2.start N vs) (bM N ds) where
 len:=by unfold L2.start bM;simp [r.length]
 sw:=w
 val:=fun i d e=>by
  unfold bM at e;unfold L2.start;by_cases hi:i < ds.length
  .rw [List.getElem?_append_left (by simpa using hi),List.getElem?_map] at e
   cases q:ds[i]? with
   | none=>rw [q] at e;cases e
   | some d'=>
     rw[q] at e;cases e;obtain⟨x,h1,h2⟩:=r.get q;exact⟨x,by rw[List.getElem?_append_left (by rw[List.length_map,<-r.length];exact hi),List.getElem?_map,h1];rfl,h2⟩
  .rw [List.getElem?_append_right (by simpa using hi),List.getElem?_replicate] at e
   split at e <;> cases e
def jd(N:List Str)(F:FZ):List V3->aA->R3 V3:=fun vs S=>(F (bM N vs) S).bind fun o S'=>match o with | .rt v=> .ok v S' | .nx _=> .ok (.d .cy) S'
def mm(N:List Str)(F:FZ):List V3->aA->R3 V3:=fun vs S=>(jd N F vs S).bind fun v S'=>match res S' v with
 | some d=>R3.ba ((S'.take S.length).all (pG S.length) && ek S.length v) (.ok (.d d) (S'.take S.length))
 | none=> .no
theorem xG{P:Program}{w:World}{K:W.Frag}{mg:KY}{base:Heap}{cl:KZ}{x qual:Str}{st:Stmt}{f:Addr}{fd:FuncData}{N ps:List Str}{k:Nat}{F:FZ}(Fn:pF K x qual st f fd)(S:bH N ps (aL st))
 (dZ:∀(df:Value) (A:Around) (outer:List Env) (s:Shared) (H:Hp) (E:XK),dH k (A.deeper (envOfC qual (aL st) s.heap.objs.size f df))->
   tP (gU mn P w K mg base N qual (aL st) f df A outer s H E).xl cl (bw st) F):eU P w K mg base mn (k+1) f fd ps (xR K cl ps.length (jd N F)):=by
 refine Fn.ok S (fun vs H Q E h=>h.1) (fun df A outer s H vs Q E hr h=>⟨_,(dZ df A outer s H E hr).1,?_⟩)
 obtain⟨_,ρ,S,ds,v,S',w,r,hg,q⟩:=h;obtain⟨o,S1,h1,h2⟩:=R3.af hg;refine⟨ρ,S,bM N ds,o,S1,oE w r,h1,?_⟩;cases o with
 | nx dC=>
   cases h2;exact fun bR br H' p' E'=>q _ br H' p' E'.sw (by unfold aB Rep;rfl)
 | rt d'=>
   cases h2;exact fun u br H' p' w' r'=>q u br H' p' w' r'
theorem vO{K:W.Frag}{cl:KZ}{N:List Str}{n:Nat}{vs:List V}{Q:VK}{E:XK}(h:xR K cl n (mm N F) vs H Q E):xR K cl n (jd N F) vs H Q E:=by
 obtain⟨hl,ρ,S,xs,v,S',w,r,hg,q⟩:=h;obtain⟨v1,S1,h1,h2⟩:=R3.af hg;refine⟨hl,ρ,S,xs,v1,S1,w,r,h1,fun u bu H1 p1 w1 r1=>?_⟩
 have pc:Pre ρ H (bu.cut S.length) H1:=SW.AN (K:=K) (cl:=cl) (by rw[w.len];exact Nat.le_refl _) p1
 split at h2
 .rename_i d e;obtain⟨ok,h3⟩:=R3.aH h2;obtain⟨ok,hk⟩:=Bool.and_eq_true_iff.mp ok;cases h3;refine q u _ H1 pc (w1.cut ok) ?_;unfold aB;refine r1.resB w1 (eK _) (fun k a hk a1 ha=>?_) hk e
  rcases P3.dc.mp ha with⟨z,_⟩ | z
  .obtain⟨j,hj⟩:=List.getElem?_of_mem z;have hj:(bu.r.take S.length)[j]? =some a:=hj;rw[List.getElem?_take] at hj;split at hj
   .rename_i hjl;have:=w1.nd j k a hj a1;omega
   .cases hj
  .exact(w1.zb a z).2 (List.mem_of_getElem? a1)
 .cases h2
end L3
end
section
namespace L3
open PySem PySem.Spec PyProof.Rows L2
theorem ay.setAt{K:W.Frag}{ρ:P3}:∀{ds:List D} {xs:List V} {m:Nat} {d:D} {v:V},ay K ρ.b H ds xs->Rep K ρ.b H d v->ay K ρ.b H (ds.set m d) (xs.set m v)
 | [],_,_,_,_,h,_=>by unfold ay at h;subst h;exact ay.nil
 | e ::ds,xs,0,d,v,h,r=>by
   obtain⟨x,r',rfl,h1,h2⟩:=h.bQ;exact ay.cons r h2
 | e ::ds,xs,m+1,d,v,h,r=>by
   obtain⟨x,r',rfl,h1,h2⟩:=h.bQ;exact ay.cons h1 (ay.setAt h2 r)
section
variable {X:Cx} {cl:KZ}
theorem m8{o i e:Expr}{fo fi fe:FX}{gC pos:Pos}(he:PX X cl e fe)
 (hg:PG X (.Subscript o i gC) (BW (tX X.K cl fo) (tX X.K cl fi) yP))
 (hs:swapsWithSole [.Subscript o i gC] e pos.line X.env=pure false:=by rfl) (hw:swappedStores [.Subscript o i gC] e X.env=pure none:=by rfl)
 (h1:(assignEach [.Subscript o i gC] X.env).map (·.2)=[assign (.Subscript o i gC) X.env]:=by rfl):PZ X cl (.Assign [.Subscript o i gC] e pos) (m5 fo fi fe):=⟨(vJ he.1 hg hs hw h1).imp fun D σ H ⟨ρ,S,δ,ou,S',E,hf,q⟩=>by
 obtain⟨v,S1,h1,h2⟩:=R3.af hf;obtain⟨vo,S2,h3,h4⟩:=R3.af h2;obtain⟨vi,S3,h5,h6⟩:=R3.af h4;split at h6
 .rename_i d k n;split at h6
  .rename_i ds hds;split at h6
   .rename_i m hm;cases h6;refine⟨ρ,S,δ, .d d,S1,E,h1,fun u bu H1 p1 w1 r1=>⟨bu,S1,δ, .loc k,S2,E.to p1 w1,h3,fun u2 iR H2 p2 w2 r2=>⟨iR,S2,δ, .d (.int n),S3,(E.to p1 w1).to p2 w2,h5,fun u3 Dg H3 p3 w3 r3=>?_⟩⟩⟩
    unfold aB at r2;obtain⟨a,a1,rfl⟩:=r2;have a3:=p3.ext k a a1;obtain⟨xs,x1,x2⟩:=w3.ob k a _ a3 (cP hds);unfold aB Rep at r3;have iZ:=r1.pre (p2.trans p3);unfold aB at iZ;obtain⟨w4,p4⟩:=w3.put (o:= .lst (ds.set m d)) (u:= .lst (xs.set m u)) a3 (w3.fz k a a3 (by rw[cP hds];intro h;cases h)) ⟨xs.set m u,rfl,ay.setAt x2 iZ⟩
    exact⟨a,xs,n,m,rfl,r3,x1,by rw[<-x2.length];exact hm,q σ Dg _ (((p1.trans p2).trans p3).trans p4) (E.to (((p1.trans p2).trans p3).trans p4) w4)⟩
   .cases h6
  .cases h6
 .cases h6⟩
def kX(δ:DE)(i:Nat):Option V3:=match δ[i]? with | some (some v)=>some v | _=>none
def gz(own:List Str)(kp:List Nat)(δ:DE):DE:=List.replicate own.length none++kp.map (kX δ)
theorem wY{K:W.Frag}{S S':aA}{σ:L2.St}{δ:DE}{own:List Str}{kp:List Nat}(E:cY K cl ρ H S σ δ)(p:PW ρ H br H')(w:SW K cl br H' S'):cY K cl br H' S' (ck own kp σ) (gz own kp δ) where
 len:=by unfold ck gz;simp
 sw:=w
 val:=fun i d e=>by
  unfold gz at e;unfold ck;by_cases hi:i < own.length
  .rw [List.getElem?_append_left (by simpa using hi),List.getElem?_replicate] at e
   split at e <;> cases e
  .rw [List.getElem?_append_right (by simpa using hi),List.length_replicate,List.getElem?_map] at e ⊢
   cases q:kp[i - own.length]? with
   | none=>rw [q] at e;cases e
   | some j=>
     rw[q] at e;have e:kX δ j=some d:=Option.some.inj e;unfold kX at e;split at e
     .rename_i d' ed;cases e;obtain⟨v,h1,h2⟩:=E.val j d ed;exact⟨v,by simp [h1],h2.pw p⟩
     .cases e
def gH(t:FG)(c:FB)(f:FX)(δ:DE):List V3->aA->R3 (List V3)
 | [],S=> .ok [] S
 | v ::vs,S=>match t v δ with
   | none=> .no
   | some cg=>(c cg S).bind fun b S1=>if b then(f cg S1).bind fun y S2=>(gH t c f δ vs S2).bind fun ys S3=> .ok (y ::ys) S3 else gH t c f δ vs S1
def iu(it:FA)(t:FG)(c:FB)(f:FX)(own:List Str)(kp:List Nat):FX:=fun δ S=>(it δ S).bind fun vs S1=>R3.ba (decide (vs.length<=sizeLine)) ((gH t c f (gz own kp δ) vs S1).bind fun ys S2=> .ok (j1 ys) S2)
theorem aw.append{K:W.Frag}:∀{ds es:List V3} {xs ys:List V},aw K ρ H ds xs->aw K ρ H es ys->aw K ρ H (ds++es) (xs++ys)
 | [],_,_,_,h,t=>by unfold aw at h;subst h;exact t
 | d ::ds,es,xs,ys,h,t=>by
   obtain⟨x,r,rfl,h1,h2⟩:=h.bQ;exact aw.cons h1 (aw.append h2 t)
theorem q9{K:W.Frag}{own:List Str}{kp:List Nat}{σ:L2.St}{Q:VK}(h:tX K cl (iu it t c f own kp) σ H Q) :
 qI (Gv K cl it) (gX K cl t) (zT K cl c) (tX K cl f) own kp σ H Q:=by
 obtain⟨ρ,S,δ,v,SF,E,hf,q⟩:=h;obtain⟨es,S1,h1,h2⟩:=R3.af hf;obtain⟨hl,h3⟩:=R3.aH h2;have hl:=of_decide_eq_true hl;obtain⟨vs,S2,h4,h5⟩:=R3.af h3;cases h5;refine⟨ρ,S,δ,es,S1,E,h1,fun J bu H1 p1 w1 ir Dd hD=>?_⟩
 have nDz:Dd ∉ bu.b:=fun hb=>by obtain⟨o,ho⟩:=w1.bs Dd hb;rw [hD] at ho;cases ho
 have nDr:Dd ∉ bu.r:=fun hb=>by obtain⟨o,ho⟩:=w1.rs Dd hb;rw [hD] at ho;cases ho
 have toZ:∀{r' f':List Addr} {H':Hp},Pre bu H1 ⟨r',bu.z,f'⟩ H'->PW bu H1 ⟨r',Dd ::bu.z,f'⟩ H':=fun {r' f' H'} p=>⟨fun b o e nb=>⟨(p.bf b o e nb).1,fun hb=>by
  rcases P3.dc.mp hb with z | z
  .exact(p.bf b o e nb).2 (P3.dc.mpr (.inl z))
  .rcases List.mem_cons.mp z with y | y
   .exact aX e hD y
   .exact(p.bf b o e nb).2 (P3.dc.mpr (.inr y))⟩,p.ext⟩
 have w0:SW K cl ⟨bu.r,Dd ::bu.z,bu.f⟩ (upd H1 Dd (.lst [])) S1:=by
  have s0:aG H1 (upd H1 Dd (.lst [])):=bt hD;have ws:=w1.same s0;refine⟨ws.len,ws.nd,fun k a o hk ho=>?_,fun b hb=>?_,ws.fz,ws.ff,ws.fi⟩
  .have r:=w1.ob k a o hk ho;obtain⟨u,hu⟩:=r.some;rw[s0 a u hu,<-hu];exact r.pw (toZ (Pre.same s0))
  .rcases List.mem_cons.mp hb with y | y
   .subst y;exact⟨⟨_,aU⟩,nDr⟩
   .exact ws.zb b y
 refine⟨fun i m ys H'=>m=es.length - i/\i<=es.length/\ys.length<=i/\H' Dd=some (.lst ys)/\∃r' f' S' done rest,Pre bu H1 ⟨r',bu.z,f'⟩ H'/\SW K cl ⟨r',Dd ::bu.z,f'⟩ H' S'/\vs=done++rest/\aw K ⟨r',Dd ::bu.z,f'⟩ H' done ys/\gH t c f (gz own kp δ) (es.drop i) S'= .ok rest SF,
  ⟨es.length,rfl,Nat.zero_le _,Nat.le_refl _,aU,bu.r,bu.f,S1,[],vs,Pre.same (bt hD),w0,rfl,aw.nil,by simpa using h4⟩,?_⟩
 rintro i m ys H' ⟨rfl,hi,hy,hDl,r',f',S',done,rest,pv,w',rfl,rd,hc⟩;obtain⟨go,stop⟩:=ir ⟨r',Dd ::bu.z,f'⟩ H' (toZ pv) w'.bs;have unZ:∀{yT:P3} {H4:Hp},Pre ⟨r',Dd ::bu.z,f'⟩ H' yT H4->Pre bu H1 ⟨yT.r,bu.z,yT.f⟩ H4:=fun {yT H4} p4=>⟨fun b o e nb=>by
  obtain⟨e1,n1⟩:=(toZ pv).bf b o e nb;obtain⟨AV,n2⟩:=p4.bf b o e1 n1;refine⟨AV,fun hb=>n2 ?_⟩
  rcases P3.dc.mp hb with z | z
  .exact P3.dc.mpr (.inl z)
  .exact P3.dc.mpr (.inr (by rw[p4.zz];exact List.mem_cons_of_mem _ z)),rfl,fun b o hb h=>p4.zs b o (List.mem_cons_of_mem _ hb) (pv.zs b o hb h),fun k a h=>p4.ext k a (pv.ext k a h)⟩
 by_cases gE:i < es.length
 .have hd:es[i]? =some es[i]:=List.getElem?_eq_getElem gE;have hdrop:es.drop i=es[i] ::es.drop (i+1):=List.drop_eq_getElem_cons gE;rw[hdrop] at hc;unfold gH at hc;split at hc
  .cases hc
  .rename_i cg h6;obtain⟨b,T1,h7,h8⟩:=R3.af hc;obtain⟨g1,g2⟩:=go i _ hd;refine .inr ⟨g1,fun x H2 y=>?_⟩
   obtain⟨sy,ry⟩:=g2 x H2 y;have Ec:cY K cl ⟨r',Dd ::bu.z,f'⟩ H2 S' (ck own kp σ) (gz own kp δ):=wY E (p1.pw.trans ((toZ pv).trans (Pre.same sy).pw)) (w'.same sy);refine⟨⟨r',Dd ::bu.z,f'⟩,S',gz own kp δ,es[i],cg,Ec,ry,h6,fun yR H3 s3 E3=>⟨⟨r',Dd ::bu.z,f'⟩,S',cg,b,T1,E3,h7,fun yT H4 p4 w4=>?_⟩⟩
   have CM:Pre ⟨r',Dd ::bu.z,f'⟩ H' yT H4:=(Pre.same (sy.trans s3)).trans p4;cases b with
   | true=>
     rw[if_pos rfl] at h8;refine wW ?_;obtain⟨yv,T2,h9,Fq⟩:=R3.af h8;obtain⟨rs,T3,Fj,Jk⟩:=R3.af Fq;cases Jk;refine⟨yT,T1,cg,yv,T2,E3.to p4 w4,h9,fun v5 Hs H5 p5 w5 r5=>?_⟩
     have pv5:Pre ⟨r',Dd ::bu.z,f'⟩ H' Hs H5:=CM.trans p5;have Fm:H5 Dd=some (.lst ys):=pv5.zs Dd _ List.mem_cons_self hDl;have u5:=unZ pv5;obtain⟨DL,z5,f5⟩:=Hs;have ez:z5=Dd ::bu.z:=pv5.zz;subst ez;have nr:Dd ∉ DL:=(w5.zb Dd List.mem_cons_self).2;have pw:PW ⟨DL,Dd ::bu.z,f5⟩ H5 ⟨DL,Dd ::bu.z,f5⟩ (upd H5 Dd (.lst (ys++[v5]))):=⟨fun b o e nb=>⟨by rw[aW (fun(z:b=Dd)=>nb (by rw[z];exact P3.dc.mpr (.inr List.mem_cons_self)))];exact e,nb⟩,fun _ _ h=>h⟩
     refine⟨Fm,by omega,es.length - (i+1),by omega,rfl,gE,by rw[List.length_append,List.length_singleton];omega,aU,DL,f5,T2,done++[yv],rs,?_,?_,by simp,aw.append ((rd.pre pv5).pw pw) (aw.cons (r5.pw pw) aw.nil),Fj⟩
     .refine⟨fun b o e nb=>⟨by rw[aW (aX e hD)];exact(u5.bf b o e nb).1,(u5.bf b o e nb).2⟩,rfl,fun b o hb h=>?_,u5.ext⟩
      rw[aW (aX h hD)];exact u5.zs b o hb h
     .refine⟨w5.len,w5.nd,fun k a o hk ho=>?_,fun b hb=>?_,w5.fz,fun b hb=>?_,w5.fi⟩
      .have ne:a≠Dd:=fun z=>nr (by rw[<-z];exact List.mem_of_getElem? hk)
       rw[aW ne];exact(w5.ob k a o hk ho).pw pw
      .obtain⟨⟨o,ho⟩,n⟩:=w5.zb b hb;refine⟨?_,n⟩;by_cases z:b=Dd
       .subst z;exact⟨_,aU⟩
       .rw [aW z];exact⟨o,ho⟩
      .obtain⟨o,ho⟩:=w5.ff b hb;by_cases z:b=Dd
       .subst z;exact⟨_,aU⟩
       .rw [aW z];exact⟨o,ho⟩
   | false=>
     rw[if_neg (by decide)] at h8
     refine xO ?_;have JF:H4 Dd=some (.lst ys):=CM.zs Dd _ List.mem_cons_self hDl;have u4:=unZ CM;obtain⟨JG,z4,f4⟩:=yT;have ez:z4=Dd ::bu.z:=CM.zz;subst ez;exact⟨es.length - (i+1),by omega,rfl,gE,by omega,JF,JG,f4,T1,done,rest,u4,w4,rfl,rd.pre CM,h8⟩
 .have e:i=es.length:=by omega
  subst e;rw[List.drop_length] at hc;cases hc;rw[List.append_nil] at q;refine .inl ⟨stop,?_⟩;have back:PW ⟨r',Dd ::bu.z,f'⟩ H' ⟨r',bu.z,f'⟩ H':=⟨fun b o e nb=>⟨e,fun hb=>nb (by
   rcases P3.dc.mp hb with z | z
   .exact P3.dc.mpr (.inl z)
   .exact P3.dc.mpr (.inr (List.mem_cons_of_mem _ z)))⟩,fun _ _ h=>h⟩
  have wB:SW K cl ⟨r',bu.z,f'⟩ H' _:=⟨w'.len,w'.nd,fun k a o hk ho=>(w'.ob k a o hk ho).pw back,fun b hb=>w'.zb b (List.mem_cons_of_mem _ hb),w'.fz,w'.ff,w'.fi⟩
  refine q _ ⟨r',bu.z,f'⟩ H' (p1.trans pv) wB (mr (.inl ⟨fun hb=>?_, .inl hDl⟩) (rd.pw back))
  rcases P3.dc.mp hb with z | z
  .exact(w'.zb Dd List.mem_cons_self).2 z.1
  .exact nDz (P3.dc.mpr (.inr z))
end
end L3
end
section
namespace L3
open PySem PySem.Spec PyProof.Rows L2
section
variable {X:Cx} {cl:KZ}
theorem xq{scope:Scope}{own:List Str}{kp:List Nat}{kn:List Str}{tg iter elt:Expr}{ifs:List Expr}{it:FA}{t:FG}{c:FB}{f:FX}{pos:Pos}(hc:X.calm=true)(C:bN X scope own kp kn)(hi:Bb X cl tg iter it)
 (hg:∀fp s H,yx (aP X scope (own++kn) fp s H) cl tg t) (qv:∀fp s H,lI (aP X scope (own++kn) fp s H) ifs (zT X.K cl c)) (he:∀fp s H,PX (aP X scope (own++kn) fp s H) cl elt f)
 (hs:∀x,foldedSetIterable iter X.env x=pure x:=by intro _;rfl):PX X cl (.ListComp elt [⟨tg,iter,ifs,0⟩] scope pos) (iu it t c f own kp):=
 ⟨(qJ hc C hi.1 (fun fp s H=>(hg fp s H).1) qv (fun fp s H=>(he fp s H).1) hs).imp fun σ H Q h=>q9 h⟩
def pL:FB:=fun _ S=> .ok true S
theorem jF:lI X [] (zT X.K cl pL):=fun pins s σ H Q I ⟨ρ,S,δ,b,S',E,hf,q⟩=>oP pins s σ H Q I (by cases hf;exact q ρ H (Pre.refl ρ H) E.sw)
theorem pO{K:W.Frag}{i:Nat}{D:Ends}{σ:L2.St}(h:sX K cl (bA i f) D σ H):uH (tX K cl f) (l8 i) D σ H:=by
 obtain⟨ρ,S,δ,o,S',E,hf,q⟩:=h;obtain⟨v,S1,h1,h2⟩:=R3.af hf;obtain⟨hi,h3⟩:=R3.aH h2;cases h3;refine⟨ρ,S,δ,v,_,E,h1,fun u bu H1 p1 w1 r1=>?_⟩
 exact q _ bu H1 p1 ((E.to p1 w1).set (by rw[<-E.len];exact of_decide_eq_true hi) r1)
theorem kM{i:Nat}{x:Str}{pos' gC:Pos}{scope:Scope}{own:List Str}{kp:List Nat}{kn:List Str}{tg iter elt:Expr}{ifs:List Expr}{it:FA}{t:FG}{c:FB}{f:FX}{pos:Pos}(hc:X.calm=true)
 (hN:X.N.Nodup) (hx:X.N[i]? =some x) (sU:X.env.scope.names.lookup x=some .local) (C:bN X scope own kp kn) (hi:Bb X cl tg iter it)
 (hg:∀fp s H,yx (aP X scope (own++kn) fp s H) cl tg t) (qv:∀fp s H,lI (aP X scope (own++kn) fp s H) ifs (zT X.K cl c)) (he:∀fp s H,PX (aP X scope (own++kn) fp s H) cl elt f)
 (sP:swapsWith (.ListComp elt [⟨tg,iter,ifs,0⟩] scope pos) (some (.Name x pos')) gC.line X.env=pure true:=by rfl)
 (hs:∀x,foldedSetIterable iter X.env x=pure x:=by intro _;rfl):PZ X cl (.Assign [.Name x pos'] (.ListComp elt [⟨tg,iter,ifs,0⟩] scope pos) gC) (bA i (iu it t c f own kp)):=
 ⟨(iH hc hN hx sU C hi.1 (fun fp s H=>(hg fp s H).1) qv (fun fp s H=>(he fp s H).1) sP hs).imp fun D σ H h=>q9 (pO h)⟩
def JT(g:FA):FX:=fun δ S=>(g δ S).bind fun vs S1=>match j6 vs with
 | some ds=>R3.ba (decide (ds.length<=sizeLine)) (.ok (.loc S1.length) (S1++[.lst ds]))
 | none=> .no
end
end L3
end
section
namespace L3
open PySem PySem.Spec PyProof.Rows L2
section
variable {X:Cx} {cl:KZ}
def d4(g:List D->R D)(fs:FA):FX:=fun δ S=>(fs δ S).bind fun vs S1=>match j6 vs with
 | some ds=>(R3.of (g ds) S1).bind fun d S=> .ok (.d d) S
 | none=> .no
theorem s_{K:W.Frag}{g:List D->R D}{σ:L2.St}{Q:VK}(h:tX K cl (d4 g fs) σ H Q) :
 GF K cl fs σ H fun vs H1=>∃B ds d,(∀a∈B,∃o,H1 a=some o)/\ay K B H1 ds vs/\g ds= .ok d/\∀z H',aG H1 H'->Rep K B H' d z->Q z H':=by
 obtain⟨ρ,S,δ,v,S',E,hf,q⟩:=h;obtain⟨vs,S1,h1,h2⟩:=R3.af hf;split at h2
 .rename_i ds e;obtain⟨d,S2,h3,h4⟩:=R3.af h2;obtain⟨h5,e5⟩:=R3.of_ok h3;cases h4;subst e5;refine⟨ρ,S,δ,vs,_,E,h1,fun us bu H1 p1 w1 r1=>?_⟩
  rw[fK e] at r1;exact⟨bu.b,ds,d,w1.bs,r1.to,h5,fun z H' s r=>q z bu H' (p1.trans (Pre.same s)) (w1.same s) (by unfold aB;exact r)⟩
 .cases h2
theorem rO{g:List D->R D}{x:Str}{T:String}{p pos:Pos}{e:Expr}{es:List Expr}{fs:FA}(hc:cq X (.type T) g)(hg:Gl X x)(hm:X.mg x=none)(hv:bootBuiltins x=some (.type T))(ha:yC X cl (e ::es) fs)(hn:x≠"__name__":=by decide)(ik:(x==("__debug__":Str))=false:=by decide)
 (he:starEach (e ::es) X.env=(false,eval e X.env) ::starEach es X.env:=by rfl) (fP:(backTo pos (starEach es X.env)).any (·.1)=false:=by rfl):PX X cl (.Call (.Name x p) (e ::es) [] pos) (d4 g fs):=
 ⟨(jD hc.r hg hm hv ha.1 hn ik he fP).imp fun σ H Q h=>s_ h⟩
def Kh(c:FB)(f g:FX):FX:=fun δ S=>(c δ S).bind fun b S=>if b then f δ S else g δ S
theorem aM:∀(δ:DE) (S:aA) (ds:List V3) (S':aA),aZ δ S= .ok ds S'->ds.length=0:=fun δ S ds S' h=>by cases h;rfl
theorem ao{g:FA}{n:Nat}(h:∀(δ:DE) (S:aA) (ds:List V3) (S':aA),g δ S= .ok ds S'->ds.length=n):∀(δ:DE) (S:aA) (ds:List V3) (S':aA),ak f g δ S= .ok ds S'->ds.length=n+1:=fun δ S ds S' e=>by
 obtain⟨v,S1,h1,h2⟩:=R3.af e;obtain⟨vs,S2,h3,h4⟩:=R3.af h2;cases h4;rw[List.length_cons,h δ S1 vs _ h3]
end
end L3
end
section
namespace L3
open PySem PySem.Spec PyProof.Rows L2
theorem h_{K:W.Frag}{ds:List V3}{xs:List V}{i:Int}{d:V3}(r:aw K ρ H ds xs)(h:lj ds i=some d):∃x,lj xs i=some x/\aB K ρ H d x:=by
 unfold lj at h ⊢;rw[<-r.length];cases e:r_ ds.length i with
 | none=>rw [e] at h;cases h
 | some j=>
   rw[e] at h;exact r.get h
section
variable {X:Cx} {cl:KZ}
def qX(fa fb:FX):FX:=fun δ S=>(fa δ S).bind fun a S1=>(fb δ S1).bind fun b S2=>match a,b with
 | .d x, .d y=>(R3.of (cu x y) S2).bind fun d S=> .ok (.d d) S
 | .lst vs, .d (.int i)=>(match lj vs i with | some v=> .ok v S2 | none=> .no)
 | .tup vs, .d (.int i)=>(match lj vs i with | some v=> .ok v S2 | none=> .no)
 | _,_=> .no
theorem tJ(ha:PX X cl a fa)(hb:PX X cl b fb)(hs:ja b):PX X cl (.Subscript a b pos) (qX fa fb):=by
 refine⟨(vM (r:=Dr X.K) qi ha.1 hb.1 hs).imp fun σ H Q ⟨ρ,S,δ,v,S',E,hf,q⟩=>?_⟩
 obtain⟨v1,S1,h1,h2⟩:=R3.af hf;obtain⟨v2,S2,h3,h4⟩:=R3.af h2;refine⟨ρ,S,δ,v1,S1,E,h1,fun u1 bu H1 p1 w1 r1=>⟨bu,S1,δ,v2,S2,E.to p1 w1,h3,fun u2 iR H2 p2 w2 r2=>?_⟩⟩
 have iZ:=r1.pre p2;have vT:=p1.trans p2;split at h4
 .rename_i x y;obtain⟨d,S3,h5,h6⟩:=R3.af h4;obtain⟨h7,e7⟩:=R3.of_ok h5;cases h6;subst e7;unfold aB at iZ r2;unfold cu at h7;split at h7
  .split at h7
   .rename_i e;cases h7;obtain⟨p,xs,rfl,l,rs⟩:=Rep.lst.mp iZ;obtain⟨y,e1,e2⟩:=fM rs e;exact .inl ⟨p,xs,_,y,rfl,Rep.int.mp r2,l.sq,e1,q y iR H2 vT w2 (by unfold aB;exact e2)⟩
   .cases h7
  .split at h7
   .rename_i e;cases h7;obtain⟨p,xs,rfl,l,rs⟩:=Rep.tup.mp iZ;obtain⟨y,e1,e2⟩:=fM rs e;exact .inr (.inl ⟨p,xs,_,y,rfl,Rep.int.mp r2,l.sq,e1,q y iR H2 vT w2 (by unfold aB;exact e2)⟩)
   .cases h7
  .obtain⟨hl,h8⟩:=R.aH h7;split at h8
   .rename_i e;cases h8;exact .inr (.inr ⟨_,_,_,Rep.str.mp iZ,Rep.int.mp r2,of_decide_eq_true hl,e,q _ iR H2 vT w2 (by unfold aB;exact Rep.str.mpr rfl)⟩)
   .cases h8
  .cases h7
 .split at h4
  .rename_i e;cases h4;unfold aB at iZ r2;obtain⟨p,xs,rfl,l,rs⟩:=iZ;obtain⟨y,e1,e2⟩:=h_ rs e;exact .inl ⟨p,xs,_,y,rfl,Rep.int.mp r2,l.sq,e1,q y iR H2 vT w2 e2⟩
  .cases h4
 .split at h4
  .rename_i e;cases h4;unfold aB at iZ r2;obtain⟨p,xs,rfl,l,rs⟩:=iZ;obtain⟨y,e1,e2⟩:=h_ rs e;exact .inr (.inl ⟨p,xs,_,y,rfl,Rep.int.mp r2,l.sq,e1,q y iR H2 vT w2 e2⟩)
  .cases h4
 .cases h4
end
end L3
end
section
namespace L3
open PySem PySem.Spec PyProof.Rows L2
section
variable {X:Cx} {cl:KZ}
structure v8 (X:Cx) (cl:KZ) (e:Expr) (f:FB):Prop where
 go:L2.PW X e (zT X.K cl f)
theorem v8.pb(h:v8 X cl e f):t7 X cl e f:=⟨L2.PW.pt h.1⟩
def sF(f g:FB):FB:=fun δ S=>(f δ S).bind fun b S=>if b then g δ S else .ok false S
def Dw(f g:FB):FB:=fun δ S=>(f δ S).bind fun b S=>if b then .ok true S else g δ S
def IH(f:FB):FB:=fun δ S=>(f δ S).bind fun b S=> .ok (!b) S
theorem sZ(h:t7 X cl a f):v8 X cl (.BoolOp .And [a] pos) f:=⟨xg h.1⟩
theorem wV(h:t7 X cl a f):v8 X cl (.BoolOp .Or [a] pos) f:=⟨ur h.1⟩
theorem rB{rest:List Expr}(ha:t7 X cl a f)(hb:v8 X cl (.BoolOp .And (b ::rest) pos) g):v8 X cl (.BoolOp .And (a ::b ::rest) pos) (sF f g):=⟨by
 intro wh pins s σ H Q I ⟨ρ,S,δ,k,S',E,hf,q⟩;refine y_ ha.1 hb.1 wh pins s σ H Q I ?_;obtain⟨c,S1,h1,h2⟩:=R3.af hf;refine⟨ρ,S,δ,c,S1,E,h1,fun bu H1 p1 w1=>?_⟩
 cases c with
 | true=>rw [if_pos rfl] at h2 ⊢;exact⟨bu,S1,δ,k,S',E.to p1 w1,h2,fun iR H' p2 w2=>q iR H' (p1.trans p2) w2⟩
 | false=>rw [if_neg (by decide)] at h2 ⊢;cases h2;exact q bu H1 p1 w1⟩
theorem zf{rest:List Expr}(ha:t7 X cl a f)(hb:v8 X cl (.BoolOp .Or (b ::rest) pos) g):v8 X cl (.BoolOp .Or (a ::b ::rest) pos) (Dw f g):=⟨by
 intro wh pins s σ H Q I ⟨ρ,S,δ,k,S',E,hf,q⟩;refine yy ha.1 hb.1 wh pins s σ H Q I ?_;obtain⟨c,S1,h1,h2⟩:=R3.af hf;refine⟨ρ,S,δ,c,S1,E,h1,fun bu H1 p1 w1=>?_⟩
 cases c with
 | true=>rw [if_pos rfl] at h2 ⊢;cases h2;exact q bu H1 p1 w1
 | false=>rw [if_neg (by decide)] at h2 ⊢;exact⟨bu,S1,δ,k,S',E.to p1 w1,h2,fun iR H' p2 w2=>q iR H' (p1.trans p2) w2⟩⟩
def uu(f:FX):FB:=fun δ S=>(f δ S).bind fun v S=>match v with | .d d=>R3.of (wD d) S | _=> .no
theorem xA(ha:PX X cl a f)(ht:∀{t:TE},PE X a t->PT X a (fun σ H Q=>t σ H fun x H'=>∃b,x8 X.K x H' b/\Q b H')):t7 X cl a (uu f):=
 ⟨(ht ha.1).imp fun σ H Q ⟨ρ,S,δ,b,S',E,hf,q⟩=>by
   obtain⟨v,S1,h1,h2⟩:=R3.af hf;split at h2
   .rename_i d;obtain⟨h3,e3⟩:=R3.of_ok h2;subst e3;exact⟨ρ,S,δ, .d d,_,E,h1,fun u bu H1 p1 w1 r1=>⟨b,ub (by unfold aB at r1;exact r1) h3,q bu H1 p1 w1⟩⟩
   .cases h2⟩
abbrev Bi:=DE->aA->R3 (Option Int)
def I_(K:W.Frag)(cl:KZ)(f:Bi):TO:=fun σ H Q=>∃ρ S δ o S',cY K cl ρ H S σ δ/\f δ S= .ok o S'/\∀br H',Pre ρ H br H'->SW K cl br H' S'->Q o H'
structure Kq (X:Cx) (cl:KZ) (e:Option Expr) (f:Bi):Prop where
 go:PO X e (I_ X.K cl f)
def Eb:Bi:=fun _ S=> .ok none S
def Ea(f:FX):Bi:=fun δ S=>(f δ S).bind fun v S=>match v with | .d (.int i)=> .ok (some i) S | _=> .no
def Ka(f:FX)(fl fh:Bi):FX:=fun δ S=>(f δ S).bind fun v S1=>(fl δ S1).bind fun lo S2=>(fh δ S2).bind fun hi S3=>match v with
 | .d d=>(R3.of (DD d lo hi) S3).bind fun r S=> .ok (.d r) S
 | _=> .no
end
end L3
end
section
namespace L2
open PySem PySem.Spec PyProof.Rows
section
variable {X:Cx}
def zQ(t T:String):Bool:=t==T || (t=="bool" && T=="int")
def IS(T:String)(f:FD):FD:=fun δ=>(f δ).bind fun d=>match d with | .dct _ _=> .no | _=> .ok (.bl (zQ (tyName d) T))
def nList(f:FD):ar->R (List D):=fun δ=>(f δ).bind fun d=>match d with | .lst ds=> .ok ds | .tup ds=> .ok ds | _=> .no
theorem kx{p pos:Pos}{e:Expr}{f:FD}(he:QD X e f)(hg:Gl X "list")(hm:X.mg "list"=none)
 (hs:starEach [e] X.env=(false,eval e X.env) ::starEach [] X.env:=by rfl) (fP:(backTo pos (starEach [] X.env)).any (·.1)=false:=by rfl):QN X (.Call (.Name "list" p) [e] [] pos) (nList f):=by
 refine⟨(jD mw hg hm boot_list (c1 he.1 eP hs) (by decide) (by decide) hs fP).imp fun σ H Q ⟨Z,B,δ,ds,E,hf,q⟩=>?_⟩
 obtain⟨d,h1,h2⟩:=R.af hf;refine⟨Z,B,δ,d,E,h1,fun v H1 s1 r1=>?_⟩
 split at h2
 .cases h2;obtain⟨a,ys,rfl,l,r⟩:=Rep.lst.mp r1;exact⟨a,ys,rfl, .inl l.sq,fun p hp=>q p ys _ (s1.trans (bt hp)) (s1.free hp) aU (r.bf (jh hp))⟩
 .cases h2;obtain⟨a,ys,rfl,l,r⟩:=Rep.tup.mp r1;exact⟨a,ys,rfl, .inr l.sq,fun p hp=>q p ys _ (s1.trans (bt hp)) (s1.free hp) aU (r.bf (jh hp))⟩
 .cases h2
end
end L2
namespace L3
open PySem PySem.Spec PyProof.Rows L2
theorem ei{P:Program}{w:World}{K:W.Frag}{mg:KY}{base:Heap}{cl:KZ}{x qual:Str}{st:Stmt}{f:Addr}{fd:FuncData}{N ps:List Str}{k:Nat}{F:FZ}{b:List Stmt}{sc:Scope}(hb:bw st=b)(hs:aL st=sc)(Fn:pF K x qual st f fd)(S:bH N ps sc)
 (dZ:∀(df:Value) (A:Around) (outer:List Env) (s:Shared) (H:Hp) (E:XK),dH k (A.deeper (envOfC qual sc s.heap.objs.size f df))->
   tP (gU mn P w K mg base N qual sc f df A outer s H E).xl cl b F):eU P w K mg base mn (k+1) f fd ps (xR K cl ps.length (jd N F)):=by
 subst hb hs;exact xG Fn S dZ
theorem bZ.p{K:W.Frag}{mg:KY}{cl:KZ}{k:Nat}{n:Nat}{N:List Str}(C:bZ P w K mg base cl k x n (jd N F)):bZ P w K mg base cl k x n (mm N F):=
 let⟨f,fd,ps,F,h⟩:=C;⟨f,fd,ps,F.imp fun _ _ _ _ h=>vO h,h⟩
def DC(N:List Str)(F:FZ):List D->R D:=fun ds=>match mm N F (ds.map .d) [] with
 | .ok (.d d) []=>R.ba d.atom (.ok d)
 | _=> .no
theorem Au{K:W.Frag}{cl:KZ}{N:List Str}{n:Nat}{vs:List V}{Q:VK}{E:XK}(h:xj K n (DC N F) vs H Q E):xR K cl n (jd N F) vs H Q E:=by
 obtain⟨hl,B,ds,d,hb,r,hg,q⟩:=h;unfold DC at hg;split at hg
 .rename_i d' e;obtain⟨ha,h2⟩:=R.aH hg;cases h2;have r0:ay K (⟨[],[],[]⟩:P3).b H ds vs:=r.bf fun b o e _=>⟨e,by simp [P3.b]⟩
  refine vO ⟨hl,⟨[],[],[]⟩,[],ds.map .d, .d d,[],⟨rfl,fun i j a hi=>by simp at hi,fun k a o hk=>by simp at hk,fun b hb=>by simp at hb,fun k a hk=>by simp at hk,fun b hb=>by simp at hb,fun k a hk=>by simp at hk⟩,aw.of r0,e,fun u br H' p w' r'=>q u H' (fun b o eb=>?_) ?_⟩
  .exact(p.bf b o eb (by simp [P3.b])).1
  .unfold aB at r';exact r'.atom ha
 .cases hg
section
variable {X:Cx} {cl:KZ}
theorem vh{a:Expr}(ha:PX X cl a f)(he:∀whole,isTrue a X.env whole=(do let v <-whole;standAt a.pos;holding [v] (truthy v)):=by intro _;rfl):t7 X cl a (uu f):=xA ha fun h=>oX h he
def D7(f:FX):FA:=fun δ S=>(f δ S).bind fun v S=>match v with | .d (.tup ds)=> .ok (ds.map .d) S | .tup vs=> .ok vs S | _=> .no
end
end L3
end
section
namespace L3
open PySem PySem.Spec PyProof.Rows L2
def W3{α:Type}(r:R3 α)(Q:α->aA->Prop):Prop:=∃a S,r= .ok a S/\Q a S
section
variable {α β:Type} {Q Q':α->aA->Prop} {S:aA} {δ:DE}
theorem W3.ok{a:α}(h:Q a S):W3 (.ok a S) Q:=⟨a,S,rfl,h⟩
theorem W3.bind{Q:β->aA->Prop}{r:R3 α}{f:α->aA->R3 β}(h:W3 r fun a S=>W3 (f a S) Q):W3 (r.bind f) Q:=by
 obtain⟨a,S1,e1,b,S2,h2,q⟩:=h;exact⟨b,S2,by rw[e1];exact h2,q⟩
theorem W3.mono{r:R3 α}(h:W3 r Q)(m:∀a S,Q a S->Q' a S):W3 r Q':=let⟨a,S,e,q⟩:=h;⟨a,S,e,m a S q⟩
theorem W3.wh{c:Bool}{r:R3 α}(hc:c=true)(h:W3 r Q):W3 (R3.ba c r) Q:=by rw[hc];exact h
theorem W3.of{r:R α}{a:α}(e:r= .ok a)(h:Q a S):W3 (R3.of r S) Q:=by rw[e];exact⟨a,S,rfl,h⟩
end
section
variable {S:aA} {δ:DE} {QV:V3->aA->Prop} {QB:Bool->aA->Prop} {QA:List V3->aA->Prop} {QO:Ou->aA->Prop}
theorem cn{f:FD}{d:D}(e:f (down δ)= .ok d)(h:QV (.d d) S):W3 (xP f δ S) QV:=W3.bind (W3.of e (W3.ok h))
theorem sR{f:FD}{d:D}(e:f (bX S δ)= .ok d)(ha:jk d=true)(h:QV (.d d) S):W3 (xT f δ S) QV:=W3.bind (W3.of e (W3.wh ha (W3.ok h)))
theorem dn{f:ar->R Bool}{b:Bool}(e:f (down δ)= .ok b)(h:QB b S):W3 (bP f δ S) QB:=W3.of e h
theorem w_var{i:Nat}{v:V3}(e:δ[i]? =some (some v))(h:QV v S):W3 (bz i δ S) QV:=by unfold bz;rw [e];exact W3.ok h
theorem gv{f:ar->R (List D)}{ds:List D}(e:f (down δ)= .ok ds)(h:QV (.loc S.length) (S++[.lst ds])):W3 (gB f δ S) QV:=W3.bind (W3.of e (W3.ok h))
theorem bC(h:QA [] S):W3 (aZ δ S) QA:=W3.ok h
theorem ax{f:FX}{g:FA}(h:W3 (f δ S) fun v S1=>W3 (g δ S1) fun vs S2=>QA (v ::vs) S2):W3 (ak f g δ S) QA:=W3.bind (h.mono fun _ _ h=>W3.bind (h.mono fun _ _ h=>W3.ok h))
theorem me{g:FA}(h:W3 (g δ S) fun vs S1=>vs.length<=sizeLine/\QV (nZ vs) S1):W3 (j7 g δ S) QV:=W3.bind (h.mono fun _ _ h=>W3.wh (decide_eq_true h.1) (W3.ok h.2))
theorem uB{g:FA}(h:W3 (g δ S) fun vs S1=>vs.length<=sizeLine/\QV (j1 vs) S1):W3 (p7 g δ S) QV:=W3.bind (h.mono fun _ _ h=>W3.wh (decide_eq_true h.1) (W3.ok h.2))
theorem xp{g:D->D->R D}{fa fb:FX}(h:W3 (fa δ S) fun a S1=>W3 (fb δ S1) fun b S2=>∃x y d,a= .d x/\b= .d y/\g x y= .ok d/\QV (.d d) S2):W3 (x2 g fa fb δ S) QV:=
 W3.bind (h.mono fun _ _ h=>W3.bind (h.mono fun _ _ ⟨_,_,_,e1,e2,e3,q⟩=>by subst e1 e2;exact W3.bind (W3.of e3 (W3.ok q))))
theorem Ai{g:D->D->R D}{fa fb:FX}(h:W3 (fa δ S) fun a S1=>W3 (fb δ S1) fun b S2=>∃x y k,a= .d x/\b= .d y/\g x y= .ok (.bl k)/\QB k S2):W3 (Bj g fa fb δ S) QB:=
 W3.bind (xp (h.mono fun _ _ h=>h.mono fun _ _ ⟨x,y,k,e1,e2,e3,q⟩=>⟨x,y, .bl k,e1,e2,e3,W3.ok q⟩))
theorem pK{fa fb:FX}(h:W3 (fa δ S) fun a S1=>W3 (fb δ S1) fun b S2=>∃x y d,a= .d x/\b= .d y/\cu x y= .ok d/\QV (.d d) S2):W3 (qX fa fb δ S) QV:=
 W3.bind (h.mono fun _ _ h=>W3.bind (h.mono fun _ _ ⟨_,_,_,e1,e2,e3,q⟩=>by subst e1 e2;exact W3.bind (W3.of e3 (W3.ok q))))
theorem cV{g:List V3->aA->R3 V3}{fs:FA}(h:W3 (fs δ S) fun vs S1=>W3 (g vs S1) QV):W3 (bb g fs δ S) QV:=W3.bind h
theorem jm{g:List D->R D}{fs:FA}(h:W3 (fs δ S) fun vs S1=>∃ds d,vs=ds.map .d/\g ds= .ok d/\QV (.d d) S1):W3 (d4 g fs δ S) QV:=
 W3.bind (h.mono fun _ _ ⟨ds,_,e1,e2,q⟩=>by subst e1;rw [k9];exact W3.bind (W3.of e2 (W3.ok q)))
theorem uA{it:FA}{own:List Str}{kp:List Nat}(h:W3 (it δ S) fun vs S1=>vs.length<=sizeLine/\W3 (gH t c f (gz own kp δ) vs S1) fun ys S2=>QV (j1 ys) S2):W3 (iu it t c f own kp δ S) QV:=
 W3.bind (h.mono fun _ _ h=>W3.wh (decide_eq_true h.1) (W3.bind (h.2.mono fun _ _ h=>W3.ok h)))
theorem yL{f:FX}(h:W3 (f δ S) fun v S1=>∃d b,v= .d d/\wD d= .ok b/\QB b S1):W3 (uu f δ S) QB:=W3.bind (h.mono fun _ _ ⟨_,_,e,e2,q⟩=>by subst e;exact W3.of e2 q)
theorem aF{F G:FZ}(h:W3 (F δ S) fun o S1=>∃cg,o= .nx cg/\W3 (G cg S1) QO):W3 (aQ F G δ S) QO:=W3.bind (h.mono fun _ _ ⟨_,e,h⟩=>by subst e;exact h)
theorem tQ{F G:FZ}(h:W3 (F δ S) fun o S1=>∃v,o= .rt v/\QO (.rt v) S1):W3 (aQ F G δ S) QO:=W3.bind (h.mono fun _ _ ⟨_,e,h⟩=>by subst e;exact W3.ok h)
theorem bp{i:Nat}{f:FX}(hi:i < δ.length)(h:W3 (f δ S) fun v S1=>QO (.nx (δ.set i (some v))) S1):W3 (bA i f δ S) QO:=W3.bind (h.mono fun _ _ h=>W3.wh (decide_eq_true hi) (W3.ok h))
theorem fI{f:FX}(h:W3 (f δ S) fun v S1=>QO (.rt v) S1):W3 (eT f δ S) QO:=W3.bind (h.mono fun _ _ h=>W3.ok h)
theorem dW{c:FB}{F G:FZ}(h:W3 (c δ S) fun b S1=>if b then W3 (F δ S1) QO else W3 (G δ S1) QO):W3 (kR c F G δ S) QO:=W3.bind (h.mono fun b _ h=>by cases b <;> exact h)
theorem t9{f:FX}{t:FG}(h:W3 (f δ S) fun v S1=>∃cg,t v δ=some cg/\QO (.nx cg) S1):W3 (sI f t δ S) QO:=W3.bind (h.mono fun _ _ ⟨_,e,q⟩=>by rw[e];exact W3.ok q)
theorem eH(h:QO (.nx δ) S):W3 (ij δ S) QO:=W3.ok h
theorem rT{f:ar->R (List D)}{ds:List D}(e:f (down δ)= .ok ds)(h:QA (ds.map .d) S):W3 (iP f δ S) QA:=W3.bind (W3.of e (W3.ok h))
theorem uk{f:FX}(h:W3 (f δ S) fun v S1=>∃n:Nat,v= .d (.int n)/\n < 1000000/\QA ((eu 0 n).map .d) S1):W3 (md f δ S) QA:=W3.bind (h.mono fun _ _ ⟨n,e,hn,q⟩=>by
 subst e;refine W3.wh (decide_eq_true ⟨by omega,by omega⟩) (W3.ok ?_)
 rw[Int.toNat_natCast];exact q)
theorem xo{f:FX}(h:W3 (f δ S) fun v S1=>∃vs,v= .lst vs/\QA vs S1):W3 (zA f δ S) QA:=W3.bind (h.mono fun _ _ ⟨n,e,q⟩=>by subst e;exact W3.ok q)
theorem lO{it:FA}(h:W3 (it δ S) fun vs S1=>W3 (jr t F vs δ S1) QO):W3 (mR it t F δ S) QO:=W3.bind h
theorem mf{i k:Nat}{f:FX}(hk:δ[i]? =some (some (.loc k)))(h0:∃ds,S[k]? =some (.lst ds))(h:W3 (f δ S) fun v S1=>∃d ds,v= .d d/\S1[k]? =some (.lst ds)/\ds.length < sizeLine/\QO (.nx δ) (S1.set k (.lst (ds++[d])))):W3 (lA i f δ S) QO:=by
 obtain⟨es,h0⟩:=h0;unfold lA;have e1:fL δ i=some k:=by unfold fL;rw [hk]
 have e2:bU S k=some es:=by unfold bU;simp only[h0]
 rw[e1];show W3 (match bU S k with | none=>_ | some _=>_) _
 rw[e2];refine W3.bind (h.mono fun v S1 ⟨d,ds,e,h1,hl,q⟩=>?_)
 subst e;have e3:bU S1 k=some ds:=by unfold bU;simp only[h1]
 show W3 (match bU S1 k with | some ds=>_ | none=>_) _
 rw[e3];exact W3.wh (decide_eq_true hl) (W3.ok q)
theorem qZ{fo fi fe:FX}(h:W3 (fe δ S) fun v S1=>W3 (fo δ S1) fun o S2=>W3 (fi δ S2) fun j S3=>∃d k n ds m,v= .d d/\o= .loc k/\j= .d (.int n)/\S3[k]? =some (.lst ds)/\r_ ds.length n=some m/\QO (.nx δ) (S3.set k (.lst (ds.set m d)))):W3 (m5 fo fi fe δ S) QO:=
 W3.bind (h.mono fun _ _ h=>W3.bind (h.mono fun _ _ h=>W3.bind (h.mono fun _ S3 ⟨d,k,n,ds,m,e1,e2,e3,h1,h2,q⟩=>by
  subst e1 e2 e3;have e3:bU S3 k=some ds:=by unfold bU;simp only[h1]
  show W3 (match bU S3 k with | some ds=>_ | none=>_) _
  rw[e3];show W3 (match r_ ds.length n with | some m=>_ | none=>_) _
  rw[h2];exact W3.ok q)))
theorem kD{t:FG}{body:FZ}:∀(vs:List V3) (n:Nat) (P:Nat->DE->aA->Prop) {δ:DE} {S:aA},P n δ S->
 (∀i v δ S,vs[i]? =some v->P (n+i) δ S->∃cg,t v δ=some cg/\W3 (body cg S) fun o S1=>∃fG,o= .nx fG/\P (n+i+1) fG S1)->W3 (jr t body vs δ S) fun o S1=>∃fG,o= .nx fG/\P (n+vs.length) fG S1
 | [],n,P,δ,S,h0,_=>W3.ok ⟨δ,rfl,h0⟩
 | v ::vs,n,P,δ,S,h0,hs=>by
   obtain⟨cg,e1,o,S1,e2,fG,rfl,p2⟩:=hs 0 v δ S rfl h0;have ih:=kD vs (n+1) P p2 (fun i v' dC S' hi hp=>by
    have:=hs (i+1) v' dC S' (by simpa using hi) (by rw[show n+(i+1)=n+1+i by omega];exact hp)
    rw[show n+(i+1)+1=n+1+i+1 by omega] at this
    exact this)
   rw[show n+1+vs.length=n+(v ::vs).length by rw[List.length_cons];omega] at ih
   unfold jr;rw[e1];refine W3.bind ⟨_,_,e2,?_⟩;exact ih
theorem eG{t:FG}{body:FZ}{vs:List V3}(P:Nat->DE->aA->Prop){δ:DE}{S:aA}(h0:P 0 δ S)
 (hs:∀i v δ S,vs[i]? =some v->P i δ S->∃cg,t v δ=some cg/\W3 (body cg S) fun o S1=>∃fG,o= .nx fG/\P (i+1) fG S1):W3 (jr t body vs δ S) fun o S1=>∃fG,o= .nx fG/\P vs.length fG S1:=by
 have:=kD (t:=t) (body:=body) vs 0 P h0 (fun i v δ S hi hp=>by simpa using hs i v δ S hi (by simpa using hp))
 simpa using this
theorem kS{t:FG}{c:FB}{f:FX}{δ:DE}:∀(vs:List V3) (n:Nat) (P:Nat->List V3->aA->Prop) {ys:List V3} {S:aA},P n ys S->
 (∀i v ys S,vs[i]? =some v->P (n+i) ys S->∃cg,t v δ=some cg/\W3 (c cg S) fun b S1=>if b then W3 (f cg S1) fun y S2=>P (n+i+1) (ys++[y]) S2 else P (n+i+1) ys S1)->W3 (gH t c f δ vs S) fun zs S1=>P (n+vs.length) (ys++zs) S1
 | [],n,P,ys,S,h0,_=>W3.ok (by rw[List.append_nil];exact h0)
 | v ::vs,n,P,ys,S,h0,hs=>by
   obtain⟨cg,e1,b,S1,e2,h2⟩:=hs 0 v ys S rfl h0;have ih:∀{CV S'},P (n+1) CV S'->W3 (gH t c f δ vs S') fun zs S1=>P (n+(v ::vs).length) (CV++zs) S1:=fun {CV S'} p=>by
    have:=kS (t:=t) (c:=c) (f:=f) (δ:=δ) vs (n+1) P p (fun i v' CV S' hi hp=>by
     have:=hs (i+1) v' CV S' (by simpa using hi) (by rw[show n+(i+1)=n+1+i by omega];exact hp)
     rw[show n+(i+1)+1=n+1+i+1 by omega] at this
     exact this)
    rw[show n+1+vs.length=n+(v ::vs).length by rw[List.length_cons];omega] at this
    exact this
   unfold gH;rw[e1];refine W3.bind ⟨b,S1,e2,?_⟩;cases b with
   | true=>
     rw[if_pos rfl] at h2 ⊢;exact W3.bind (h2.mono fun y S2 p=>W3.bind ((ih p).mono fun zs S3 q=>W3.ok (by rw[List.append_assoc] at q;exact q)))
   | false=>rw [if_neg (by decide)] at h2 ⊢;exact ih h2
theorem lZ{t:FG}{c:FB}{f:FX}{δ:DE}{vs:List V3}(P:Nat->List V3->aA->Prop){S:aA}(h0:P 0 [] S)
 (hs:∀i v ys S,vs[i]? =some v->P i ys S->∃cg,t v δ=some cg/\W3 (c cg S) fun b S1=>if b then W3 (f cg S1) fun y S2=>P (i+1) (ys++[y]) S2 else P (i+1) ys S1):W3 (gH t c f δ vs S) fun zs S1=>P vs.length zs S1:=by
 have:=kS (t:=t) (c:=c) (f:=f) (δ:=δ) vs 0 P h0 (fun i v ys S hi hp=>by simpa using hs i v ys S hi (by simpa using hp))
 simpa using this
theorem tT{QB:Bool->aA->Prop}(h:QB true S):W3 (pL δ S) QB:=W3.ok h
theorem uU{N:List Str}{F:FZ}{vs:List V3}{δ:DE}(e:bM N vs=δ)(h:W3 (F δ S) fun o S1=>∃v,o= .rt v/\QV v S1):W3 (jd N F vs S) QV:=by
 subst e;exact W3.bind (h.mono fun _ _ ⟨_,e,q⟩=>by subst e;exact W3.ok q)
def cf(S:aA):Prop:=∀o∈S,∃ds,o=SO.lst ds
theorem cf.all{S:aA}(h:cf S)(n:Nat):(S.take n).all (pG n)=true:=List.all_eq_true.mpr fun o ho=>by
 obtain⟨ds,rfl⟩:=h o (List.mem_of_mem_take ho);rfl
theorem cf.set{S:aA}(h:cf S)(k:Nat)(ds:List D):cf (S.set k (.lst ds)):=fun o ho=>by
 rcases List.mem_or_eq_of_mem_set ho with z | z
 .exact h o z
 .exact⟨ds,z⟩
theorem cf.push{S:aA}(h:cf S)(ds:List D):cf (S++[.lst ds]):=fun o ho=>by
 rcases List.mem_append.mp ho with z | z
 .exact h o z
 .exact⟨ds,List.mem_singleton.mp z⟩
theorem cf.take{S:aA}(h:cf S)(n:Nat):cf (S.take n):=fun o ho=>h o (List.mem_of_mem_take ho)
theorem tq{N:List Str}{vs:List V3}(h:W3 (jd N F vs S) fun v S1=>cf S1/\ek S.length v=true/\∃d,res S1 v=some d/\QV (.d d) (S1.take S.length)):W3 (mm N F vs S) QV:=
 W3.bind (h.mono fun v S1 ⟨hl,hg,d,e,q⟩=>by
  rw[e];exact W3.wh (by rw[hl.all,hg];rfl) (W3.ok q))
end
section
variable {S:aA} {δ:DE} {QV:V3->aA->Prop}
theorem qy{it:FA}{t:FG}{c:FB}{f:FX}{own:List Str}{kp:List Nat}(P:Nat->List D->aA->Prop)(h:W3 (it δ S) fun vs S1=>vs.length<=sizeLine/\P 0 [] S1/\
 (∀i v ds S2,vs[i]? =some v->P i ds S2->∃cg,t v (gz own kp δ)=some cg/\W3 (c cg S2) fun b S3=>if b then W3 (f cg S3) fun y S4=>∃d,y= .d d/\P (i+1) (ds++[d]) S4 else P (i+1) ds S3)/\
 ∀ds S2,P vs.length ds S2->QV (.d (.lst ds)) S2):W3 (iu it t c f own kp δ S) QV:=by
 refine uA (h.mono fun vs S1 ⟨hl,h0,hs,hq⟩=>⟨hl,?_⟩)
 refine(lZ (fun i ys S=>∃ds,ys=ds.map V3.d/\P i ds S) ⟨[],rfl,h0⟩ ?_).mono fun zs S2 ⟨ds,e,p⟩=>?_
 .rintro i v ys S2 hv ⟨ds,rfl,p⟩;obtain⟨cg,e1,h1⟩:=hs i v ds S2 hv p;refine⟨cg,e1,h1.mono fun b S3 h3=>?_⟩
  cases b with
  | true=>
    rw[if_pos rfl] at h3 ⊢;exact h3.mono fun y S4 ⟨d,e,p⟩=>by subst e;exact⟨ds++[d],by simp,p⟩
  | false=>rw [if_neg (by decide)] at h3 ⊢;exact⟨ds,rfl,h3⟩
 .subst e;unfold j1;rw[k9];exact hq ds S2 p
structure cz (n:Nat) (d:D):Prop where
 pl:dt d=true
 ly:(toPy d).canLay0=true
 dp:(toPy d).depth<=n
theorem cz.int(i:Int):cz 0 (.int i):=⟨by unfold dt;rfl,by unfold toPy PyData.canLay0;rfl,by unfold toPy PyData.depth;omega⟩
theorem cz.bl(b:Bool):cz 0 (.bl b):=⟨by unfold dt;rfl,by unfold toPy PyData.canLay0;rfl,by unfold toPy PyData.depth;omega⟩
theorem cz.str(h:(PyData.str s).canLay0=true):cz 0 (.str s):=⟨by unfold dt;rfl,by unfold toPy;exact h,by unfold toPy PyData.depth;omega⟩
theorem cz.mono{n m:Nat}{d:D}(h:cz n d)(hm:n<=m):cz m d:=⟨h.pl,h.ly,Nat.le_trans h.dp hm⟩
theorem cz.all{n:Nat}:∀{ds:List D},(∀d∈ds,cz n d)->e_ ds=true/\PyData.canLayAll0 (gy ds)=true/\PyData.depthAll (gy ds)<=n
 | [],_=>⟨by unfold e_;rfl,by unfold gy PyData.canLayAll0;rfl,by unfold gy PyData.depthAll;omega⟩
 | d ::ds,h=>by
   obtain⟨h1,h2,h3⟩:=cz.all (ds:=ds) fun x hx=>h x (List.mem_cons_of_mem _ hx)
   have f:=h d List.mem_cons_self;refine⟨by unfold e_;rw [f.pl,h1];rfl,by unfold gy PyData.canLayAll0;rw [f.ly,h2];rfl,?_⟩
   unfold gy PyData.depthAll;have:=f.dp;omega
theorem cz.lst{n:Nat}{ds:List D}(h:∀d∈ds,cz n d):cz (n+1) (.lst ds):=by
 obtain⟨h1,h2,h3⟩:=cz.all h;exact⟨by unfold dt;exact h1,by unfold toPy PyData.canLay0;exact h2,by unfold toPy PyData.depth;omega⟩
theorem cz.tup{n:Nat}{ds:List D}(h:∀d∈ds,cz n d):cz (n+1) (.tup ds):=by
 obtain⟨h1,h2,h3⟩:=cz.all h;exact⟨by unfold dt;exact h1,by unfold toPy PyData.canLay0;exact h2,by unfold toPy PyData.depth;omega⟩
theorem cz.sh{n:Nat}{d:D}(h:cz n d)(hn:n<=64):SeqAt.shaped (toPy d)=true:=by
 unfold SeqAt.shaped;rw[h.ly,decide_eq_true (Nat.le_trans h.dp hn)];rfl
theorem zi{d e:List D}:Bk (.tup d) (.tup e)=R.ba (dt (.tup d) && dt (.tup e) && SeqAt.shaped (toPy (.tup d)) && SeqAt.shaped (toPy (.tup e))) (.ok (PyData.eqv (toPy (.tup d)) (toPy (.tup e)))):=rfl
theorem cz.eqT{n:Nat}{ds:List D}(h:cz n (.tup ds))(hn:n<=64):Bk (.tup ds) (.tup ds)= .ok true:=by
 rw[zi,h.pl,h.sh hn,SeqAt.eqv_refl _ h.ly];rfl
end
theorem uE{α:Type}(ds:List α){n:Int}(h:0<=n):L2.cutD ds none (some n)=ds.take n.toNat:=by
 obtain⟨k,rfl⟩:=Int.eq_ofNat_of_zero_le h;unfold L2.cutD;rw[HT.vA,HT.wH,List.drop_zero,Nat.sub_zero,Int.toNat_natCast];by_cases hk:k<=ds.length
 .rw [Nat.min_eq_left hk]
 .rw [Nat.min_eq_right (by omega),List.take_of_length_le (Nat.le_refl _),List.take_of_length_le (by omega)]
end L3
end
section
namespace L2
open PySem PySem.Spec PyProof.Rows
section
variable {X:Cx}
def yn:D->Bool | .cy=>true | _=>false
def JV(d e:D):R D:=match e with | .cy=> .ok (.bl (yn d)) | _=> .no
def IT(d e:D):R D:=match e with | .cy=> .ok (.bl (!yn d)) | _=> .no
theorem rM:eX X (.type "int") (fun xs H Q=>∃x n,xs=[.str x]/\PySem.intText? x=some n/\x.length<=640/\Q (.int n) H):=by
 intro pins s σ H xs us Q I r h;obtain⟨x,n,rfl,h1,h2,q⟩:=h;obtain⟨u,rfl,ru⟩:=vals1 r;obtain⟨t,rfl⟩:=ru;exact PySem.W.KIN.call_text h1 h2 ⟨.int n,H,I.tok _,⟨_,rfl⟩,q⟩
def uV:List D->R D
 | [.str x]=>R.ba (decide (x.length<=640)) (match PySem.intText? x with | some n=> .ok (.int n) | none=> .no)
 | _=> .no
theorem Ak:cq X (.type "int") uV:=cq.of rM fun B H ds d xs Q _ rs hg q=>by
 unfold uV at hg;split at hg
 .obtain⟨h1,h2⟩:=R.aH hg;split at h2
  .rename_i e;cases h2;obtain⟨x,rfl,r⟩:=rs.one;exact⟨_,_,by rw[Rep.str.mp r],e,of_decide_eq_true h1,q _ H (aG.refl H) (Rep.int.mpr rfl)⟩
  .cases h2
 .cases hg
def jZ(ds:List D):R D:=match ds with | [.str _]=>uV ds | _=>cInt ds
theorem pM:cq X (.type "int") jZ:=cq.or Ak Ci fun a d h=>by
 unfold jZ at h;split at h
 .exact .inl h
 .exact .inr h
def k8(f:FD):FD:=fun δ=>(f δ).bind fun d=>match d with | .int i=> .ok (.int (-i)) | _=> .no
theorem g9(h:QD X a f):QD X (.UnaryOp .USub a pos) (k8 f):=⟨(CA y7 h.1).imp fun σ H Q ⟨Z,B,δ,d,E,hf,q⟩=>by
 obtain⟨d1,h1,h2⟩:=R.af hf;split at h2
 .cases h2;exact⟨Z,B,δ,_,E,h1,fun v H1 s1 r1=>⟨_,Rep.int.mp r1,q _ H1 s1 (Rep.int.mpr rfl)⟩⟩
 .cases h2⟩
def Gq(d:D)(ds:List D):R D:=match d,ds with
 | .str x,[.str y]=> .ok (.int (Txt.find x y))
 | _,_=> .no
def Jh(aI:List (Str × Str)):D:= .dct (aI.map fun p=>Sum.inr p.1) (aI.map fun p=> .str p.2)
def Kv(aI:List (Str × Str)):List (Key × V):=aI.map fun p=>((Sum.inr p.1:Key),V.str p.2)
def HS(d k:D):R D:=match d,k with
 | .dct ks ds, .str x=>(match (ks.zip ds).find? fun p=>decide (p.1=Sum.inr x) with | some p=> .ok p.2 | none=> .no)
 | _,_=> .no
end
end L2
namespace L3
open PySem PySem.Spec PyProof.Rows L2
section
variable {X:Cx} {cl:KZ}
def D5(f:FX):FB:=fun δ S=>(f δ S).bind fun v S=>match v with | .d (.bl b)=> .ok b S | _=> .no
theorem yY{f:FX}{δ:DE}{S S':aA}{b:Bool}(h:D5 f δ S= .ok b S'):f δ S= .ok (.d (.bl b)) S':=by
 obtain⟨v,S1,h1,h2⟩:=R3.af h;split at h2
 .cases h2;exact h1
 .cases h2
def HW(f g:FX):FX:=fun δ S=>(D5 f δ S).bind fun b S=>if b then g δ S else .ok (.d (.bl false)) S
def Dq(f g:FX):FX:=fun δ S=>(D5 f δ S).bind fun b S=>if b then .ok (.d (.bl true)) S else g δ S
theorem zD{op}(h:PX X cl a f):PX X cl (.BoolOp op [a] pos) f:=⟨um h.1⟩
theorem Cq{rest:List Expr}(ha:PX X cl a f)(hb:PX X cl (.BoolOp .Or (b ::rest) pos) g):PX X cl (.BoolOp .Or (a ::b ::rest) pos) (Dq f g):=⟨(B6 ha.1 hb.1).imp fun σ H Q ⟨ρ,S,δ,k,S',E,hf,q⟩=>by
 obtain⟨c,S1,h1,h2⟩:=R3.af hf;refine⟨ρ,S,δ, .d (.bl c),S1,E,yY h1,fun v bu H1 p1 w1 r1=>⟨c,by unfold aB Rep at r1;exact r1,?_⟩⟩
 cases c with
 | true=>rw [if_pos rfl] at h2 ⊢;cases h2;exact q _ bu H1 p1 w1 (by unfold aB Rep;rfl)
 | false=>rw [if_neg (by decide)] at h2 ⊢;exact⟨bu,S1,δ,k,S',E.to p1 w1,h2,fun v iR H' p2 w2 r2=>q v iR H' (p1.trans p2) w2 r2⟩⟩
def Hz(i:Nat)(F:FZ):FZ:=fun δ S=>match fL δ i with
 | some k=>(match bU S k with | some ds=>F (δ.set i (some (.d (.lst ds)))) (S.set k .jB) | none=> .no)
 | none=> .no
end
def Flat(S:aA):Prop:=∀o∈S,∀n,pG n o=true
end L3
end
section
namespace PySem
open Sem (wp)
open AutoSeq1 (wpAny_loadPart')
section
variable {prog:Program} {w:World} {A:Around} {E:KR} {s:Shared}
end
end PySem
namespace L2
open PySem PySem.Spec PyProof.Rows
section
variable {X:Cx}
def Dy(f:FD):FD:=fun δ=>(f δ).bind fun d=>match d with
 | .int j=>R.ba (decide (-(2 ^ 62)<=j/\j < 16777216)) (.ok (.tup (eu 0 j.toNat)))
 | _=> .no
end
end L2
end
section
namespace PySem
open Sem (wp)
open AutoSeq1 (wpAny_loadPart')
section
variable {prog:Program} {w:World} {A:Around} {E:KR} {s:Shared}
end
end PySem
namespace L2
open PySem PySem.Spec PyProof.Rows
def Ja(K:W.Frag)(a:Addr):It:=
 ⟨fun i H=>∃xs x,jU K H a xs/\xs[i]? =some x,fun i H v H'=>∃p x,H p=none/\v= .ref p/\(∀xs,jU K H a xs->xs[i]? =some x)/\H'=upd H p (.tup [.int i,x]),fun i H=>∃xs,jU K H a xs/\xs.length<=i⟩
section
variable {X:Cx}
def Dv(f:FD):ar->R (List D):=fun δ=>(f δ).bind fun d=>match d with | .tup ds=> .ok (oT ds) | _=> .no
end
end L2
end
section
namespace L2
open PySem PySem.Spec PyProof.Rows
section
variable {X:Cx}
abbrev GD:D->D->R D:=n5 (fun _ j=>decide (0 < j/\j.natAbs.log2 < 9000)) fun i j=>i / j
theorem oF{K:W.Frag}{B:List Addr}{ds:List D}{xs:List V}(r:ay K B H ds xs):∀n:Nat,ay K B H (List.replicate n ds).flatten (List.replicate n xs).flatten
 | 0=>ay.nil
 | n+1=>by rw[List.replicate_succ,List.replicate_succ,List.flatten_cons,List.flatten_cons];exact r.append (oF r n)
def Im(f:ar->R (List D))(g:FD):ar->R (List D):=fun δ=>(f δ).bind fun ds=>(g δ).bind fun d=>match d with
 | .int k=>R.ba (decide (0<=k/\k < 1000000/\ds.length*k.toNat<=sizeLine)) (.ok (List.replicate k.toNat ds).flatten)
 | _=> .no
def u_(ns:List Int):List Int:=ns.mergeSort fun a b=>decide (a<=b)
def DB:List D->R D
 | [.lst ds]=>(match ints? ds with | some ns=>R.ba (decide (ns.length < 64)) (.ok (.lst ((u_ ns).map .int))) | none=> .no)
 | _=> .no
theorem getD_in{l:List Int}{i:Nat}(h:i < l.length):l.getD i 0∈l:=by
 have e:l.getD i 0=l[i]:=by simp [h]
 rw[e];exact List.getElem_mem h
theorem fold_min:∀(ns:List Int) (n:Int),ns.foldl min n∈n ::ns/\∀a∈n ::ns,ns.foldl min n<=a
 | [],n=>⟨by simp,fun a ha=>by simp at ha;subst ha;exact Int.le_refl _⟩
 | x ::ns,n=>by
   obtain⟨h1,h2⟩:=fold_min ns (min n x);rw[List.foldl_cons];refine⟨?_,fun a ha=>?_⟩
   .rcases List.mem_cons.mp h1 with z | z
    .rw [z];by_cases hc:n<=x
     .rw [Int.min_eq_left hc];simp
     .rw [Int.min_eq_right (by omega)];simp
    .exact List.mem_cons_of_mem _ (List.mem_cons_of_mem _ z)
   .have hm:=h2 _ List.mem_cons_self;rcases List.mem_cons.mp ha with z | z
    .subst z;omega
    .rcases List.mem_cons.mp z with z | z
     .subst z;omega
     .exact h2 a (List.mem_cons_of_mem _ z)
def l5:List D->R D
 | [.lst ds]=>(match ints? ds with | some (n ::ns)=> .ok (.int (ns.foldl min n)) | _=> .no)
 | ds=>Ar ds
def G5:List D->R D
 | [.lst ds]=>(match ints? ds with | some (n ::ns)=> .ok (.int (ns.foldl max n)) | _=> .no)
 | ds=>EB ds
theorem tO(hc:X.calm=true):cq X (.builtin "min") l5:=by
 intro pins s σ H B ds d xs us I hb rx rs hg;unfold l5 at hg;split at hg
 .split at hg
  .rename_i es n ns e;cases hg;obtain⟨x,rfl,r⟩:=rs.one;obtain⟨a,ys,rfl,l,r⟩:=Rep.lst.mp r;obtain⟨u,rfl,ru⟩:=vals1 rx;cases ru;obtain⟨its,k,rv,e1,hz⟩:=I.Cz l;rw[lR r e] at rv;obtain⟨ps,rfl,hps⟩:=iy rv;have hl:s.heap.IsList a (intItems ps.toArray):=⟨_,e1,rfl,k,by simp [intItems]⟩
   have hlp:ps.length=ns.length+1:=by have:=congrArg List.length hps;simpa using this
   refine min_intList (I.ok.hd hc) hl (by simp;omega) fun v h' tk hv hk=>?_
   obtain⟨t,rfl⟩:=intItems_at hv;obtain⟨b1,b2⟩:=argBest_lt (numAt ps.toArray) (ps.toArray.size - 1);refine⟨.int _,H,I.kept hk,⟨t,rfl⟩,aG.refl H,Rep.int.mpr ?_⟩;obtain⟨m1,m2⟩:=fold_min ns n;have hge:∀j,j < ps.length->numAt ps.toArray j=(n ::ns).getD j 0:=fun j hj=>by rw[numAt_eq,<-hps]
   have hin:numAt ps.toArray (argBest (fun i j=>decide (numAt ps.toArray i < numAt ps.toArray j)) (ps.toArray.size - 1))∈n ::ns:=by
    rw[hge _ (by simp at b1 ⊢;omega)];exact getD_in (by simp at b1 ⊢;omega)
   have hle:=m2 _ hin;obtain⟨j,hj,ej⟩:=List.getElem_of_mem m1;have F9:j < ns.length+1:=by simpa using hj
   have h3:=b2 j (by simp;omega)
   rw[hge j (by omega)] at h3
   have h4:(n ::ns).getD j 0=ns.foldl min n:=by rw[<-ej,List.getD_eq_getElem?_getD,List.getElem?_eq_getElem hj];rfl
   rw[h4] at h3;congr 1;omega
  .cases hg
 .exact Cc hc pins s σ H B _ d xs us I hb rx rs hg
end
end L2
namespace L3
open PySem PySem.Spec PyProof.Rows L2
def B7(S:aA):V3->Option (List D)
 | .d (.lst ds)=>some ds
 | .loc k=>bU S k
 | _=>none
section
variable {X:Cx} {cl:KZ}
def IZ(fa fb:FX):FX:=fun δ S=>(fa δ S).bind fun a S1=>(fb δ S1).bind fun b S2=>match B7 S2 a,B7 S2 b with
 | some ds,some es=>R3.ba (decide (ds.length+es.length<=sizeLine)) (.ok (.loc S2.length) (S2++[.lst (ds++es)]))
 | _,_=> .no
def HK(i:Nat):FZ:=fun δ S=>match fL δ i with
 | none=> .no
 | some k=>(match bU S k with | some _=> .ok (.nx δ) (S.set k (.lst [])) | none=> .no)
end
end L3
end
section
namespace L3
open PySem PySem.Spec PyProof.Rows L2
def vk(S:aA)(c k:Nat):Option (List (Str × V3)):=match S[k]? with | some (.ins c' fs)=>(if c'=c then some fs else none) | _=>none
def Cs(f:Str)(v:V3):List (Str × V3)->List (Str × V3)
 | []=>[(f,v)]
 | (g,x) ::r=>if g=f then(g,v) ::r else(g,x) ::Cs f v r
section
variable {X:Cx} {cl:KZ}
def Jd(c:Nat)(f:Str)(g:FX):FX:=fun δ S=>(g δ S).bind fun v S1=>match v with
 | .loc k=>(match vk S1 c k with | some fs=>(match fs.lookup f with | some v=> .ok v S1 | none=> .no) | none=> .no)
 | _=> .no
def GX(P:Program)(w:World)(K:W.Frag)(mg:KY)(base:Heap)(cl:KZ)(k c:Nat)(m:Str)(n:Nat)(g:List V3->aA->R3 V3):Prop:=
 ∃(f:Addr) (fd:FuncData) (ps:List Str),Bd K (cl c)/\Meth K (cl c) m f/\eU P w K mg base mn k f fd ps (xR K cl (n+1) g)/\Binds K fd ps []
def GG(c:Nat)(m:Str)(g:List V3->aA->R3 V3)(fo:FX)(fs:FA):FX:=fun δ S=>(fo δ S).bind fun o S1=>match o with
 | .loc k=>(match vk S1 c k with | some ys=>(match ys.lookup m with | none=>(fs δ S1).bind fun vs S2=>g (.loc k ::vs) S2 | some _=> .no) | none=> .no)
 | _=> .no
def GI(P:Program)(w:World)(K:W.Frag)(mg:KY)(base:Heap)(cl:KZ)(k c:Nat)(x:Str)(n:Nat)(g:List V3->aA->R3 V3):Prop:=
 ∃(f:Addr) (fd:FuncData) (ps:List Str),Mk K (cl c) f/\eU P w K mg base mn k f fd ps (xR K cl (n+1) g)/\mg x=some (.ref (cl c))/\Binds K fd ps []
def Gx(c:Nat)(g:List V3->aA->R3 V3)(fs:FA):FX:=fun δ S=>(fs δ S).bind fun vs S1=>(g (.loc S1.length ::vs) (S1++[.ins c []])).bind fun v S2=>match v with
 | .d .cy=> .ok (.loc S1.length) S2
 | _=> .no
def IL(c:Nat)(f:Str)(fo fe:FX):FZ:=fun δ S=>(fe δ S).bind fun v S1=>(fo δ S1).bind fun o S2=>match o with
 | .loc k=>(match vk S2 c k with | some fs=>R3.ba (decide (fs.length < 1000)) (.ok (.nx δ) (S2.set k (.ins c (Cs f v fs)))) | none=> .no)
 | _=> .no
end
end L3
end
section
namespace PySem
open Sem (wp)
def I0(t:Bool)(h:Heap)(i l:Addr)(k:Nat):Prop:=cond t (h.IsTupleIter i l k) (h.IsListIter i l k)
def IF(t:Bool)(h:Heap)(l:Addr)(xs:Array Value):Prop:=cond t (h.IsTuple l xs) (h.IsList l xs)
def uJ(t:Bool):String:=cond t "tuple_iterator" "list_iterator"
section
variable {prog:Program} {w:World} {A:Around} {E:KR} {s:Shared}
end
abbrev GP(t:Bool)(h:Heap)(l1:Addr):Heap:=h.push {cls:= .type (uJ t),data:= .fields #[.ref l1, .int 0 0]}
abbrev Gk(t u:Bool)(h:Heap)(l1 l2:Addr):Heap:=(GP t h l1).push {cls:= .type (uJ u),data:= .fields #[.ref l2, .int 0 0]}
abbrev GC(t u:Bool)(h:Heap)(l1 l2:Addr):Heap:=(Gk t u h l1 l2).push {cls:= .type "tuple",data:= .seq #[.ref h.objs.size, .ref (GP t h l1).objs.size]}
abbrev Iy(t u:Bool)(h:Heap)(l1 l2:Addr):Heap:=(GC t u h l1 l2).push {cls:= .type "tuple",data:= .seq #[.none, .none]}
abbrev J_(t u:Bool)(h:Heap)(l1 l2:Addr):Heap:=(Iy t u h l1 l2).push {cls:= .type "zip",data:= .fields #[.none, .bool false, .bool false, .ref (Gk t u h l1 l2).objs.size, .ref (GC t u h l1 l2).objs.size]}
end PySem
namespace L2
open PySem PySem.Spec PyProof.Rows
def A9(t:Bool)(K:W.Frag)(H:Hp)(a:Addr)(xs:List V):Prop:=cond t (jU K H a xs) (iX K H a xs)
def JS(K:W.Frag)(t u:Bool)(a b:Addr):It:=
 ⟨fun i H=>∃xs ys x y,A9 t K H a xs/\A9 u K H b ys/\xs[i]? =some x/\ys[i]? =some y,
  fun i H v H'=>∃p x y,H p=none/\v= .ref p/\(∀xs,A9 t K H a xs->xs[i]? =some x)/\(∀ys,A9 u K H b ys->ys[i]? =some y)/\H'=upd H p (.tup [x,y]),
  fun i H=>∃xs ys,A9 t K H a xs/\A9 u K H b ys/\(xs.length<=i\/ys.length<=i)⟩
section
variable {X:Cx}
def B8(ds es:List D):List D:=(ds.zip es).map fun p=> .tup [p.1,p.2]
def seqD?:D->Option (List D)
 | .lst ds=>some ds
 | .tup ds=>some ds
 | _=>none
def GY(f g:FD):ar->R (List D):=fun δ=>(f δ).bind fun d=>(g δ).bind fun e=>match seqD? d,seqD? e with | some ds,some es=> .ok (B8 ds es) | _,_=> .no
def Gs(T U:String)(f:FD):FD:=fun δ=>(f δ).bind fun d=>match d with | .dct _ _=> .no | _=> .ok (.bl (zQ (tyName d) T || zQ (tyName d) U))
def Kd(lo:Int)(n:Nat):It:=⟨fun i _=>i < n,fun i H x H'=>H'=H/\x= .int (lo - i),fun i _=>n<=i⟩
def D0(lo:Int)(n:Nat):List D:=(List.range n).map fun(i:Nat)=>D.int (lo - i)
def GB(f g h:FD):ar->R (List D):=fun δ=>(f δ).bind fun d=>(g δ).bind fun e=>(h δ).bind fun k=>match d,e,k with
 | .int i, .int j, .int m=>R.ba (decide (m= -1/\ -(2 ^ 60)<=i/\i < 2 ^ 60/\ -(2 ^ 60)<=j/\j < 2 ^ 60)) (.ok (D0 i (i - j).toNat)) | _,_,_=> .no
def bls?:List D->Option (List Bool)
 | []=>some []
 | .bl b ::ds=>(bls? ds).map (b ::·)
 | _ ::_=>none
theorem oS{K:W.Frag}{B:List Addr}:∀{ds:List D} {xs:List V} {bs:List Bool},ay K B H ds xs->bls? ds=some bs->xs=bs.map V.bl
 | [],xs,bs,r,h=>by unfold ay at r;subst r;cases h;rfl
 | d ::ds,xs,bs,r,h=>by
   obtain⟨x,q,rfl,r1,r2⟩:=r.bQ;cases d with
   | bl b=>
     have h:(bls? ds).map (b ::·)=some bs:=h
     cases e:bls? ds with
     | none=>rw [e] at h;cases h
     | some cs=>
       rw[e] at h;cases h;rw[Rep.bl.mp r1,oS r2 e];rfl
   | _=>cases h
theorem rg:∀bs:List Bool,bls? (bs.map D.bl)=some bs
 | []=>rfl
 | b ::bs=>by show(bls? (bs.map D.bl)).map (b ::·)=_;rw [rg bs];rfl
theorem kA:∀{bs:List Bool} {us:List Value},Vals (bs.map V.bl) us->us=bs.map Value.bool
 | [],us,h=>by cases h;rfl
 | b ::bs,us,h=>by
   cases h with
   | cons r t=>rw [kA t,show _=Value.bool b from r];rfl
theorem range_all(bs:List Bool):(List.range bs.length).all (fun i=>bs.getD i false)=bs.all id:=by
 rw[Bool.eq_iff_iff];simp only[List.all_eq_true,List.mem_range,id];constructor
 .intro h b hb;obtain⟨i,hi,rfl⟩:=List.getElem_of_mem hb;have:=h i hi;rw[List.getD_eq_getElem?_getD,List.getElem?_eq_getElem hi] at this;exact this
 .intro h i hi;rw[List.getD_eq_getElem?_getD,List.getElem?_eq_getElem hi];exact h _ (List.getElem_mem hi)
def sr:List D->R D
 | [.lst ds]=>(match bls? ds with | some bs=> .ok (.bl (bs.all id)) | none=> .no)
 | _=> .no
def Io:List D->R D
 | [.lst ds]=>(match bls? ds with | some bs=> .ok (.bl (bs.any id)) | none=> .no)
 | _=> .no
theorem B2{bs:List Bool}{i:Nat}{v:Value}(h:((bs.map Value.bool).toArray)[i]? =some v):v= .bool (bs.getD i false):=by
 rw[List.getElem?_toArray,List.getElem?_map] at h;rw[List.getD_eq_getElem?_getD];cases e:bs[i]? with
 | none=>rw [e] at h;cases h
 | some b=>rw [e] at h;cases h;rfl
theorem yq(hc:X.calm=true):cq X (.builtin "all") sr:=by
 intro pins s σ H B ds d xs us I hb rx rs hg;unfold sr at hg;split at hg
 .split at hg
  .rename_i es bs e;cases hg;obtain⟨x,rfl,r⟩:=rs.one;obtain⟨a,ys,rfl,l,r⟩:=Rep.lst.mp r;obtain⟨u,rfl,ru⟩:=vals1 rx;cases ru;obtain⟨its,n,rv,e1,hz⟩:=I.Cz l;rw[oS r e] at rv;obtain rfl:=kA rv;have hl:s.heap.IsList a (bs.map Value.bool).toArray:=⟨_,e1,rfl,n,rfl⟩;have gE:a < s.heap.objs.size:=Heap.lt_size e1;refine call_all_walk (wpAny_pyIter_list hl ?_);refine⟨_,_,_,_,_,_,fun i=>bs.getD i false,rfl,Walks.list (A:=X.A.in1) (I.ok.hd hc) _ a (Nat.ne_of_lt gE) _,⟨⟨_,Heap.get?_push_size _ rfl,rfl,rfl⟩,hl.push _⟩,?_,fun h' tk hk=>?_⟩
   .intro i v s Q E hP hQ;rw[B2 hP];exact wpAny_truthy_bool hQ
   .refine⟨.bl (bs.all id),H,I.kept (old_kept hk),?_,aG.refl H,Rep.bl.mpr rfl⟩;show Value.bool _=Value.bool _;rw[<-range_all];simp
  .cases hg
 .cases hg
end
end L2
end
section
namespace L2
open PySem PySem.Spec PyProof.Rows
section
variable {X:Cx}
def Kp:FS:=fun _=> .no
def Hf(f:FD):FS:=fun δ=>(f δ).bind fun _=> .ok (.nx δ)
end
end L2
namespace L3
open PySem PySem.Spec PyProof.Rows L2
section
variable {X:Cx} {cl:KZ}
def Ko:FZ:=fun _ _=> .no
theorem zM{K:W.Frag}{f:ar->R (List D)}{σ:L2.St}{Q:V->Hp->Prop}(h:tX K cl (gB f) σ H Q):tN K f σ H Q:=by
 obtain⟨ρ,S,δ,v,S',E,hf,q⟩:=h;obtain⟨ds,S1,h1,h2⟩:=R3.af hf;obtain⟨h3,e3⟩:=R3.of_ok h1;cases h2;subst e3;refine⟨[],ρ.b,down δ,ds,E.down,h3,fun a xs H' s n e r=>?_⟩
 have r':ay K (ρ.push a).b H' ds xs:=r.bf fun b o e nb=>⟨e,fun hb=>nb (by
  rcases P3.mem_push hb with z | z
  .exact List.mem_cons_of_mem _ z
  .subst z;exact List.mem_cons_self)⟩
 obtain⟨w,p⟩:=E.sw.new (o:= .lst ds) s n ⟨xs,e,r'⟩;exact q _ _ H' p w (by unfold aB;exact⟨a,by show(ρ.r++[a])[_]? =_;rw [<-E.sw.len,List.getElem?_append_right (by omega),Nat.sub_self];rfl,rfl⟩)
def qP(f:ar->R (List D)):FX:=fun δ S=>(R3.of (f (bX S δ)) S).bind fun ds S=>R3.ba (dX ds) (.ok (.loc S.length) (S++[.lst ds]))
theorem wG{K:W.Frag}{f:ar->R (List D)}{σ:L2.St}{Q:V->Hp->Prop}(h:tX K cl (qP f) σ H Q):tN K f σ H Q:=by
 obtain⟨ρ,S,δ,v,S',E,hf,q⟩:=h;obtain⟨ds,S1,h1,h2⟩:=R3.af hf;obtain⟨h3,e3⟩:=R3.of_ok h1;obtain⟨ht,h4⟩:=R3.aH h2;cases h4;subst e3;refine⟨[],[],bX _ δ,ds,E.bX,h3,fun a xs H' s n e r=>?_⟩
 have r0:ay K [] H' ds xs:=r.bf fun b o e nb=>⟨e,by simp⟩
 have r':ay K (ρ.push a).b H' ds xs:=ay.mq (fun b hb ys hr=>by
  rcases P3.mem_push hb with z | z
  .exact(E.sw.same s).nt b z ys hr
  .subst z;rcases hr with y | ⟨ob,y⟩
   .rw [e] at y;cases y
   .rw [e] at y;cases y) ht r0
 obtain⟨w,p⟩:=E.sw.new (o:= .lst ds) s n ⟨xs,e,r'⟩;exact q _ _ H' p w (by unfold aB;exact⟨a,by show(ρ.r++[a])[_]? =_;rw [<-E.sw.len,List.getElem?_append_right (by omega),Nat.sub_self];rfl,rfl⟩)
theorem jX{i:Nat}{x:Str}{pos' gC:Pos}{scope:Scope}{own:List Str}{kp:List Nat}{kn:List Str}{tg iter elt:Expr}{ifs:List Expr}{it:ar->R (List D)}{t:FT}{c:ar->R Bool}{f:FD}{pos:Pos}(hc:X.calm=true)
 (hN:X.N.Nodup) (hx:X.N[i]? =some x) (sU:X.env.scope.names.lookup x=some .local) (C:bN X scope own kp kn) (hi:A_ X tg iter it)
 (hg:∀fp s H,Bg (aP X scope (own++kn) fp s H) tg t) (qv:∀fp s H,xa (aP X scope (own++kn) fp s H) ifs c) (he:∀fp s H,QD (aP X scope (own++kn) fp s H) elt f)
 (sP:swapsWith (.ListComp elt [⟨tg,iter,ifs,0⟩] scope pos) (some (.Name x pos')) gC.line X.env=pure true:=by rfl)
 (hs:∀x,foldedSetIterable iter X.env x=pure x:=by intro _;rfl):PZ X cl (.Assign [.Name x pos'] (.ListComp elt [⟨tg,iter,ifs,0⟩] scope pos) gC) (bA i (gB (dA it t c f own kp))):=
 ⟨(iH hc hN hx sU C hi.1 (fun fp s H=>(hg fp s H).1) (fun fp s H=>(qv fp s H).1) (fun fp s H=>(he fp s H).1) sP hs).imp fun D σ H h=>mX (zM (pO h))⟩
theorem n_{i:Nat}{x:Str}{pos' gC:Pos}{scope:Scope}{own:List Str}{kp:List Nat}{kn:List Str}{tg iter elt:Expr}{ifs:List Expr}{it:ar->R (List D)}{t:FT}{c:ar->R Bool}{f:FD}{pos:Pos}(hc:X.calm=true)
 (hN:X.N.Nodup) (hx:X.N[i]? =some x) (sU:X.env.scope.names.lookup x=some .local) (C:bN X scope own kp kn) (hi:A_ X tg iter it)
 (hg:∀fp s H,Bg (aP X scope (own++kn) fp s H) tg t) (qv:∀fp s H,xa (aP X scope (own++kn) fp s H) ifs c) (he:∀fp s H,QD (aP X scope (own++kn) fp s H) elt f)
 (sP:swapsWith (.ListComp elt [⟨tg,iter,ifs,0⟩] scope pos) (some (.Name x pos')) gC.line X.env=pure true:=by rfl)
 (hs:∀x,foldedSetIterable iter X.env x=pure x:=by intro _;rfl):PZ X cl (.Assign [.Name x pos'] (.ListComp elt [⟨tg,iter,ifs,0⟩] scope pos) gC) (bA i (qP (dA it t c f own kp))):=
 ⟨(iH hc hN hx sU C hi.1 (fun fp s H=>(hg fp s H).1) (fun fp s H=>(qv fp s H).1) (fun fp s H=>(he fp s H).1) sP hs).imp fun D σ H h=>mX (wG (pO h))⟩
theorem z6{f:ar->R (List D)}{ds:List D}{δ:DE}{S:aA}{QV:V3->aA->Prop}(e:f (bX S δ)= .ok ds)(ht:dX ds=true)(h:QV (.loc S.length) (S++[.lst ds])):W3 (qP f δ S) QV:=W3.bind (W3.of e (W3.wh ht (W3.ok h)))
def vG(i:Nat)(f:FX):FZ:=fun δ S=>match fL δ i with
 | none=> .no
 | some k=>match bU S k with
   | none=> .no
   | some _=>(f δ S).bind fun v S1=>match v with
     | .d (.lst es)=>(match bU S1 k with
       | some ds=>R3.ba (decide (ds.length+es.length<=sizeLine)) (.ok (.nx δ) (S1.set k (.lst (ds++es))))
       | none=> .no)
     | _=> .no
theorem zo{i:Nat}{x:Str}{e:Expr}{f:FX}{lh apos bW pos:Pos}(hN:X.N[i]? =some x)(hv:Az X.env.scope x)(he:PX X cl e f)
 (hd:(x==("__debug__":Str))=false:=by decide) (lK:(x==("__classdict__":Str))=false:=by decide)
 (hs:starEach [e] X.env=(false,eval e X.env) ::starEach [] X.env:=by rfl) (pk:(apos.endLine==bW.line)=true:=by rfl)
 (vV:((backTo bW (starEach [e] X.env)).all (fun x=>!x.1) && (backToKw bW (keywordEach [] X.env)).all (fun x=>x.1.isSome)
   && decide (([e]:List Expr).length+([]:List Keyword).length+(if([]:List Keyword).isEmpty then 0 else 1) < 30))=true:=by rfl)
 (sP:swapsWith (.Call (.Attribute (.Name x lh) "extend" apos) [e] [] bW) none pos.line X.env=pure false:=by rfl)
 (ph:attributeBase (.Name x lh) "extend" X.env (eval (.Name x lh) X.env)=eval (.Name x lh) X.env:=by rfl) :
 PZ X cl (.Expr (.Call (.Attribute (.Name x lh) "extend" apos) [e] [] bW) pos) (vG i f):=by
 refine⟨(mU (yF (X:=X) PySem.F.plainAttrs_list PySem.F.slot_list_extend PySem.F.type_list_extend pI (ni hN hv hd lK) (c1 he.1 eP hs) ph vV pk hs) sP).imp fun D σ H ⟨ρ,S,δ,o,S',E,hf,q⟩=>?_⟩
 unfold vG at hf;split at hf
 .cases hf
 .rename_i k hk;split at hf
  .cases hf
  .rename_i ds0 h0;obtain⟨v,S1,h1,h2⟩:=R3.af hf;split at h2
   .rename_i es;split at h2
    .rename_i ds h3;obtain⟨hl,h4⟩:=R3.aH h2;cases h4;obtain⟨u,u1,u2⟩:=E.val i _ (kr hk);unfold aB at u2;obtain⟨a,a1,rfl⟩:=u2;obtain⟨F5,x0,_⟩:=E.sw.ob k a _ a1 (cP h0);refine⟨.ref a,u1, .inl ⟨rfl,F5,iX.of x0⟩,⟨ρ,S,δ, .d (.lst es),S1,E,h1,fun y bu H1 p1 w1 r1=>?_⟩⟩
     have b1:=p1.ext k a a1;obtain⟨xs,x1,x2⟩:=w1.ob k a _ b1 (cP h3);unfold aB at r1;obtain⟨b,ys,rfl,l,r'⟩:=Rep.lst.mp r1;refine⟨a,b,xs,ys,rfl,rfl,x1,⟨_,l⟩,by rw[<-x2.length,<-r'.length];exact of_decide_eq_true hl,?_⟩
     obtain⟨w2,p2⟩:=w1.put (o:= .lst (ds++es)) (u:= .lst (xs++ys)) b1 (w1.fz k a b1 (by rw[cP h3];intro h;cases h)) ⟨xs++ys,rfl,x2.append r'⟩
     exact q σ bu _ (p1.trans p2) (E.to (p1.trans p2) w2)
    .cases h2
   .cases h2
theorem Bt{i k:Nat}{f:FX}{δ:DE}{S:aA}{QO:Ou->aA->Prop}(hk:δ[i]? =some (some (.loc k)))(h0:∃ds,S[k]? =some (.lst ds))(h:W3 (f δ S) fun v S1=>∃es ds,v= .d (.lst es)/\S1[k]? =some (.lst ds)/\ds.length+es.length<=sizeLine/\QO (.nx δ) (S1.set k (.lst (ds++es)))):W3 (vG i f δ S) QO:=by
 obtain⟨es,h0⟩:=h0;unfold vG;have e1:fL δ i=some k:=by unfold fL;rw [hk]
 have e2:bU S k=some es:=by unfold bU;simp only[h0]
 rw[e1];show W3 (match bU S k with | none=>_ | some _=>_) _
 rw[e2];refine W3.bind (h.mono fun v S1 ⟨d,ds,e,h1,hl,q⟩=>?_)
 subst e;have e3:bU S1 k=some ds:=by unfold bU;simp only[h1]
 show W3 (match bU S1 k with | some ds=>_ | none=>_) _
 rw[e3];exact W3.wh (decide_eq_true hl) (W3.ok q)
theorem pX{f:FX}{δ:DE}{S:aA}{QO:Ou->aA->Prop}(h:W3 (f δ S) fun _ S1=>QO (.nx δ) S1):W3 (l6 f δ S) QO:=W3.bind (h.mono fun _ _ h=>W3.ok h)
end
end L3
end
section
namespace L2
open PySem PySem.Spec PyProof.Rows
section
variable {X:Cx}
def G6(d e:D):R D:=match d,e with
 | .tup a, .tup b=>R.ba (decide (a.length+b.length<=sizeLine)) (.ok (.tup (a++b)))
 | d,e=>cL d e
theorem nT.fresh{K:W.Frag}{B:List Addr}{H:Hp}{p:Addr}{xs:List V}(hb:∀a∈B,∃o,H a=some o)(hp:H p=none):nT K B (upd H p (.tup xs)) p xs:= .inl ⟨fun ha=>(by obtain⟨o,ho⟩:=hb p ha;rw [hp] at ho;cases ho), .inl aU⟩
def DF(f:FD):ar->R (List D):=fun δ=>(f δ).bind fun d=>match d with | .lst ds=> .ok (oT ds) | .tup ds=> .ok (oT ds) | _=> .no
def JY(K:W.Frag)(a:Addr)(n:Nat):It:=
 ⟨fun i H=>∃xs x,iX K H a xs/\xs.length=n/\i < n/\xs[n - 1 - i]? =some x,fun i H v H'=>H'=H/\∀xs,iX K H a xs->xs[n - 1 - i]? =some v,fun i H=>(∃xs,iX K H a xs)/\i=n⟩
def G9(f:FD):ar->R (List D):=fun δ=>(f δ).bind fun d=>match d with | .lst ds=> .ok ds.reverse | _=> .no
def Jc(K:W.Frag)(C:Addr)(m qual:Str)(st:Stmt):Prop:=∃f fd,pF K m qual st f fd/\Meth K C m f
def H_(K:W.Frag)(C:Addr)(m qual:Str)(st:Stmt):Prop:=∃f fd,pF K m qual st f fd/\Mk K C f
end
end L2
namespace L3
open PySem PySem.Spec PyProof.Rows L2
section
variable {X:Cx} {cl:KZ}
end
end L3
end
section
namespace L2
open PySem PySem.Spec PyProof.Rows
section
variable {X:Cx}
def HJ(f:FD):ar->R (List D):=fun δ=>(f δ).bind fun d=>match d with | .int j=>R.ba (decide (-(2 ^ 62)<=j/\j < 16777216)) (.ok (eu 0 j.toNat)) | _=> .no
def IQ(f:FD):FD:=fun δ=>(f δ).bind fun d=>match d with | .lst ds=> .ok (.lst ds.reverse) | _=> .no
end
end L2
end
section
namespace L2
open PySem PySem.Spec PyProof.Rows
section
variable {X:Cx}
def Ep(K:W.Frag)(n:Nat)(t:sQ):TG:=fun v σ H Q=>∃a xs,v= .ref a/\iX K H a xs/\xs.length=n/\t xs σ H Q
theorem zU{es:List Expr}{k:Nat}{t:sQ}{n:Nat}{pos:Pos}(hc:X.calm=true)(h:vX X es t)
 (hn:(assignEach es X.env).length=n:=by rfl) (lJ:(assignEach es X.env).findIdx? (·.1)=none:=by rfl):PG X (.Tuple es k pos) (Ep X.K n t):=by
 intro pins s σ H v u Q I r hw;obtain⟨a,xs,e1,hq,hl,hw⟩:=hw;subst e1;cases r;obtain⟨its,rv,ht,hz⟩:=I.list hq;rw[assign_Tuple];refine wpAny_bind (wpAny_standAt ?_);unfold unpack;have hln:its.toArray.size=(assignEach es X.env).length:=by simp [hn,<-hl,rv.length]
 rw[lJ];refine wpAny_bind (wpAny_holding ?_);rw[<-hln];refine PySem.W.kun_itemsOf (I.ok.hd hc) ht.isList fun h' hx=>?_
 have I1:Inv X pins σ H {s with heap:=h'}:=I.kept (t':=s.toks) fun b o e=>hx b o (Nat.ne_of_lt (Heap.lt_size e)) e
 exact h pins _ σ H xs _ Q I1 (by simpa using rv) hw
end
end L2
namespace L3
open PySem PySem.Spec PyProof.Rows L2
section
variable {X:Cx} {cl:KZ}
def Fb(n:Nat)(t:wa):FG:=fun d δ=>match d with
 | .d (.lst ds)=>if ds.length=n then t (ds.map .d) δ else none
 | .lst vs=>if vs.length=n then t vs δ else none
 | _=>none
theorem xt{k:Nat}{t:wa}{n:Nat}{pos:Pos}(hc:X.calm=true)(h:uW X cl es t)(hn:(assignEach es X.env).length=n:=by rfl)(lJ:(assignEach es X.env).findIdx? (·.1)=none:=by rfl):yx X cl (.Tuple es k pos) (Fb n t):=
 ⟨(zU hc h.1 hn lJ).imp fun v σ H Q ⟨ρ,S,δ,d,dC,E,r,ht,q⟩=>by
   have key:∃vs a xs,v= .ref a/\lu X.K ρ.b H a xs/\aw X.K ρ H vs xs/\vs.length=n/\t vs δ=some dC:=by
    unfold Fb at ht;split at ht
    .rename_i ds;split at ht
     .rename_i hl;unfold aB Rep at r;obtain⟨a,xs,e,l,r⟩:=r;exact⟨ds.map .d,a,xs,e,l,aw.of r,by rw[List.length_map];exact hl,ht⟩
     .cases ht
    .rename_i vs;split at ht
     .rename_i hl;unfold aB at r;obtain⟨a,xs,e,l,r⟩:=r;exact⟨vs,a,xs,e,l,r,hl,ht⟩
     .cases ht
    .cases ht
   obtain⟨vs,a,xs,rfl,l,r,hl,ht⟩:=key;exact⟨a,xs,rfl,l.sq,by rw[<-r.length];exact hl,ρ,S,δ,vs,dC,E,r,ht,q⟩⟩
def Ib(f g:FX):FA:=fun δ S=>(ak f (ak g aZ) δ S).bind fun vs S1=>match vs with
 | [.d d, .d e]=>(match seqD? d,seqD? e with | some ds,some es=> .ok ((B8 ds es).map .d) S1 | _,_=> .no)
 | _=> .no
def HC(S:aA):Prop:=∀o∈S,pG S.length o=true
theorem Cu{N:List Str}{vs:List V3}{S:aA}{QV:V3->aA->Prop}(h:W3 (jd N F vs S) fun v S1=>(∀o∈S1.take S.length,pG S.length o=true)/\ek S.length v=true/\∃d,res S1 v=some d/\QV (.d d) (S1.take S.length)):W3 (mm N F vs S) QV:=
 W3.bind (h.mono fun v S1 ⟨hl,hg,d,e,q⟩=>by
  rw[e];exact W3.wh (by rw[List.all_eq_true.mpr hl,hg];rfl) (W3.ok q))
theorem yA{N:List Str}{vs:List V3}{S:aA}{QV:V3->aA->Prop}(hS:HC S)(h:W3 (jd N F vs S) fun v S1=>ek S.length v=true/\(∃T,S1=S++T)/\∃d,res S1 v=some d/\QV (.d d) S):W3 (mm N F vs S) QV:=
 Cu (h.mono fun v S1 ⟨hg,⟨T,e1⟩,d,e,q⟩=>by
  subst e1;rw[List.take_append_of_le_length (Nat.le_refl _),List.take_length];exact⟨hS,hg,d,e,q⟩)
end
end L3
end
section
namespace L2
open PySem PySem.Spec PyProof.Rows
section
variable {X:Cx}
def ois?:List D->Option (List (Option Int))
 | []=>some []
 | .int i ::ds=>(ois? ds).map (some i ::·)
 | .cy ::ds=>(ois? ds).map (none ::·)
 | _ ::_=>none
def Kr:Option Int->V | some i=> .int i | none=> .cy
def Iv(d e:D):R Bool:=match d,e with
 | .cy, .lst ds=>(match ois? ds with | some ss=> .ok (ss.any (·.isNone)) | none=> .no)
 | _,_=> .no
def HB(d e:D):R D:=(Iv d e).bind fun b=> .ok (.bl b)
end
end L2
end
section
namespace L2
open PySem PySem.Spec PyProof.Rows
section
variable {X:Cx}
def EA(d:D)(ds:List D):R D:=match d,ds with
 | .lst es,[.int k]=>(match ints? es with | some ss=> .ok (.int (ss.count k:Nat)) | none=> .no)
 | _,_=> .no
end
end L2
end
section
namespace L2
open PySem PySem.Spec PyProof.Rows
section
variable {X:Cx}
abbrev IY:D->D->R D:=n5 (fun i j=>decide (0<=j/\j < 1000/\ -1000 < i/\i < 1000)) fun i j=>i*2 ^ j.toNat
def Ha(d e:D):R D:=match d,e with | .bl a, .bl b=> .ok (.bl (a !=b)) | _,_=> .no
end
end L2
namespace L3
open PySem PySem.Spec PyProof.Rows L2
section
variable {X:Cx} {cl:KZ}
def GR(fo f:FX):FZ:=fun δ S=>(fo δ S).bind fun o S0=>match o with
 | .loc k=>(match bU S0 k with
   | none=> .no
   | some _=>(f δ S0).bind fun v S1=>match v with
     | .d d=>(match bU S1 k with | some ds=>R3.ba (decide (ds.length < sizeLine)) (.ok (.nx δ) (S1.set k (.lst (ds++[d])))) | none=> .no)
     | _=> .no)
 | _=> .no
def GJ(f:FX):FA:=fun δ S=>(ak f aZ δ S).bind fun vs S1=>match vs with
 | [.d (.lst ds)]=> .ok ((oT ds).map .d) S1
 | _=> .no
end
end L3
end
section
namespace L2
open PySem PySem.Spec PyProof.Rows
section
variable {X:Cx}
end
end L2
end
section
namespace L3
open PySem PySem.Spec PyProof.Rows L2
section
variable {cl:KZ}
def EO(it:FA)(t:FG)(c:FB)(f:FX)(own:List Str)(kp:List Nat):FX:=fun δ S=>(it δ S).bind fun vs S1=>R3.ba (decide (vs.length<=sizeLine)) ((gH t c f (gz own kp δ) vs S1).bind fun ys S2=>match j6 ys with | some ds=> .ok (.loc S2.length) (S2++[.lst ds]) | none=> .no)
end
section
variable {X:Cx} {cl:KZ}
end
end L3
end
section
namespace L3
open PySem PySem.Spec PyProof.Rows L2
section
variable {X:Cx} {cl:KZ}
def Ef(g:List D->R D)(fs:FA):FX:=fun δ S=>(fs δ S).bind fun vs S1=>match kN S1 vs with
 | some ds=>(R3.of (g ds) S1).bind fun d S=>R3.ba (jk d) (.ok (.d d) S)
 | none=> .no
end
end L3
end
section
namespace L2
open PySem PySem.Spec PyProof.Rows
section
variable {X:Cx}
def HD(f:FD):FD:=fun δ=>(f δ).bind fun d=>match d with | .int i=> .ok (.int (-i - 1)) | _=> .no
def Ip(d:D)(lo hi:Option Int):R D:=match d with
 | .tup ds=>R.ba (decide (¬(HT.kg ds.length 0 lo=0/\HT.kg ds.length ds.length hi=ds.length))) (.ok (.tup (cutD ds lo hi)))
 | _=> .no
def Il(f:FD)(fl fh:FO):FD:=fun δ=>(f δ).bind fun d=>(fl δ).bind fun lo=>(fh δ).bind fun hi=>Ip d lo hi
end
end L2
namespace L3
open PySem PySem.Spec PyProof.Rows L2
section
variable {X:Cx} {cl:KZ}
structure J3 (X:Cx) (cl:KZ) (st:List Stmt) (F:FZ):Prop where
 go:mD X st (fun D σ H=>D.ct=D.nx/\sX X.K cl F D σ H)
end
end L3
end
section
namespace L2
open PySem PySem.Spec PyProof.Rows
end L2
namespace L3
open PySem PySem.Spec PyProof.Rows L2
section
variable {X:Cx} {cl:KZ}
def HQ(i:Nat)(f:FX):FX:=fun δ S=>match fL δ i with
 | none=> .no
 | some k=>match bU S k with
   | none=> .no
   | some _=>(f δ S).bind fun v S1=>match v with
     | .d (.int j)=>(match bU S1 k with
       | some ds=>(match r_ ds.length j with
         | some p=>(match ds[p]? with | some d=>R3.ba (decide (-(2 ^ 63)<=j/\j < 2 ^ 63)) (.ok (.d d) (S1.set k (.lst (ds.eraseIdx p)))) | none=> .no)
         | none=> .no)
       | none=> .no)
     | _=> .no
end
end L3
end
section
namespace L3
open PySem PySem.Spec PyProof.Rows L2
section
variable {X:Cx} {cl:KZ}
def Iz(f:FX)(fl fh:Bi):FX:=fun δ S=>(f δ S).bind fun v S1=>(fl δ S1).bind fun lo S2=>(fh δ S2).bind fun hi S3=>match v with
 | .lst vs=> .ok (.lst (L2.cutD vs lo hi)) S3
 | _=> .no
end
end L3
end
section
namespace L2
open PySem PySem.Spec PyProof.Rows
section
variable {X:Cx}
def EF:List V->Hp->VK->Prop:=fun xs H Q=>∃a aI ns,xs=[V.ref a]/\H a=some (.dK aI)/\aI.map (·.1)=ns.map Sum.inl/\ns.length < 64/\∀p,H p=none->Q (.ref p) (upd H p (.lst ((u_ ns).map V.int)))
end
end L2
end
section
namespace L3
open PySem PySem.Spec PyProof.Rows L2
section
variable {X:Cx} {cl:KZ}
def Cn(aI:List (Key × D))(k:Key)(d:D):List (Key × D):=if(aI.any fun kv=>decide (kv.1=k))=true then aI.map (fun kv=>if kv.1=k then(kv.1,d) else kv) else aI++[(k,d)]
def rh(S:aA)(k:Nat):Option (List (Key × D)):=match S[k]? with | some (.dct aI)=>some aI | _=>none
def Gu:FX:=fun δ S=> .ok (.loc S.length) (S++[.dct []])
def Gr(fo fi fe:FX):FZ:=fun δ S=>(fe δ S).bind fun v S1=>(fo δ S1).bind fun o S2=>(fi δ S2).bind fun j S3=>match v,o,j with
 | .d d, .loc k, .d (.int n)=>(match rh S3 k with | some aI=>R3.ba (decide (aI.length < sizeLine)) (.ok (.nx δ) (S3.set k (.dct (Cn aI (Sum.inl n) d)))) | none=> .no)
 | _,_,_=> .no
def Ik(fa fo:FX):FX:=fun δ S=>(fa δ S).bind fun j S1=>(fo δ S1).bind fun o S2=>match j,o with
 | .d (.int n), .loc k=>(match rh S2 k with | some aI=> .ok (.d (.bl (aI.any fun kv=>decide (kv.1=Sum.inl n)))) S2 | none=> .no)
 | _,_=> .no
def intK?:List Key->Option (List Int)
 | []=>some []
 | .inl n ::ks=>(intK? ks).map (n ::·)
 | .inr _ ::_=>none
def ER(f:FX):FX:=fun δ S=>(f δ S).bind fun o S1=>match o with
 | .loc k=>(match rh S1 k with
   | some aI=>(match intK? (aI.map (·.1)) with | some ns=>R3.ba (decide (ns.length < 64)) (.ok (.d (.lst ((u_ ns).map .int))) S1) | none=> .no)
   | none=> .no)
 | _=> .no
end
end L3
end
section
namespace L2
open PySem PySem.Spec PyProof.Rows
section
variable {X:Cx}
def Dz:V->List V->Hp->VK->Prop:=fun x vs H Q=>∃(l:Addr) (xs:List V) (j:Int) (i:Nat) (y:V),x= .ref l/\vs=[.int j,y]/\H l=some (.lst xs)/\j=i/\i<=xs.length/\xs.length < sizeLine/\Q .cy (upd H l (.lst (xs.take i++y ::xs.drop i)))
end
end L2
namespace L3
open PySem PySem.Spec PyProof.Rows L2
section
variable {X:Cx} {cl:KZ}
def HE(i:Nat)(f g:FX):FZ:=fun δ S=>match fL δ i with
 | none=> .no
 | some k=>match bU S k with
   | none=> .no
   | some _=>(f δ S).bind fun v S1=>match v with
     | .d (.int j)=>(g δ S1).bind fun w S2=>(match w with
       | .d d=>(match bU S2 k with
         | some ds=>R3.ba (decide (0<=j/\j.toNat<=ds.length/\ds.length < sizeLine)) (.ok (.nx δ) (S2.set k (.lst (ds.take j.toNat++d ::ds.drop j.toNat))))
         | none=> .no)
       | _=> .no)
     | _=> .no
end
end L3
end
section
namespace L3
open PySem PySem.Spec PyProof.Rows L2
section
variable {X:Cx} {cl:KZ}
structure Kj (X:Cx) (pos:Pos) (keys:List (Option Expr)) (values:List Expr) (ks:List Str) (g:ar->R (List D)):Prop where
 h:∃mv,zV X pos keys values mv/\∀(σ:L2.St) (H:Hp) (Q:List (V × V)->Hp->Prop),(∃Z B δ ds,ee X.K Z B H σ δ/\g δ= .ok ds/\∀vs H',aG H H'->ay X.K B H' ds vs->Q ((ks.zip vs).map fun p=>(V.str p.1,p.2)) H')->jI mv σ H Q
def z0(ks:List Str)(ns:List Int):List (Key × D):=(ks.zip ns).foldl (fun acc p=>Cn acc (Sum.inr p.1) (.int p.2)) []
def EL(ks:List Str)(g:ar->R (List D)):FX:=fun δ S=>(R3.of (g (down δ)) S).bind fun ds S=>match ints? ds with
 | some ns=>R3.ba (decide (ns.length=ks.length/\ks.length<=15)) (.ok (.loc S.length) (S++[.dct (z0 ks ns)]))
 | none=> .no
def EV(aI:List (Key × D))(k:Key):Option D:=(aI.find? fun kv=>decide (kv.1=k)).map (·.2)
def Gm(i:Nat)(f g:FD):FX:=fun δ S=>match fL δ i with
 | none=> .no
 | some k=>match rh S k with
   | none=> .no
   | some aI=>(R3.of (f (down δ)) S).bind fun kd S=>(R3.of (g (down δ)) S).bind fun d S=>match kd with
     | .str x=> .ok (.d ((EV aI (Sum.inr x)).getD d)) S
     | _=> .no
end
end L3
end
section
namespace L2
open PySem PySem.Spec PyProof.Rows
section
variable {X:Cx}
def Gj:List D->R D
 | [.tup ds]=>(match ints? ds with | some ns=> .ok (.int ns.sum) | none=> .no)
 | ds=>Eo ds
end
end L2
end
section
namespace L2
open PySem PySem.Spec PyProof.Rows
theorem sE(l:Addr)(o:Obj)(items:Array Value)(n:Nat)(x:Int)(u:Tok)(h1:2<=x)(h2:x < 1000)(h3:items.isEmpty=false)(hd:o.data= .seq items n)(h4:(List.foldl (fun x1 x2=>x1++x2) #[] (List.replicate x.toNat items)).size<=sizeLine)(h5:items.size*x.toNat<=sizeLine) :
 Meets (Builtin.«tuple.__mul__» {pos:=[Value.ref l,Value.int x u]}) fun _ R s=>
        s.heap.get? l=some o/\
         R (Except.ok (Flow.ret (Value.ref s.heap.objs.size))) {s with heap:=s.heap.push {cls:=Value.type "tuple",data:=Data.seq (List.foldl (fun x1 x2=>x1++x2) #[] (List.replicate x.toNat items))}}:=by
 intro prog w A R s ⟨e,q⟩;have hz:sizeLine=16777216:=sizeLine_eq;have hx:(x.toNat:Int)=x:=Int.toNat_of_nonneg (by omega)
 have h5':(items.size:Int)*x<=16777216:=by
  rw[<-hx,<-Int.natCast_mul];omega
 unfold Builtin.«tuple.__mul__»;have hn:(decide (x < -2 ^ 63) || decide (x>=2 ^ 63))=false:=by
  rw[decide_eq_false (by omega),decide_eq_false (by omega)];rfl
 show wpAny _ _ (asIndex (.int x u) >>=_) _ _ _;refine wpAny_bind ?_;have ha:asIndex (.int x u)=pure x:=by
  unfold asIndex;show(asInt? (.int x u) >>=_)=_;rfl
 rw[ha];refine wpAny_pure ?_;dsimp only;rw[if_neg (by rw[hn];exact Bool.false_ne_true)]
 refine wpAny_bind (wpAny_tupleItemsOf e hd ?_);have hc:(items.isEmpty || x==1)=false:=by rw[h3,Bool.false_or];exact beq_eq_false_iff_ne.mpr (by omega)
 rw[if_neg (by rw[hc];exact Bool.false_ne_true)]
 have hd:(decide (x<=0) || items.isEmpty)=false:=by rw[h3,decide_eq_false (by omega)];rfl
 have h6:¬((items.size:Int)*x > (2 ^ 63 - 1) / 8):=by omega
 have h7:Builtin.Tuple.tupleTooMany ((items.size:Int)*x)=false:=by unfold Builtin.Tuple.tupleTooMany;exact decide_eq_false (by omega)
 rw[if_neg (by rw[hd];exact Bool.false_ne_true),if_neg h6,if_neg (by rw[h7];exact Bool.false_ne_true)]
 refine wpAny_bind ?_;unfold Builtin.Tuple.tupleExact;exact wpAny_newObj_type (wpAny_pure q) h4
theorem mV(x:Int)(u:Tok)(l:Addr)(o:Obj)(items:Array Value)(n:Nat)(hd:o.data= .seq items n) :
 Meets (Builtin.«int.__rmul__» {pos:=[Value.int x u,Value.ref l]}) fun _ R s=>s.heap.get? l=some o/\R (Except.ok (Flow.ret Value.notImplemented)) s:=by
 intro prog w A R s ⟨e,q⟩;unfold Builtin.«int.__rmul__» Builtin.Int.intBinary;refine wpAny_bind ?_;show wpAny _ _ (pure (Value.int x u,[Value.ref l])) _ _ _;refine wpAny_pure ?_;dsimp only;refine wpAny_bind ?_;show wpAny _ _ (pure x) _ _ _;refine wpAny_pure (wpAny_bind ?_);show wpAny _ _ (asInt? (.ref l)) _ _ _;unfold asInt?;refine wpAny_bind (wpAny_load e ?_);rw[hd];dsimp only;refine wpAny_pure ?_;dsimp only;exact wpAny_bind (wpAny_rule (wpAny_pure q))
section
variable {X:Cx}
theorem ua{K:W.Frag}{B:List Addr}{ds:List D}{xs:List V}(r:ay K B H ds xs):∀k,ay K B H (List.replicate k ds).flatten (List.replicate k xs).flatten:=fun k=>oF r k
theorem kl(its:List Value):∀(m:Nat) (acc:List Value),List.foldl (fun x1 x2=>x1++x2) acc.toArray (List.replicate m its.toArray)=(acc++(List.replicate m its).flatten).toArray
 | 0,acc=>by simp
 | m+1,acc=>by
   rw[List.replicate_succ,List.foldl_cons,List.replicate_succ,List.flatten_cons];have:acc.toArray++its.toArray=(acc++its).toArray:=by simp
   rw[this,kl its m,List.append_assoc]
def je(d e:D):R D:=match d,e with
 | .tup a, .int k=>R.ba (decide (2<=k/\k < 1000/\a≠[]/\a.length*k.toNat<=sizeLine)) (.ok (.tup (List.replicate k.toNat a).flatten))
 | d,e=>eV d e
theorem pQ:iW X (binaryOp .Mult) je:=by
 intro pins s σ H B da db d x y v u I hb rx ry ra rb hg;by_cases ht:∃a k,da= .tup a/\db= .int k
 .obtain⟨a,k,rfl,rfl⟩:=ht;have hg:R.ba (decide (2<=k/\k < 1000/\a≠[]/\a.length*k.toNat<=sizeLine)) (.ok (.tup (List.replicate k.toNat a).flatten))= .ok d:=hg;obtain⟨h1,h2⟩:=R.aH hg;cases h2;obtain⟨k1,k2,yj,hsz⟩:=of_decide_eq_true h1;obtain⟨a1,FY,rfl,l1,r1⟩:=Rep.tup.mp ra;obtain rfl:=Rep.int.mp rb;cases rx;obtain⟨t,rfl⟩:=ry;obtain⟨its,Hi,p1,_⟩:=I.tuple l1.sq;have e1:=Hi.length;have e3:=r1.length;obtain⟨⟨cls,dd,data,sl⟩,ho,hc,n,hd⟩:=id p1;simp only at hc hd;subst hc hd;have hfold:List.foldl (fun x1 x2=>x1++x2) #[] (List.replicate k.toNat its.toArray)=(List.replicate k.toNat its).flatten.toArray:=by
   have:=kl its k.toNat [];rw[List.nil_append] at this;exact this
  have hlen:(List.replicate k.toNat its).flatten.length=k.toNat*its.length:=len_rep its k.toNat;have A3:its.length*k.toNat<=sizeLine:=by rw[<-e1,<-e3];exact hsz
  have hne2:its.toArray.isEmpty=false:=by
   cases its with
   | nil=>exact absurd (List.eq_nil_of_length_eq_zero (by rw[e3,e1];rfl)) yj
   | cons b r=>rfl
  refine wpAny_binaryOp_repeat_ref (T:="tuple") (U:="int") (by decide) ⟨_,ho,rfl⟩ (fun s'=>typeIs_int s' k t) (by first | rfl | decide) F.fills_int_mul F.slot_int_rmul (id:="tuple.__mul__") (by first | rfl | decide) F.slot_int_index.lookup
   (call_meets F.slot_int_rmul (typeIs_int s k t) F.entry_int_rmul (F.args_int_rmul_2 _ _) (mV k t a1 _ its.toArray n rfl)
     ⟨ho,rfl,⟨_,ho,rfl⟩,call_meets F.slot_tuple_mul ⟨_,ho,rfl⟩ F.entry_tuple_mul (F.args_tuple_mul_2 _ _) (sE a1 _ its.toArray n k t k1 k2 hne2 rfl (by rw[hfold,List.size_toArray,hlen,Nat.mul_comm];exact A3) (by rw[List.size_toArray];exact A3)) ⟨ho,?_⟩⟩)
  rw[hfold];have hp:H s.heap.objs.size=none:=I.hok.fresh (Nat.le_refl _);refine⟨.ref s.heap.objs.size,_,I.laid (t':=s.toks) (o:= .tup (List.replicate k.toNat FY).flatten) (fun b ob q=>Heap.get?_push_of_some _ q) (Nat.le_refl _) ⟨by rw[len_rep,Nat.mul_comm,e1];exact A3,_,Hi.rep k.toNat,IsTup.new _ _⟩,rfl,bt hp,Rep.tup.mpr ⟨_,_,rfl,nT.fresh hb hp,(ua r1 k.toNat).same (bt hp)⟩⟩
 .have hg:eV da db= .ok d:=by
   unfold je at hg;split at hg
   .exact absurd ⟨_,_,rfl,rfl⟩ ht
   .exact hg
  exact ix pins s σ H B da db d x y v u I hb rx ry ra rb hg
end
end L2
end
section
namespace L2
open PySem PySem.Spec PyProof.Rows
def sC(P:Program)(w:World):sT:=fun outer H s E e s'=>
 ∃(a:Addr) (B:Heap) (cls a0:Value) (H':Hp),e= .ref a/\s'.os=s.os/\AllBare s'.gens/\Un (iC outer) [] H H' s.heap s'.heap/\ie P w H' s'.heap/\Heap.FlyingW B outer a cls a0 s'.heap/\
  (∀b o,s'.heap.get? b=some o->b ∉ iC outer->((∃u,s.heap.get? b=some u)\/∃u,H' b=some u)->B.get? b=some o)/\E cls none H'
section
variable {X:Cx} {pins:KQ} {σ:St} {H1 H':Hp} {s1 s':Shared} {B Bm:Heap} {a:Addr} {cls a0:Value} {E:XK}
theorem m_{H:Hp}{h:Heap}{b:Addr}{o:HO}(k:ie P w H h)(e:H b=some o):∃u,h.get? b=some u:=by
 have hx:=k b o e
 induction o with
 | lst xs=>obtain⟨_,_,_,_,e⟩:=hx;exact⟨_,e⟩
 | tup xs=>obtain⟨_,_,_,o,e,_⟩:=hx;exact⟨_,e⟩
 | dK aI=>obtain⟨_,_,_,_,o,_,_,e,_⟩:=hx;exact⟨_,e⟩
 | dT aI=>obtain⟨_,_,_,_,o,_,_,e,_⟩:=hx;exact⟨_,e⟩
 | set S n=>obtain⟨o,_,_,_,e,_⟩:=hx;exact⟨_,e⟩
 | ins C dx fs=>obtain⟨_,_,_,e,_⟩:=hx;exact⟨_,e⟩
 | own y=>exact hx
 | xd fs=>obtain⟨_,⟨o,_,_,e,_⟩,_⟩:=hx;exact⟨_,e⟩
 | rng lo hi=>obtain⟨_,_,_,e⟩:=hx;exact⟨_,e⟩
 | jB o u _=>exact⟨_,hx.1⟩
 | tbl ps=>exact⟨_,hx⟩
 | met f x=>exact⟨_,hx⟩
 | ext φ=>exact hx.2.1
theorem tw(I:Inv X pins σ H1 s1)(lJ:X.stack=X.env ::X.outer)(hf:X.env.frame=some X.env.locals)(hex:X.ex=[])(os:s'.os=s1.os)(bare:AllBare s'.gens)(un:Un (iC X.stack) [] H1 H' s1.heap s'.heap)(hok:ie X.prog X.w H' s'.heap)
 (qt:∀b o,s'.heap.get? b=some o->b ∉ iC X.stack->((∃u,s1.heap.get? b=some u)\/∃u,H' b=some u)->B.get? b=some o) (fl:Heap.FlyingW B X.outer a cls a0 Bm) (up:s'.heap.UpToSlots Bm) (e:E cls none H') :
 sC X.prog X.w X.outer X.H₀ X.s₀ E (.ref a) {s' with heap:=Bm}:=by
 have we:∀b,b∈iC X.stack↔b=X.env.locals\/b∈iC X.outer:=fun b=>by
  rw[lJ];unfold iC;rw [List.filterMap_cons,hf];exact List.mem_cons
 have hfree:∀b,b∈iC X.stack->H' b=none:=fun b hb=>by
  obtain⟨_,o,ho,_⟩:=I.stack.mem hb;exact un.free b o ho (I.hW b hb) (by simp)
 have old:∀b o,X.s₀.heap.get? b=some o->b≠X.env.locals:=fun b o q=>Nat.ne_of_lt (Nat.lt_of_lt_of_le (Heap.lt_size q) I.ok.above)
 have thr:∀b o,X.s₀.heap.get? b=some o->∃u,s1.heap.get? b=some u:=fun b o q=>I.base.there b o q (by rw[hex];simp)
 have thr2:∀b o,s1.heap.get? b=some o->∃u,s'.heap.get? b=some u:=fun b o q=>un.there b o q (by simp)
 have stB:∀b o,B.get? b=some o->Bm.get? b=some o:=fl.1;have wb:∀b o,H' b=some o->∀u,s'.heap.get? b=some u->Bm.get? b=some u:=fun b o q u hu=>stB b u (qt b u hu (fun hb=>by rw[hfree b hb] at q;cases q) (.inr ⟨o,q⟩))
 refine⟨a,B,cls,a0,H',rfl,os.trans I.os,bare,⟨fun b o q n hb _=>?_,fun b o q n hb _=>?_,fun b o q n _=>?_,fun b o q _=>?_,fun b xs q=>un.tups b xs (I.base.tups b xs q),fun b o u q=>un.frzs b o u (I.base.frzs b o u q),fun b ps q=>?_⟩,fun b o q=>?_,fl,fun b o q hb DU=>?_,e⟩
 .have h1:=I.base.keep b o q n hb (by rw[hex];simp)
  have n1:=I.base.free b o q n (by rw[hex];simp)
  have kj:b ∉ iC X.stack:=fun z=>((we b).mp z).elim (old b o q) hb
  have h2:=un.keep b o h1 n1 kj (by simp)
  exact stB b o (qt b o h2 kj (.inl ⟨o,h1⟩))
 .obtain⟨sl,h1⟩:=I.base.slot b o q n hb (by rw[hex];simp)
  have n1:=I.base.free b o q n (by rw[hex];simp)
  obtain⟨Jw,h2⟩:=un.slot b _ h1 n1 ((we b).mpr (.inr hb)) (by simp)
  obtain⟨_,o',pj,hd⟩:=I.ok.jC.mem hb;rw[q] at pj;cases pj;obtain⟨CO,h3⟩:=up b _ h2 hd;exact⟨CO,h3⟩
 .obtain⟨u,h1⟩:=thr b o q;exact un.free b u h1 (I.base.free b o q n (by rw[hex];simp)) (by simp)
 .obtain⟨u,h1⟩:=thr b o q;obtain⟨u2,h2⟩:=thr2 b u h1;by_cases hb:b∈iC X.outer
  .obtain⟨_,o',pj,hd⟩:=I.stack.mem ((we b).mpr (.inr hb));obtain⟨sl,h3⟩:=un.slot b o' pj (I.hW b ((we b).mpr (.inr hb))) ((we b).mpr (.inr hb)) (by simp)
   obtain⟨CO,h4⟩:=up b _ h3 hd;exact⟨_,h4⟩
  .exact⟨u2,stB b u2 (qt b u2 h2 (fun z=>((we b).mp z).elim (old b o q) hb) (.inl ⟨u,h1⟩))⟩
 .obtain⟨m1,e1⟩:=I.base.tbls b ps q;obtain⟨m2,e2⟩:=un.tbls b _ e1;exact⟨m1++m2,by rw[e2,Array.append_assoc]⟩
 .refine(hok b o q).o_ (fun c u hc hu=>?_) (fun c z=>z) (fun c xs z=>z)
  rcases hc with rfl | hc
  .exact wb c o q u hu
  .exact wb c _ hc u hu
 .have kj:b≠X.env.locals:=fun z=>by
   subst z;rcases DU with⟨u,hu⟩ | ⟨u,hu⟩
   .exact old _ u hu rfl
   .rw [hfree _ ((we _).mpr (.inl rfl))] at hu;cases hu
  have hb2:b ∉ iC X.stack:=fun z=>((we b).mp z).elim kj hb
  have:(∃u,s1.heap.get? b=some u)\/∃u,H' b=some u:=DU.imp (fun⟨u,hu⟩=>thr b u hu) id
  obtain⟨u,hu⟩:∃u,s'.heap.get? b=some u:=this.elim (fun⟨u,hu⟩=>thr2 b u hu) fun⟨u,hu⟩=>m_ hok hu
  have h3:=qt b u hu hb2 this;have h4:=stB b u h3;rw[q] at h4;cases h4;exact h3
end
section
variable {P:Program} {w:World} {K:W.Frag} {mg:KY} {base:Heap} {N:List Str} {qual:Str} {scope:Scope} {f:Addr} {cd:Value} {A:Around} {outer:List Env} {s:Shared} {H:Hp} {E:XK}
theorem Bq:Passes (sC P w) (gU (sC P w) P w K mg base N qual scope f cd A outer s H E) E:=by
 intro pins σ H1 s1 e s' I hc;obtain⟨a,B,cls,a0,H',rfl,os,bare,un,hok,fl,qt,hE⟩:=hc;exact wpAny_leaves_onW (env:=envOfC qual scope s.heap.objs.size f cd) (outer:=outer) (L:=s.heap.objs.size) I.ok.frames rfl fl fun h' f1 up=>tw I rfl rfl rfl os bare un hok qt f1 up hE
theorem AH{pins:KQ}{s1:Shared}{a:Addr}{cls:Value}{vs:List Value}(I:Inv (gU (sC P w) P w K mg base N qual scope f cd A outer s H E) pins σ H1 s1)(hx:Heap.MadeExcOf s1.heap h' a cls vs)(hE:E cls none H1) :
 (gU (sC P w) P w K mg base N qual scope f cd A outer s H E).xe (.ref a) {s1 with heap:=h'}:=by
 have hin:∀env∈(envOfC qual scope s.heap.objs.size f cd ::outer),∀b,env.frame=some b->b∈iC (envOfC qual scope s.heap.objs.size f cd ::outer):=fun env he b hb=>List.mem_filterMap.mpr ⟨env,he,hb⟩
 have ff:s1.heap.FunFrames base (envOfC qual scope s.heap.objs.size f cd ::outer):=I.stack;refine wpAny_leaves_madeW (env:=envOfC qual scope s.heap.objs.size f cd) (outer:=outer) (L:=s.heap.objs.size) (base:=PySem.W.hideAll s1.heap (iC (envOfC qual scope s.heap.objs.size f cd ::outer))) (h:=s1.heap) (s:={s1 with heap:=h'}) I.ok.frames rfl (fun b o q=>PySem.W.of_hideAll _ q) (PySem.W.funFrames_hide ff hin) hx fun Bm t x1 x2 x3 x4=>?_
 exact tw (s':={s1 with heap:=h'}) I rfl rfl rfl rfl I.bare (Un.kept hx.keeps) (I.hok.kept hx.keeps) (fun b o q hb DU=>by
  obtain⟨u,hu⟩:∃u,s1.heap.get? b=some u:=DU.elim id fun⟨u,hu⟩=>m_ I.hok hu
  have h2:=hx.keeps b u hu;have q:h'.get? b=some o:=q;rw[q] at h2;cases h2;exact PySem.W.hideAll_get _ hu hb) x1 x4 hE
end
end L2
end
section
namespace L2
open PySem PySem.Spec PyProof.Rows
def A8:List Value:=[.type "ValueError", .type "Exception", .type "BaseException", .type "object"]
structure XC (K:W.Frag) (C:Addr):Prop where
 ex:PySem.W.excIn K C A8 "ValueError.__new__"=true
 ga:PySem.W.findIn K (.ref C) "__getattribute__"=some (some (.builtin "BaseException.__getattribute__"))
 gt:PySem.W.findIn K (.ref C) "__getattr__"=some none
 co:PySem.W.findIn K (.ref C) "__class__"=some (some (.builtin "object.__class__"))
 gs:PySem.W.specialIn K (.builtin "object.__class__") "__get__"=some (some (.builtin "getset_descriptor.__get__"))
 tk:PySem.W.takesIn K (.builtin "object.__class__")=some true
 mo:PySem.W.mroIn K C (.type "object")=some true
 mb:PySem.W.mroIn K C (.type "BaseException")=some true
 ic:(PySem.W.clsIn K C).isSome=true
def mP(x C:Addr)(h:Heap):Prop:=∃o,h.get? x=some o/\o.cls= .ref C
theorem mP.ty{M:Model}{x C:Addr}(I:mP x C h):PySem.W.Looks M h (typeOf (.ref x)) (.ref C):=by
 obtain⟨o,e,c⟩:=I;exact c▸(PySem.W.Looks.ld e).andThen .now
section
variable {prog:Program} {w:World} {A:Around} {E:KR} {s:Shared} {K:W.Frag} {x C:Addr}
theorem uQ{M:Model}(T:XC K C)(X:K.In h):PySem.W.Looks M h (Builtin.ObjectAttr.find (.ref x) (.ref C) "__class__") (.bind (.builtin "getset_descriptor.__get__") (.builtin "object.__class__")):=by
 have a1:=PySem.W.looks_findIn (M:=M) X T.co;have a2:PySem.W.Looks M h (Builtin.ObjectAttr.getOf (some (.builtin "object.__class__"))) (some (.builtin "getset_descriptor.__get__")):=PySem.W.looks_specialIn X T.gs;have a3:=PySem.W.looks_takesIn (M:=M) X T.tk;exact a1.andThen (a2.andThen ((show PySem.W.Looks M h (Builtin.ObjectAttr.dataDescriptor? (some (.builtin "object.__class__")) (some (.builtin "getset_descriptor.__get__"))) (some (.builtin "getset_descriptor.__get__", .builtin "object.__class__")) from a3.andThen .now).andThen (PySem.W.Looks.tag .now)))
theorem wX{tp:Value}{R:Result->Shared->Prop}(T:XC K C)(X:K.In s.heap)(I:mP x C s.heap)(h:R (.ok (.ret (.ref C))) s) :
 codeAny (model prog w) A (.call (.builtin "getset_descriptor.__get__") ⟨[.builtin "object.__class__", .ref x,tp],[]⟩) R s:=by
 obtain⟨hp,gn,dr,tk,oo⟩:=s;have b0:=I.ty (M:=model prog w);have b1:=PySem.W.looks_mroIn (M:=model prog w) X T.mo;refine codeAny_call_builtin PySem.W.KF.slot_gs.plain PySem.W.KF.entry_gs (PySem.W.KF.slot_gs.check _ _ _ _ _ _ _ _ PySem.W.KF.type_class (PySem.W.KF.args_gs _ _ _) ?_);unfold Builtin.«getset_descriptor.__get__» PySem.Builtin.Getset_descriptor.descrGet;rw[PySem.W.dga_obj];refine wpAny_bind (wpAny_pure ?_);unfold PySem.Builtin.Getset_descriptor.descrGetter PySem.Builtin.Getset_descriptor.descrCheckInstance PySem.Builtin.Getset_descriptor.descrNameAndClass isInstance;simp only[PySem.W.KF.owner_class]
 repeat lk
 refine⟨Code.quiet_builtin _ (by decide+kernel),codeAny_builtin PySem.W.KF.entry_class ?_⟩
 unfold Builtin.«object.__class__» shownTypeOf
 repeat lk
 exact h
theorem y8{tk:Tok}{R:Result->Shared->Prop}(T:XC K C)(X:K.In s.heap)(I:mP x C s.heap)(h:R (.ok (.ret (.ref C))) s) :
 codeAny (model prog w) A (.call (.builtin "BaseException.__getattribute__") ⟨[.ref x, .str "__class__" tk],[]⟩) R s:=by
 have L0:=I.ty (M:=model prog w);have L1:=uQ (M:=model prog w) (x:=x) T X;have LM:=PySem.W.looks_mroIn (M:=model prog w) X T.mb;have LI:PySem.W.Looks (model prog w) s.heap (isInstance (.ref x) (.type "BaseException")) true:=L0.andThen LM;have hk:builtinKind "BaseException.__getattribute__"=some .slot:=by decide+kernel
 have wj:splitId "BaseException.__getattribute__"=some ("BaseException","__getattribute__"):=by decide+kernel
 have ha:=PySem.F.args_bexc_ga (.ref x) (.str "__class__" tk);refine codeAny_call_builtin PySem.F.excAttr_ValueError.ga.plain PySem.F.entry_bexc_ga ?_;obtain⟨hh,g,d,t,os⟩:=s;simp only[checkBuiltinCall,hk,wj];refine wpAny_bind (LI.at ?_);simp only[Bool.not_true,Bool.false_eq_true,if_false];refine wpAny_of_eq ha ?_;refine wpAny_bind (wpAny_pure (wpAny_bind (wpAny_pure (wpAny_bind (L0.at (wpAny_bind (L1.at ?_)))))));show wpAny _ _ (holding [Value.builtin "object.__class__"] (call (.builtin "getset_descriptor.__get__") [.builtin "object.__class__", .ref x, .ref C]) >>=ret) _ _ _;refine wpAny_bind (wpAny_holding (wpAny_call (wX (s:=⟨hh,g,d,t,os⟩) T X I ?_)));exact wpAny_pure h
theorem si{Q:Option Value->Shared->Prop}(T:XC K C)(X:K.In s.heap)(I:mP x C s.heap)(h:Q (some (.ref C)) {s with toks:=s.toks+1}):wpAny (model prog w) A (getAttr? (.ref x) "__class__") Q E s:=by
 obtain⟨hh,g,d,t,os⟩:=s;have L0:=I.ty (M:=model prog w);have L1:=PySem.W.looks_findIn (M:=model prog w) X T.ga;have L2:=PySem.W.looks_findIn (M:=model prog w) X T.gt;have hb:=PySem.F.excAttr_ValueError.ga.bind (.ref x);unfold getAttr? getAttrBy? getAttrBy;refine wpAny_bind (wpAny_mkText (wpAny_bind (wpAny_attempt (wpAny_holding (wpAny_bind (L0.at (wpAny_bind (L1.at ?_))))))));have yj:(onTheHeap (Value.ref C) && Value.builtin "BaseException.__getattribute__"==Value.builtin "object.__getattribute__")=false:=by
  have z:(Value.builtin "BaseException.__getattribute__"==Value.builtin "object.__getattribute__")=false:=by decide+kernel
  rw[z];exact Bool.and_false _
 dsimp only;rw[yj,if_neg Bool.false_ne_true];unfold getAttrByItsOwn hookBefore;refine wpAny_bind (L2.at ?_);refine wpAny_bind (wpAny_attempt (wpAny_holding ?_));show wpAny _ _ (boundAndCalled _ _ _) _ _ _;unfold boundAndCalled;rw[hb];refine wpAny_bind (wpAny_pure ?_);refine wpAny_call (y8 (s:=⟨hh,g,d,t+1,os⟩) T X I ?_);show wpAny _ _ (handedOut (.ref C)) _ _ _;exact PySem.W.handed_on rfl (wpAny_pure h)
theorem oY(T:XC K C):PySem.W.KitX K (.ref x) (.ref C) (mP x C) where
 ty:=fun _ _ _ I=>I.ty
 it:=fun M h X _=>by
  obtain⟨cd,hc⟩:=Option.isSome_iff_exists.mp T.ic;unfold PySem.W.clsIn at hc;split at hc
  .rename_i ho;intro A' Q' E' s' k q;unfold isType loadHead;exact wpAny_bind (wpAny_loadPart (k _ _ (X _ _ ho)) (wpAny_pure q))
  .cases hc
 ne:=fun h tp dd its n sl X Dh=>by
  obtain⟨cd,hc⟩:=Option.isSome_iff_exists.mp T.ic;refine Bool.eq_false_iff.mpr fun q=>?_
  cases Value.ref.inj (beq_iff_eq.mp q);unfold PySem.W.clsIn at hc;split at hc
  .rename_i ho;have z:=(X _ _ ho).symm.trans Dh;cases z
  .cases hc
 ca:=fun X I k=>si T X I k
theorem xc(X:K.In h)(q:PySem.W.excIn K C A8 "ValueError.__new__"=true):∃bm N nm qn bs hdct sn sub ab col dd k0 k1 k2 k3 k5 mN,
 h.get? C=some (excClassObj nm qn C N bs bm hdct sn sub ab col dd k0 k1 k2 k3 k5 "ValueError.__new__")/\h.Ns N mN/\mN "__init__"=none/\OwnTail h A8 bm:=by
 unfold PySem.W.excIn at q;split at q
 .rename_i dd cd sl ho;split at q
  .rename_i C' bm k0 k1 k2 k3 n k5 hm hs;simp only[Bool.and_eq_true,beq_iff_eq,Bool.not_eq_true'] at q;obtain⟨⟨⟨⟨⟨q1,q2⟩,q3⟩,q4⟩,q5⟩,q6⟩:=q;subst q1 q2;obtain⟨nm,bs,mro,ns,qn,hd,sn,sub,ab,col,del⟩:=cd;obtain⟨l⟩:=sl;dsimp only at hm hs q3 q5 q6;subst hm hs q3;exact⟨bm,ns,nm,qn,bs,hd,sn,sub,ab,col,dd,k0,k1,k2,k3,k5,_,X _ _ ho,Heap.Ns.of_isNs (PySem.W.isNs_of_in X q5),PySem.W.nsMap_none_of_in X q5 q6,PySem.W.tail_of_in X q4⟩
  .cases q
 .cases q
end
end L2
end
section
namespace L3
open PySem PySem.Spec PyProof.Rows L2
theorem R3.dN{α β:Type}{r:R3 α}{f:α->aA->R3 β}{c:Nat}{S':aA}(h:r.bind f= .ex c S'):r= .ex c S'\/∃a S,r= .ok a S/\f a S= .ex c S':=by
 cases r with
 | ok a S=>exact .inr ⟨a,S,rfl,h⟩
 | ex c' S=>cases h;exact .inl rfl
 | no=>cases h
def yk{α:Type}(r:R3 α):R3 α:=match r with | .ex _ _=> .no | .ok a S=> .ok a S | .no=> .no
theorem iA{α:Type}{r:R3 α}{a:α}{S:aA}(h:yk r= .ok a S):r= .ok a S:=by
 cases r with
 | ok b S=>exact h
 | ex c S=>cases h
 | no=>cases h
theorem mF{α:Type}{r:R3 α}{c:Nat}{S:aA}(h:yk r= .ex c S):False:=by
 cases r <;> cases h
def vZ(K:W.Frag)(cl:KZ)(E:XK)(ρ:P3)(H:Hp)(S':aA)(c:Nat):Prop:=∀br H',Pre ρ H br H'->SW K cl br H' S'->E (.ref (cl c)) none H'
theorem vZ.pre{K:W.Frag}{cl:KZ}{E:XK}{S':aA}{c:Nat}(q:vZ K cl E ρ H S' c)(p:Pre ρ H bu H1):vZ K cl E bu H1 S' c:=fun br H' p' w=>q br H' (p.trans p') w
def HH(K:W.Frag)(cl:KZ)(E:XK)(f:FX):TE:=fun σ H Q=>∃ρ S δ,cY K cl ρ H S σ δ/\((∃v S',f δ S= .ok v S'/\∀u br H',Pre ρ H br H'->SW K cl br H' S'->aB K br H' v u->Q u H')\/∃c S',f δ S= .ex c S'/\vZ K cl E ρ H S' c)
def E9(K:W.Frag)(cl:KZ)(E:XK)(f:FA):TA:=fun σ H Q=>∃ρ S δ,cY K cl ρ H S σ δ/\((∃vs S',f δ S= .ok vs S'/\∀us br H',Pre ρ H br H'->SW K cl br H' S'->aw K br H' vs us->Q us H')\/∃c S',f δ S= .ex c S'/\vZ K cl E ρ H S' c)
def Dx(K:W.Frag)(cl:KZ)(E:XK)(F:FZ):TS:=fun D σ H=>∃ρ S δ,cY K cl ρ H S σ δ/\((∃o S',F δ S= .ok o S'/\p_ K cl ρ H D S' o)\/∃c S',F δ S= .ex c S'/\vZ K cl E ρ H S' c)
structure zl (X:Cx) (cl:KZ) (E:XK) (e:Expr) (f:FX):Prop where
 go:PE X e (HH X.K cl E f)
structure uo (X:Cx) (cl:KZ) (E:XK) (es:List Expr) (f:FA):Prop where
 go:PA X es (E9 X.K cl E f)
structure Ba (X:Cx) (cl:KZ) (E:XK) (st:Stmt) (F:FZ):Prop where
 go:PS X st (Dx X.K cl E F)
structure nP (X:Cx) (cl:KZ) (E:XK) (st:List Stmt) (F:FZ):Prop where
 go:mD X st (Dx X.K cl E F)
section
variable {X:Cx} {cl:KZ} {E:XK}
def yz(f:FX):FX:=fun δ S=>yk (f δ S)
def ji(f:FA):FA:=fun δ S=>yk (f δ S)
def Bs(f:FZ):FZ:=fun δ S=>yk (f δ S)
theorem eZ(h:yC X cl es f):uo X cl E es (ji f):=⟨h.1.imp fun σ H Q ⟨ρ,S,δ,En,z⟩=>by
 rcases z with⟨v,S',hf,q⟩ | ⟨c,S',hf,q⟩
 .exact⟨ρ,S,δ,v,S',En,iA hf,q⟩
 .exact(mF hf).elim⟩
theorem m6{st:List Stmt}(h:tP X cl st F):nP X cl E st (Bs F):=⟨h.1.imp fun D σ H ⟨ρ,S,δ,En,z⟩=>by
 rcases z with⟨v,S',hf,q⟩ | ⟨c,S',hf,q⟩
 .exact⟨ρ,S,δ,v,S',En,iA hf,q⟩
 .exact(mF hf).elim⟩
theorem kq(h:zl X cl E e f)(hs:starEach (e ::[]) X.env=(false,eval e X.env) ::starEach [] X.env:=by rfl):uo X cl E [e] (ak f aZ):=
 ⟨(c1 h.1 eP hs).imp fun σ H Q ⟨ρ,S,δ,En,z⟩=>by
   refine⟨ρ,S,δ,En,?_⟩;rcases z with⟨vs,S',hf,q⟩ | ⟨c,S',hf,q⟩
   .obtain⟨v1,S1,h1,h2⟩:=R3.af hf;obtain⟨vs,S2,h3,h4⟩:=R3.af h2;cases h3;cases h4;exact .inl ⟨v1,_,h1,fun u bu H1 p1 w1 r1=>q _ bu H1 p1 w1 (aw.cons r1 aw.nil)⟩
   .rcases R3.dN hf with h1 | ⟨a,S1,h1,h2⟩
    .exact .inr ⟨c,S',h1,q⟩
    .cases h2⟩
def xf(K:W.Frag)(cl:KZ)(n:Nat)(g:List V3->aA->R3 V3):Sp:=fun vs H Q E=>vs.length=n/\∃ρ S xs,SW K cl ρ H S/\aw K ρ H xs vs/\
 ((∃v S',g xs S= .ok v S'/\∀u br H',Pre ρ H br H'->SW K cl br H' S'->aB K br H' v u->Q u H')\/∃c S',g xs S= .ex c S'/\vZ K cl E ρ H S' c)
def cC(P:Program)(w:World)(K:W.Frag)(mg:KY)(base:Heap)(cl:KZ)(k:Nat)(x:Str)(n:Nat)(g:List V3->aA->R3 V3):Prop:=
 ∃(f:Addr) (fd:FuncData) (ps:List Str),eU P w K mg base (sC P w) k f fd ps (xf K cl n g)/\mg x=some (.ref f)/\PySem.W.keepIn K (.ref f)=true/\Binds K fd ps []
theorem fN{g:List V3->aA->R3 V3}{k j n:Nat}{x:Str}{p pos:Pos}{e:Expr}{es:List Expr}{fs:FA}(hp:Passes (sC X.prog X.w) X E)(C:cC X.prog X.w X.K X.mg X.base cl k x n g)(hr:dH j X.A)(AW:k<=j)(hg:Gl X x)(ha:uo X cl E (e ::es) fs)
 (hn:∀δ S ds S',fs δ S= .ok ds S'->ds.length=n) (ik:(x==("__debug__":Str))=false:=by decide) (he:starEach (e ::es) X.env=(false,eval e X.env) ::starEach es X.env:=by rfl) (fP:(backTo pos (starEach es X.env)).any (·.1)=false:=by rfl) :
 zl X cl E (.Call (.Name x p) (e ::es) [] pos) (bb g fs):=by
 obtain⟨f,fd,ps,F,hm,hk,hb⟩:=C;refine⟨(mY F (hr.mono AW) hg hm hk hb .nil hp ha.1 ik he fP).imp fun σ H Q ⟨ρ,S,δ,En,z⟩=>⟨ρ,S,δ,En,?_⟩⟩
 have go:∀vs S1,fs δ S= .ok vs S1->((∃v S',g vs S1= .ok v S'/\∀u br H',Pre ρ H br H'->SW X.K cl br H' S'->aB X.K br H' v u->Q u H')\/∃c S',g vs S1= .ex c S'/\vZ X.K cl E ρ H S' c)->
  (∃vs S',fs δ S= .ok vs S'/\∀us br H',Pre ρ H br H'->SW X.K cl br H' S'->aw X.K br H' vs us->(fun vs H1=>xf X.K cl n g (vs++[]) H1 Q E) us H')\/∃c S',fs δ S= .ex c S'/\vZ X.K cl E ρ H S' c:=fun vs S1 h1 h2=>by
  refine .inl ⟨vs,S1,h1,fun us bu H1 p1 w1 r1=>?_⟩
  show xf X.K cl n g (us++[]) H1 Q E;rw[List.append_nil];refine⟨by rw[<-r1.length];exact hn δ S vs S1 h1,bu,S1,vs,w1,r1,?_⟩
  rcases h2 with⟨v,S',h3,q⟩ | ⟨c,S',h3,q⟩
  .exact .inl ⟨v,S',h3,fun u iR H2 p2 w2 r2=>q u iR H2 (p1.trans p2) w2 r2⟩
  .exact .inr ⟨c,S',h3,q.pre p1⟩
 rcases z with⟨v,S',hf,q⟩ | ⟨c,S',hf,q⟩
 .obtain⟨vs,S1,h1,h2⟩:=R3.af hf;exact go vs S1 h1 (.inl ⟨v,S',h2,q⟩)
 .rcases R3.dN hf with h1 | ⟨vs,S1,h1,h2⟩
  .exact .inr ⟨c,S',h1,q⟩
  .exact go vs S1 h1 (.inr ⟨c,S',h2,q⟩)
theorem jJ{g:List D->R D}{x:Str}{id:String}{p pos:Pos}{e:Expr}{fs:FA}(hc:cq X (.builtin id) g)(hg:Gl X x)(hm:X.mg x=none)(hv:bootBuiltins x=some (.builtin id))(ha:uo X cl E [e] fs)(hn:x≠"__name__":=by decide)(ik:(x==("__debug__":Str))=false:=by decide)
 (he:starEach [e] X.env=(false,eval e X.env) ::starEach [] X.env:=by rfl) (fP:(backTo pos (starEach [] X.env)).any (·.1)=false:=by rfl):zl X cl E (.Call (.Name x p) [e] [] pos) (d4 g fs):=
 ⟨(jl hc.r hg hm hv ha.1 hn ik he fP).imp fun σ H Q ⟨ρ,S,δ,En,z⟩=>by
   refine⟨ρ,S,δ,En,?_⟩;rcases z with⟨v,S',hf,q⟩ | ⟨c,S',hf,q⟩
   .obtain⟨vs,S1,h1,h2⟩:=R3.af hf;split at h2
    .rename_i ds e;obtain⟨d,S2,h3,h4⟩:=R3.af h2;obtain⟨h5,e5⟩:=R3.of_ok h3;cases h4;subst e5;refine .inl ⟨vs,_,h1,fun us bu H1 p1 w1 r1=>?_⟩
     rw[fK e] at r1;exact⟨bu.b,ds,d,w1.bs,r1.to,h5,fun z H' s r=>q z bu H' (p1.trans (Pre.same s)) (w1.same s) (by unfold aB;exact r)⟩
    .cases h2
   .rcases R3.dN hf with h1 | ⟨vs,S1,h1,h2⟩
    .exact .inr ⟨c,S',h1,q⟩
    .split at h2
     .rename_i ds e;cases hg:g ds with
      | ok d=>rw [hg] at h2;cases h2
      | ex c=>rw [hg] at h2;cases h2
      | no=>rw [hg] at h2;cases h2
     .cases h2⟩
theorem mL{i:Nat}{pos pos':Pos}(hN:X.N.Nodup)(hi:X.N[i]? =some x)(hx:Loc X.env.scope x)(he:zl X cl E e f)(hs:swapsWith e (some (.Name x pos')) pos.line X.env=pure false:=by rfl)(hf:X.fn x=true\/X.env.scope.names.lookup x=some .local:=by first | exact .inl rfl | exact .inr rfl | assumption) :
 Ba X cl E (.Assign [.Name x pos'] e pos) (bA i f):=⟨(qg hN hi hx he.1 hs hf).imp fun D σ H ⟨ρ,S,δ,En,z⟩=>by
 refine⟨ρ,S,δ,En,?_⟩;rcases z with⟨o,S',hf,q⟩ | ⟨c,S',hf,q⟩
 .obtain⟨v,S1,h1,h2⟩:=R3.af hf;obtain⟨hi,h3⟩:=R3.aH h2;cases h3;refine .inl ⟨v,_,h1,fun u bu H1 p1 w1 r1=>?_⟩
  exact q _ bu H1 p1 ((En.to p1 w1).set (by rw[<-En.len];exact of_decide_eq_true hi) r1)
 .rcases R3.dN hf with h1 | ⟨v,S1,h1,h2⟩
  .exact .inr ⟨c,S',h1,q⟩
  .unfold R3.ba at h2;split at h2 <;> cases h2⟩
theorem ko{pos:Pos}(he:zl X cl E e f)(sP:swapsWith e none pos.line X.env=pure false:=by rfl):Ba X cl E (.Expr e pos) (l6 f):=⟨(mU he.1 sP).imp fun D σ H ⟨ρ,S,δ,En,z⟩=>by
 refine⟨ρ,S,δ,En,?_⟩;rcases z with⟨o,S',hf,q⟩ | ⟨c,S',hf,q⟩
 .obtain⟨v,S1,h1,h2⟩:=R3.af hf;cases h2;exact .inl ⟨v,_,h1,fun u bu H1 p1 w1 r1=>q _ bu H1 p1 (En.to p1 w1)⟩
 .rcases R3.dN hf with h1 | ⟨v,S1,h1,h2⟩
  .exact .inr ⟨c,S',h1,q⟩
  .cases h2⟩
def wc(f:FB):FB:=fun δ S=>yk (f δ S)
theorem mz(hc:t7 X cl c fc)(ha:nP X cl E a F)(hb:nP X cl E b G):Ba X cl E (.If c a b pos) (kR (wc fc) F G):=⟨(yQ hc.1 ha.1 hb.1).imp fun D σ H ⟨ρ,S,δ,En,z⟩=>by
 have fin:∀k S1,fc δ S= .ok k S1->((∃o S',(if k then F δ S1 else G δ S1)= .ok o S'/\p_ X.K cl ρ H D S' o)\/∃c S',(if k then F δ S1 else G δ S1)= .ex c S'/\vZ X.K cl E ρ H S' c)->Cw (zT X.K cl fc) (Dx X.K cl E F) (Dx X.K cl E G) D σ H:=fun k S1 h1 h2=>by
  refine⟨ρ,S,δ,k,S1,En,h1,fun bu H1 p1 w1=>?_⟩
  cases k with
  | true=>
    refine wW ⟨bu,S1,δ,En.to p1 w1,?_⟩;rcases h2 with⟨o,S',h3,q⟩ | ⟨c,S',h3,q⟩
    .rw [if_pos rfl] at h3;exact .inl ⟨o,S',h3,q.pre p1⟩
    .rw [if_pos rfl] at h3;exact .inr ⟨c,S',h3,q.pre p1⟩
  | false=>
    refine xO ⟨bu,S1,δ,En.to p1 w1,?_⟩;rcases h2 with⟨o,S',h3,q⟩ | ⟨c,S',h3,q⟩
    .rw [if_neg (by decide)] at h3;exact .inl ⟨o,S',h3,q.pre p1⟩
    .rw [if_neg (by decide)] at h3;exact .inr ⟨c,S',h3,q.pre p1⟩
 rcases z with⟨o,S',hf,q⟩ | ⟨c,S',hf,q⟩
 .obtain⟨k,S1,h1,h2⟩:=R3.af hf;exact fin k S1 (iA h1) (.inl ⟨o,S',h2,q⟩)
 .rcases R3.dN hf with h1 | ⟨k,S1,h1,h2⟩
  .exact(mF h1).elim
  .exact fin k S1 (iA h1) (.inr ⟨c,S',h2,q⟩)⟩
theorem n8:nP X cl E [] ij:=⟨qA.imp fun D σ H ⟨ρ,S,δ,En,z⟩=>by
 rcases z with⟨o,S',hf,q⟩ | ⟨c,S',hf,q⟩
 .cases hf;exact q σ ρ H (Pre.refl ρ H) En
 .cases hf⟩
theorem d9{st:Stmt}(h:Ba X cl E st F):nP X cl E [st] F:=⟨my h.1⟩
theorem hZ{st:Stmt}{rest:List Stmt}(h1:Ba X cl E st F)(h2:nP X cl E rest G):nP X cl E (st ::rest) (aQ F G):=⟨(kJ h1.1 h2.1).imp fun D σ H ⟨ρ,S,δ,En,z⟩=>by
 refine⟨ρ,S,δ,En,?_⟩;rcases z with⟨o,S',hf,q⟩ | ⟨c,S',hf,q⟩
 .obtain⟨o1,S1,h1,h2⟩:=R3.af hf;refine .inl ⟨o1,S1,h1,?_⟩;cases o1 with
  | nx cg=>exact fun A0 bu H1 p1 E1=>⟨bu,S1,cg,E1, .inl ⟨o,S',h2,q.pre p1⟩⟩
  | rt d=>cases h2;exact q
 .rcases R3.dN hf with h1 | ⟨o1,S1,h1,h2⟩
  .exact .inr ⟨c,S',h1,q⟩
  .refine .inl ⟨o1,S1,h1,?_⟩;cases o1 with
   | nx cg=>exact fun A0 bu H1 p1 E1=>⟨bu,S1,cg,E1, .inr ⟨c,S',h2,q.pre p1⟩⟩
   | rt d=>cases h2⟩
def pZ(X:Cx)(E:XK):Prop:=∀(pins:KQ) (σ:L2.St) (H:Hp) (s:Shared) (h':Heap) (a:Addr) (cls:Value) (vs:List Value),Inv X pins σ H s->Heap.MadeExcOf s.heap h' a cls vs->E cls none H->X.xe (.ref a) {s with heap:=h'}
def mO(c:Nat)(fs:FA):FZ:=fun δ S=>(fs δ S).bind fun vs S=>R3.ba (decide (vs.length<=sizeLine)) (.ex c S)
theorem vE{C:Addr}{t:TA}{x:Str}{e:Expr}{es:List Expr}{np bW pos:Pos}(hf:pZ X E)(hc:X.calm=true)(T:XC X.K C)(hg:Gl X x)(hm:X.mg x=some (.ref C))(ha:PA X (e ::es) t)(ik:(x==("__debug__":Str))=false:=by decide)
 (he:starEach (e ::es) X.env=(false,eval e X.env) ::starEach es X.env:=by rfl) (fP:(backTo bW (starEach es X.env)).any (·.1)=false:=by rfl) :
 PS X (.Raise (some (.Call (.Name x np) (e ::es) [] bW)) none pos) (fun D σ H=>t σ H fun vs H1=>vs.length<=sizeLine/\E (.ref C) none H1):=by
 intro pins s σ H D I h;obtain⟨bm,N,nm,qn,bs,hdct,sn,sub,ab,col,dd,k0,k1,k2,k3,k5,mN,hC,hN,hni,OT⟩:=xc (C:=C) I.mod.kin T.ex;refine wpAny_Raise_call_subT (C:=C) (nm:=nm) (q:=qn) (N:=N) (bs:=bs) (bm:=bm) (hdct:=hdct) (sn:=sn) (sub:=sub) (ab:=ab) (col:=col) (dd:=dd) (k0:=k0) (k1:=k1) (k2:=k2) (k3:=k3) (k5:=k5) (bmB:=A8) PySem.F.excBase_ValueError (mN:=mN) (OT.hasType PySem.F.excBase_ValueError.hasBase) (I.ok.hd hc)
  (by rw[he];show(false || (backTo bW (starEach es X.env)).any (·.1))=false;rw [fP];rfl) hni (kh I hg hm ⟨rfl,?_⟩ ik)
 have hA:=ha bW pins s σ H _ I h;rw[he] at hA ⊢;refine Calls.evalArgs_plain (wpAny_mono hA (fun us s2 ⟨vs,H1,I1,r,hl,hE⟩=>⟨rfl,by rw[<-r.length];exact hl,I1.bk _ _ hC,hN.keeps I1.bk,OT.keeps I1.bk,fun h' a hx=>hf pins σ H1 s2 h' a _ _ I1 hx hE⟩) fun _ _ y=>y)
theorem mi{c:Nat}{fs:FA}{x:Str}{e:Expr}{es:List Expr}{np bW pos:Pos}(hf:pZ X E)(hc:X.calm=true)(T:XC X.K (cl c))(hg:Gl X x)(hm:X.mg x=some (.ref (cl c)))(ha:uo X cl E (e ::es) fs)(ik:(x==("__debug__":Str))=false:=by decide)
 (he:starEach (e ::es) X.env=(false,eval e X.env) ::starEach es X.env:=by rfl) (fP:(backTo bW (starEach es X.env)).any (·.1)=false:=by rfl) :
 Ba X cl E (.Raise (some (.Call (.Name x np) (e ::es) [] bW)) none pos) (mO c fs):=⟨(vE hf hc T hg hm ha.1 ik he fP).imp fun D σ H ⟨ρ,S,δ,En,z⟩=>by
 refine⟨ρ,S,δ,En,?_⟩;rcases z with⟨o,S',hf,q⟩ | ⟨c',S',hf,q⟩
 .obtain⟨vs,S1,h1,h2⟩:=R3.af hf;unfold R3.ba at h2;split at h2 <;> cases h2
 .rcases R3.dN hf with h1 | ⟨vs,S1,h1,h2⟩
  .exact .inr ⟨c',S',h1,q⟩
  .unfold R3.ba at h2;split at h2
   .rename_i hl;cases h2;exact .inl ⟨vs,_,h1,fun us bu H1 p1 w1 r1=>⟨by rw[<-r1.length];exact of_decide_eq_true hl,q bu H1 p1 w1⟩⟩
   .cases h2⟩
end
theorem i5{P:Program}{w:World}{K:W.Frag}{mg:KY}{base:Heap}{cl:KZ}{x qual:Str}{st:Stmt}{f:Addr}{fd:FuncData}{N ps:List Str}{k:Nat}{F:FZ}{b:List Stmt}{sc:Scope}(hb:bw st=b)(hs:aL st=sc)(Fn:pF K x qual st f fd)(S:bH N ps sc)
 (dZ:∀(df:Value) (A:Around) (outer:List Env) (s:Shared) (H:Hp) (E:XK),dH k (A.deeper (envOfC qual sc s.heap.objs.size f df))->
   nP (gU (sC P w) P w K mg base N qual sc f df A outer s H E) cl E b F):eU P w K mg base (sC P w) (k+1) f fd ps (xf K cl ps.length (jd N F)):=by
 subst hb hs;obtain⟨oc,od,kV,doc,pm,an,df,ct,sY,rfl,lk,lK⟩:=Fn.ex;refine yo lk lK S (fun vs H Q E h=>h.1) fun A outer s H vs Q E hr wj=>⟨_,(dZ df A outer s H E hr).1,?_⟩
 obtain⟨_,ρ,S,ds,w,r,z⟩:=wj;refine⟨ρ,S,bM N ds,oE w r,?_⟩;rcases z with⟨v,S',hg,q⟩ | ⟨c,S',hg,q⟩
 .obtain⟨o,S1,h1,h2⟩:=R3.af hg;refine .inl ⟨o,S1,h1,?_⟩;cases o with
  | nx dC=>
    cases h2;exact fun bR br H' p' E'=>q _ br H' p' E'.sw (by unfold aB Rep;rfl)
  | rt d'=>
    cases h2;exact fun u br H' p' w' r'=>q u br H' p' w' r'
 .rcases R3.dN hg with h1 | ⟨o,S1,h1,h2⟩
  .exact .inr ⟨c,S',h1,q⟩
  .cases o with
   | nx dC=>cases h2
   | rt d'=>cases h2
theorem jO{P:Program}{w:World}{K:W.Frag}{mg:KY}{base:Heap}{N:List Str}{qual:Str}{scope:Scope}{f:Addr}{cd:Value}{A:Around}{outer:List Env}{s:Shared}{H:Hp}{E:XK} :
 Passes (sC P w) (gU (sC P w) P w K mg base N qual scope f cd A outer s H E) E:=Bq
theorem lT{P:Program}{w:World}{K:W.Frag}{mg:KY}{base:Heap}{N:List Str}{qual:Str}{scope:Scope}{f:Addr}{cd:Value}{A:Around}{outer:List Env}{s:Shared}{H:Hp}{E:XK} :
 pZ (gU (sC P w) P w K mg base N qual scope f cd A outer s H E) E:=fun pins σ H1 s1 h' a cls vs I hx hE=>AH I hx hE
end L3
end
section
namespace L2
open PySem PySem.Spec PyProof.Rows
abbrev Cx.alt(X:Cx)(A:Around)(calm:Bool)(pn:KQ)(xe:KR):Cx:={X with A:=A,calm:=calm,pn:=pn,xe:=xe}
theorem Cx.Ok.alt{X:Cx}(ok:X.Ok){A:Around}{calm:Bool}{pn:KQ}{xe:KR}(hd:calm=true->A.handled=none)(hf:A.frames=X.A.frames):(X.alt A calm pn xe).Ok:=
 ⟨ok.mod,ok.kind,ok.glob,ok.blt,ok.above,ok.inj,ok.has,ok.cab,hd,hf.trans ok.frames,ok.stk,ok.exf,ok.bs,ok.bsz,ok.noex,ok.exfs,ok.jC,ok.frf⟩
section
variable {X:Cx} {pins fO:KQ} {σ:St} {H H1 H':Hp} {s s1 s':Shared}
theorem Inv.alt{A:Around}{calm:Bool}{pn:KQ}{xe:KR}(I:Inv X pins σ H s)(hd:calm=true->A.handled=none)(hf:A.frames=X.A.frames)(hp:∀p∈pn++fO,p∈X.pn++pins):Inv (X.alt A calm pn xe) fO σ H s:=
 ⟨I.ok.alt hd hf,I.os,I.bare,I.base,I.loc,I.cell,I.free,I.freeC,fun p hq=>I.pin p (hp p hq),I.hok,I.len⟩
theorem Inv.BC{calm:Bool}{pn:KQ}{xe:KR}(ok:X.Ok)(I:Inv (X.alt A calm pn xe) fO σ H s)(hp:∀p∈X.pn++pins,p∈pn++fO):Inv X pins σ H s:=
 ⟨ok,I.os,I.bare,I.base,I.loc,I.cell,I.free,I.freeC,fun p hq=>I.pin p (hp p hq),I.hok,I.len⟩
theorem qS{M:Model}{A:Around}{E:KR}{i:Nat}{x:Str}{pos:Pos}{Q:Unit->Shared->Prop}(I:Inv X pins σ H s)(hN:X.N.Nodup)(hi:X.N[i]? =some x)(hk:X.env.kindOf x=some .local)
 (h:∀s',Inv X pins (σ.set i none) H s'->Q () s'):wpAny M A (do bindName X.env x .none;unbindBehindTheSuite X.env x pos) Q E s:=by
 obtain⟨m,hn,hl⟩:=id I.loc;have hcls:(X.env.scope.kind== .class || (X.env.scope.kind== .module && X.env.locals !=X.env.globals))=false:=by rw[I.ok.kind];rfl
 have hiσ:i < σ.length:=by rw[I.len];exact(List.getElem?_eq_some_iff.mp hi).1
 have vH:=I.vH;refine wpAny_nameGoes_keeps hk hn hcls fun h' v Fw hs=>?_
 refine h _ ⟨I.ok,I.os,I.bare,⟨fun b o e n hb hx=>?_,fun b o e n hb hx=>?_,I.base.free,fun b o e hx=>?_,I.base.tups,I.base.frzs,I.base.tbls⟩,⟨_,Fw,fun j y v' e1 e2 e3=>?_⟩,fun y c e=>?_,I.free,I.freeC,fun p hp=>?_,fun b ob e=>?_,by simpa using I.len⟩
 .exact(hs.2 b (Nat.ne_of_lt (Nat.lt_of_lt_of_le (Heap.lt_size e) I.ok.above))).trans (I.base.keep b o e n hb hx)
 .obtain⟨sl,e1⟩:=I.base.slot b o e n hb hx;exact⟨sl,(hs.2 b (Nat.ne_of_lt (Nat.lt_of_lt_of_le (Heap.lt_size e) I.ok.above))).trans e1⟩
 .obtain⟨o',e1⟩:=I.base.there b o e hx;exact⟨o',(hs.2 b (Nat.ne_of_lt (Nat.lt_of_lt_of_le (Heap.lt_size e) I.ok.above))).trans e1⟩
 .by_cases hj:j=i
  .subst hj;rw[List.getElem?_set_self hiσ] at e2;cases e2
  .rw [List.getElem?_set_ne (Ne.symm hj)] at e2;obtain⟨u',r',q⟩:=hl j y v' e1 e2 e3;refine⟨u',r',?_⟩;rcases q with⟨k,e⟩ | ⟨k,c,e,z⟩
   .refine .inl ⟨k,?_⟩;have:y≠x:=fun e=>hj (kY hN e1 (e▸hi))
    simp [this,e]
   .exact .inr ⟨k,c,e,z.sameBut hs (vH y c e)⟩
 .obtain⟨w',z⟩:=I.cell y c e;exact⟨w',z.sameBut hs (vH y c e)⟩
 .obtain⟨e,n,ne,nf,d⟩:=I.pin p hp;exact⟨(hs.2 p.1 ne).trans e,n,ne,nf,d⟩
 .refine(I.hok b ob e).o_ (fun c w' hc q=>(hs.2 c ?_).trans q) (fun _ q=>q) fun _ _ q=>q
  rintro rfl;rcases hc with rfl | hc
  .have z:=I.free;rw [z] at e;cases e
  .have z:=I.free;rw [z] at hc;cases hc
theorem km{B h5:Heap}{a:Addr}{C:Addr}{a0:Value}(I:Inv X pins σ H1 s1)(lJ:X.stack=X.env ::X.outer)(os:s'.os=s1.os)(bare:AllBare s'.gens)(un:Un (iC X.stack) [] H1 H' s1.heap s'.heap)(hok:ie X.prog X.w H' s'.heap)
 (qt:∀b o,s'.heap.get? b=some o->b ∉ iC X.stack->((∃u,s1.heap.get? b=some u)\/∃u,H' b=some u)->B.get? b=some o) (fl:Heap.FlyingW B X.stack a (.ref C) a0 h5) (up:s'.heap.UpToSlots h5) :
 H' a=none/\mP a C h5/\Inv X pins σ (upd H' a (.ext (L3.isExc C a))) {s' with heap:=h5}:=by
 have hfree:∀b,b∈iC X.stack->H' b=none:=fun b hb=>by
  obtain⟨_,o,ho,_⟩:=I.stack.mem hb;exact un.free b o ho (I.hW b hb) (by simp)
 have stB:∀b o,B.get? b=some o->h5.get? b=some o:=fl.1;have wb:∀b o,H' b=some o->∀u,s'.heap.get? b=some u->h5.get? b=some u:=fun b o q u hu=>stB b u (qt b u hu (fun hb=>by rw[hfree b hb] at q;cases q) (.inr ⟨o,q⟩))
 obtain⟨oe,vs,he,hec,hed,_⟩:=fl.first
 have nst:a ∉ iC X.stack:=fun hb=>by
  obtain⟨_,o,ho,hd⟩:=fl.2.2.1.mem hb;rw[he] at ho;cases ho;exact hd _ hed
 have n0:∀u,s1.heap.get? a≠some u:=fun u hu=>by
  obtain⟨u2,h2⟩:=un.there a u hu (by simp)
  have:=qt a u2 h2 nst (.inl ⟨u,hu⟩);rw[fl.2.1] at this;cases this
 have n1:H' a=none:=by
  cases q:H' a with
  | none=>rfl
  | some u=>
    obtain⟨u2,h2⟩:=m_ hok q;have:=qt a u2 h2 nst (.inr ⟨u,q⟩);rw[fl.2.1] at this;cases this
 have n2:H1 a=none:=by
  cases q:H1 a with
  | none=>rfl
  | some u=>
    obtain⟨u2,h2⟩:=m_ I.hok q;exact absurd h2 (n0 u2)
 refine⟨n1,⟨oe,he,hec⟩,?_⟩;have un2:Un (iC X.stack) [] H1 (upd H' a (.ext (L3.isExc C a))) s1.heap h5:=by
  refine⟨fun b o q n hb _=>?_,fun b o q n hb _=>?_,fun b o q n _=>?_,fun b o q _=>?_,fun b xs q=>?_,fun b o u q=>?_,fun b ps q=>?_⟩
  .exact stB b o (qt b o (un.keep b o q n hb (by simp)) hb (.inl ⟨o,q⟩))
  .obtain⟨Jw,h2⟩:=un.slot b o q n hb (by simp)
   obtain⟨_,o',pj,hd⟩:=I.stack.mem hb;rw[q] at pj;cases pj;obtain⟨CO,h3⟩:=up b _ h2 hd;exact⟨CO,h3⟩
  .rw [aW (fun z=>by subst z;exact n0 o q)];exact un.free b o q n (by simp)
  .obtain⟨u2,h2⟩:=un.there b o q (by simp)
   by_cases hb:b∈iC X.stack
   .obtain⟨_,o',pj,hd⟩:=I.stack.mem hb;obtain⟨sl,h3⟩:=un.slot b o' pj (I.hW b hb) hb (by simp)
    obtain⟨CO,h4⟩:=up b _ h3 hd;exact⟨_,h4⟩
   .exact⟨u2,stB b u2 (qt b u2 h2 hb (.inl ⟨o,q⟩))⟩
  .rw [aW (aX q n2)];exact un.tups b xs q
  .rw [aW (aX q n2)];exact un.frzs b o u q
  .rw [aW (aX q n2)];exact un.tbls b ps q
 have hok2:ie X.prog X.w (upd H' a (.ext (L3.isExc C a))) h5:=fun b o q=>by
  by_cases hb:b=a
  .subst hb;rw[aU] at q;cases q;refine⟨⟨oe,he,hec⟩,⟨oe,he⟩,fun h1 h2 p k=>?_⟩
   obtain⟨o,h3,h4⟩:=p;exact⟨o,k o h3,h4⟩
  .rw [aW hb] at q;refine(hok b o q).o_ (fun c u hc hu=>?_) (fun c z=>by rw[aW (aX z n1)];exact z) (fun c xs z=>by rw[aW (aX z n1)];exact z)
   rcases hc with rfl | hc
   .exact wb c o q u hu
   .exact wb c _ hc u hu
 exact I.yM (s':={s' with heap:=h5}) os un2 hok2 bare (fun b z=>absurd z (by simp))
end
end L2
namespace L3
open PySem PySem.Spec PyProof.Rows L2
section
variable {X:Cx} {cl:KZ}
def kB(F:FZ)(ok:Nat->Bool)(i:Nat)(G:FZ):FZ:=fun δ S=>match F δ S with
 | .ok o S'=> .ok o S'
 | .ex c S'=>R3.ba (ok c) ((yk (G ((List.replicate δ.length none).set i (some (.loc S'.length))) (S'++[.exc c]))).bind fun o S2=>match o with | .nx dC=> .ok (.nx (dC.set i none)) S2 | .rt v=> .ok (.rt v) S2)
 | .no=> .no
theorem AK{F G:FZ}{ok:Nat->Bool}{i:Nat}{n fx:Str}{Cf:Addr}{body vP:List Stmt}{b0:Stmt}{np yh pos:Pos}(lJ:X.stack=X.env ::X.outer)(we:X.env.frame=some X.env.locals)(Hv:X.calm=true)
 (hC:∀c,ok c=true->PySem.W.exmOne X.K (.ref (cl c)) (.ref Cf)=some true) (hg:Gl X fx) (hm:X.mg fx=some (.ref Cf)) (hN:X.N.Nodup) (hi:X.N[i]? =some n) (hk:X.env.kindOf n=some .local)
 (dZ:∀(pn:KQ) (xe:KR) (E:XK),Passes (sC X.prog X.w) (X.alt X.A X.calm pn xe) E->nP (X.alt X.A X.calm pn xe) cl E body F)
 (CS:∀(a:Addr) (pn:KQ),tP (X.alt (X.A.mark (some (.ref a))) false pn fun _ _=>False) cl (b0 ::vP) G) (ik:(fx==("__debug__":Str))=false:=by decide) :
 PZ X cl (.Try body [.ExceptHandler (some (.Name fx np)) (some n) (b0 ::vP) yh] [] [] pos) (kB F ok i G):=⟨by
 intro pins s σ H D I ⟨ρ,S,δ,o,S',En,hf,q⟩;refine wpAny_Try_except ?_;have I1:∀xe,Inv (X.alt X.A X.calm (X.pn++pins) xe) [] σ H s:=fun xe=>I.alt I.ok.hd rfl fun p hp=>by simpa using hp
 have back:∀{bR H' s'} {xe} {A calm fO},Inv (X.alt A calm (X.pn++pins) xe) fO bR H' s'->Inv X pins bR H' s':=fun J=>Inv.BC I.ok J fun p hp=>List.mem_append_left _ hp
 have iY:∀{xe f s1},SP (X.alt X.A X.calm (X.pn++pins) xe) [] D f s1->(match f with | .next=>wpAny (model X.prog X.w) X.A (execs [] X.env) (SP X pins D) X.xe s1 | f=>SP X pins D f s1):=fun {xe f s1} z=>by
  cases f with
  | next=>obtain⟨bR,H',J,w⟩:=z;exact wpAny_execs_nil ⟨bR,H',back J,w⟩
  | brk=>obtain⟨bR,H',J,w⟩:=z;exact⟨bR,H',back J,w⟩
  | cont=>obtain⟨bR,H',J,w⟩:=z;exact⟨bR,H',back J,w⟩
  | ret u=>obtain⟨v,bR,H',J,r,w⟩:=z;exact⟨v,bR,H',back J,r,w⟩
 cases hF:F δ S with
 | no=>simp only[kB,hF] at hf;cases hf
 | ok o1 S1=>
   simp only[kB,hF] at hf;cases hf;exact cN ((dZ (X.pn++pins) _ E0 fun _ _ _ _ _ _ _ ⟨_,_,_,_,_,_,_,_,_,_,_,_,z⟩=>z.elim).1 [] s σ H D (I1 _) ⟨ρ,S,δ,En, .inl ⟨_,_,hF,q⟩⟩) fun f s1 z=>iY z
 | ex c S1=>
   simp only[kB,hF] at hf;obtain⟨hok,hf⟩:=R3.aH hf;obtain⟨o2,S2,hG,hf⟩:=R3.af hf;have hG:=iA hG;refine cN ((dZ (X.pn++pins) (fun e s₁=>wpAny (model X.prog X.w) X.A (noteFrame e X.env) (fun _ vU=>wpAny (model X.prog X.w) X.A (setFlight e none) (fun _ Fu=>wpAny (model X.prog X.w) X.A (handleBy e X.env [.ExceptHandler (some (.Name fx np)) (some n) (b0 ::vP) yh]) (SP X pins D) X.xe Fu) X.xe vU) X.xe s₁)
    (fun cls d H'=>cls= .ref (cl c)/\∃br,Pre ρ H br H'/\SW X.K cl br H' S1) ?_).1 [] s σ H D (I1 _) ⟨ρ,S,δ,En, .inr ⟨c,S1,hF,fun br H' p w=>⟨rfl,br,p,w⟩⟩⟩) fun f s1 z=>iY z
   intro fO bR H1 s1 e s' J hc;obtain⟨a,B,cls,a0,H',rfl,os,bare,un,hokH,fl,qt,rfl,br,p',w'⟩:=hc;have fl:Heap.FlyingW B (X.env ::X.outer) a (.ref (cl c)) a0 s'.heap:=by rw[<-lJ];exact fl
   refine wpAny_looks_onW (by rw[I.ok.frames,lJ]) we fl fun h4 held Hu=>?_
   refine wpAny_landsW held fun h5 Hr Hx=>?_
   have C5:=km (X:=X.alt X.A X.calm (X.pn++pins) _) (s':=s') J lJ os bare un hokH qt (by rw[show Cx.stack (X.alt X.A X.calm (X.pn++pins) _)=X.env ::X.outer from lJ];exact Hr) (Hu.trans Hx)
   have J5:Inv (X.alt (X.A.mark (some (.ref a))) false (X.pn++pins) fun _ _=>False) fO bR _ {s' with heap:=h5}:=Inv.alt (X:=X.alt X.A X.calm (X.pn++pins) _) C5.2.2 (fun z=>by cases z) rfl fun p hp=>hp
   refine wpAny_handleBy_cons (codeAny_handlers_test (kh J5 hg hm ?_ ik)) (by intro q;cases q)
   refine(PySem.W.exm_one J5.ve (mP.ty C5.2.1) (hC c hok)).here ?_;refine codeAny_handlers_suite_as ?_;refine PyProof.Rows.lands_againW Hr fun h6 JK JB=>?_
   have C6:=km (X:=X.alt X.A X.calm (X.pn++pins) _) (s':=s') J lJ os bare un hokH qt (by rw[show Cx.stack (X.alt X.A X.calm (X.pn++pins) _)=X.env ::X.outer from lJ];exact JK) ((Hu.trans Hx).trans JB)
   have J6:Inv (X.alt (X.A.mark (some (.ref a))) false (X.pn++pins) fun _ _=>False) fO bR _ {s' with heap:=h6}:=Inv.alt (X:=X.alt X.A X.calm (X.pn++pins) _) C6.2.2 (fun z=>by cases z) rfl fun p hp=>hp
   have sm:aG H' (upd H' a (.ext (isExc (cl c) a))):=bt C6.1;obtain⟨w6,p6⟩:=w'.new (o:= .exc c) sm C6.1 (show sS X.K cl (br.push a) _ (.exc c) _ from⟨a,aU⟩)
   have la:(br.push a).r[S1.length]? =some a:=by
    show(br.r++[a])[S1.length]? =some a;rw[<-w'.len,List.getElem?_append_right (Nat.le_refl _),Nat.sub_self];rfl
   refine kO (X:=X.alt (X.A.mark (some (.ref a))) false (X.pn++pins) fun _ _=>False) J6 hN hi (.inl hk) (v:= .ref a) rfl (fun s7 J7=>?_) (.inr hk)
   have Jy:cY X.K cl (br.push a) (upd H' a (.ext (isExc (cl c) a))) (S1++[.exc c]) (bR.set i (some (.ref a))) ((List.replicate δ.length none).set i (some (.loc S1.length))):=by
    refine⟨?_,w6,fun j d e=>?_⟩
    .rw [List.length_set,List.length_set,List.length_replicate,En.len,I.len];exact J.len.symm
    .by_cases hj:i=j
     .subst hj;have gE:i < (List.replicate δ.length (none:Option V3)).length:=by
       rw[List.length_replicate,En.len,I.len];exact(List.getElem?_eq_some_iff.mp hi).1
      rw[List.getElem?_set_self gE] at e;cases e;refine⟨.ref a,?_,by unfold aB;exact⟨a,la,rfl⟩⟩
      rw[List.getElem?_set_self];have:bR.length=X.N.length:=J.len;rw[this];exact(List.getElem?_eq_some_iff.mp hi).1
     .rw [List.getElem?_set_ne hj,List.getElem?_replicate] at e;split at e <;> cases e
   have q7:p_ X.K cl (br.push a) (upd H' a (.ext (isExc (cl c) a))) {nx:=fun A2 H8=>D.nx (A2.set i none) H8,rt:=D.rt} S2 o2:=by
    cases o2 with
    | nx fG=>
      cases hf;intro A2 Fe H8 p8 E8;refine q (A2.set i none) Fe H8 ((p'.trans p6).trans p8) ⟨?_,E8.sw,fun j d e=>?_⟩
      .rw [List.length_set,List.length_set];exact E8.len
      .by_cases hj:i=j
       .subst hj;by_cases gE:i < fG.length
        .rw [List.getElem?_set_self gE] at e;cases e
        .rw [List.getElem?_eq_none (by rw[List.length_set];omega)] at e;cases e
       .rw [List.getElem?_set_ne hj] at e ⊢;exact E8.val j d e
    | rt v=>
      cases hf;exact fun u Fe H8 p8 w8 r8=>q u Fe H8 ((p'.trans p6).trans p8) w8 r8
   refine wpAny_mono ((CS a (X.pn++pins)).1 fO s7 _ _ _ J7 ⟨br.push a,S1++[.exc c],_,o2,S2,Jy,hG,q7⟩) (fun f s8 z=>?_) fun _ _ z=>z.elim
   cases f with
   | next=>
     obtain⟨A2,H8,J8,z⟩:=z;exact qS (back J8) hN hi hk fun s9 J9=>⟨_,H8,J9,z⟩
   | brk=>obtain⟨A2,H8,J8,z⟩:=z;exact z.elim
   | cont=>obtain⟨A2,H8,J8,z⟩:=z;exact z.elim
   | ret u=>
     obtain⟨v,A2,H8,J8,r8,z⟩:=z;exact qS (back J8) hN hi hk fun s9 J9=>⟨v,_,H8,J9,r8,z⟩⟩
end
end L3
end
section
namespace L2
open PySem PySem.Spec PyProof.Rows
theorem uR{H:Hp}{a b C:Addr}(k:ie P w H h)(e:H a=some (.ext (L3.isExc C b))):mP a C h:=by
 obtain⟨p,⟨o,ho⟩,st⟩:=(show cT P w H h a (.ext (L3.isExc C b)) from k a _ e)
 by_cases hab:a=b
 .subst hab;exact p
 .exfalso
  obtain⟨o2,h2,_⟩:=st h (PySem.W.hideAll h [b]) p fun o q=>PySem.W.hideAll_get [b] q (by simpa using hab)
  rw[PySem.W.hideAll_none [b] (List.mem_singleton.mpr rfl)] at h2;cases h2
def iE:V->Bool | .ref _=>true | .ty _=>true | _=>false
def nD:V->Value | .ref a=> .ref a | .ty n=> .type n | _=> .none
theorem nv{v:V}{u:Value}(h:iE v=true)(r:RelV v u):u=nD v:=by
 cases v with
 | ref a=>exact r
 | ty n=>exact r
 | _=>cases h
theorem oH:∀{vs:List V} {us:List Value},vs.all iE=true->Vals vs us->us=vs.map nD
 | [],_,_, .nil=>rfl
 | v ::vs,_,h, .cons r t=>by
   rw[List.all_cons,Bool.and_eq_true] at h;rw[nv h.1 r,oH h.2 t];rfl
section
variable {X:Cx}
def zk(K:W.Frag):List V->Hp->VK->Prop:=fun xs H Q=>∃a b C cv k,xs=[V.ref a,cv]/\H a=some (.ext (L3.isExc C b))/\XC K C/\iE cv=true/\PySem.W.kitOne K (.ref C) (nD cv)=some k/\Q (.bl k) H
def Af(K:W.Frag):List V->Hp->VK->Prop:=fun xs H Q=>∃cv k,xs=[V.cy,cv]/\iE cv=true/\PySem.W.kitOne K (.type "NoneType") (nD cv)=some k/\Q (.bl k) H
def CK(K:W.Frag):List V->Hp->VK->Prop:=fun xs H Q=>∃a b C tp rD k,xs=[V.ref a,V.ref tp]/\H a=some (.ext (L3.isExc C b))/\XC K C/\H tp=some (.tup rD)/\rD.all iE=true/\PySem.W.kitAny K (.ref C) (rD.map nD)=some k/\Q (.bl k) H
theorem vL:eX X (.builtin "isinstance") (zk X.K):=by
 intro pins s σ H xs us Q I r h;obtain⟨a,b,C,cv,k,rfl,e,T,hc,hk,q⟩:=h;obtain⟨u,w',rfl,ru,vQ⟩:=vals2 r;cases ru;rw[nv hc vQ];exact PySem.W.kia_one (oY T) I.ve (uR I.hok e) hk (fun z=>nomatch z) fun tk=>⟨.bl k,H,I.tok _,rfl,q⟩
theorem tW:eX X (.builtin "isinstance") (Af X.K):=by
 intro pins s σ H xs us Q I r h;obtain⟨cv,k,rfl,hc,hk,q⟩:=h;obtain⟨u,w',rfl,ru,vQ⟩:=vals2 r;cases ru;rw[nv hc vQ];exact PySem.W.kia_one PySem.W.kitx_none I.ve True.intro hk (fun z=>nomatch z) fun tk=>⟨.bl k,H,I.tok _,rfl,q⟩
theorem uD:eX X (.builtin "isinstance") (CK X.K):=by
 intro pins s σ H xs us Q I r h;obtain⟨a,b,C,tp,rD,k,rfl,e,T,et,hc,hk,q⟩:=h;obtain⟨u,w',rfl,ru,vQ⟩:=vals2 r;cases ru;cases vQ;obtain⟨_,its,rv,o,ho,hoc,n,hod⟩:=(show cT X.prog X.w H s.heap tp (.tup rD) from I.hok tp _ et)
 have hi:=oH hc rv;subst hi;obtain⟨oc,odc,oda,sY⟩:=o;have hoc:oc= .type "tuple":=hoc;have hod:oda= .seq (rD.map nD).toArray n:=hod;subst hoc hod;exact PySem.W.kia_tup (oY T) I.ve (uR I.hok e) ho hk (fun z=>nomatch z) fun tk=>⟨.bl k,H,I.tok _,rfl,q⟩
end
end L2
namespace L3
open PySem PySem.Spec PyProof.Rows L2
section
variable {X:Cx} {cl:KZ} {E:XK}
def lr(f:FX)(tb:Nat->Option Bool):FX:=fun δ S=>(f δ S).bind fun v S1=>match v with
 | .loc k=>(match S1[k]? with | some (.exc c)=>(match tb c with | some b=> .ok (.d (.bl b)) S1 | none=> .no) | _=> .no)
 | .d .cy=> .ok (.d (.bl false)) S1
 | _=> .no
theorem nJ{e c:Expr}{f:FX}{tb:Nat->Option Bool}{cv:V}{p pos:Pos}(he:PX X cl e f)(hc:PE X c (tC cv))(DP:iE cv=true)(hg:Gl X "isinstance")(hm:X.mg "isinstance"=none)
 (ht:∀c b,tb c=some b->XC X.K (cl c)/\PySem.W.kitOne X.K (.ref (cl c)) (nD cv)=some b) (hn:PySem.W.kitOne X.K (.type "NoneType") (nD cv)=some false)
 (hs:starEach [e,c] X.env=(false,eval e X.env) ::starEach [c] X.env:=by rfl) (Ff:starEach [c] X.env=(false,eval c X.env) ::starEach [] X.env:=by rfl) (fP:(backTo pos (starEach [c] X.env)).any (·.1)=false:=by rfl) :
 PX X cl (.Call (.Name "isinstance" p) [e,c] [] pos) (lr f tb):=⟨by
 have both:eX X (.builtin "isinstance") (fun xs H Q=>zk X.K xs H Q\/Af X.K xs H Q):=fun pins s σ H xs us Q I r h=>h.elim (vL pins s σ H xs us Q I r) (tW pins s σ H xs us Q I r)
 refine(jl both hg hm boot_isinstance (c1 he.1 (c1 hc eP Ff) hs) (by decide) (by decide) hs fP).imp fun σ H Q ⟨ρ,S,δ,v,S',En,hf,q⟩=>?_
 obtain⟨v1,S1,h1,h2⟩:=R3.af hf;refine⟨ρ,S,δ,v1,S1,En,h1,fun u bu H1 p1 w1 r1=>?_⟩
 show zk X.K [u,cv] H1 Q\/Af X.K [u,cv] H1 Q;split at h2
 .rename_i k;split at h2
  .rename_i cc hS;split at h2
   .rename_i b hb;cases h2;unfold aB at r1;obtain⟨a,ha,rfl⟩:=r1;obtain⟨b',hH⟩:=w1.ob k a _ ha hS;exact .inl ⟨a,b',cl cc,cv,b,rfl,hH,(ht cc b hb).1,DP,(ht cc b hb).2,q _ bu H1 p1 w1 (by unfold aB;exact Rep.bl.mpr rfl)⟩
   .cases h2
  .cases h2
 .cases h2;unfold aB at r1;cases Rep.cy.mp r1;exact .inr ⟨cv,false,rfl,DP,hn,q _ bu H1 p1 w1 (by unfold aB;exact Rep.bl.mpr rfl)⟩
 .cases h2⟩
def rJ(f:FX)(tb:Nat->Option Bool):FX:=fun δ S=>(f δ S).bind fun v S1=>match v with
 | .loc k=>(match S1[k]? with | some (.exc c)=>(match tb c with | some b=> .ok (.d (.bl b)) S1 | none=> .no) | _=> .no)
 | _=> .no
def Dt(rD:List V):TA:=fun _ H Q=>Q rD H
theorem l9:PA X [] (Dt []):=eP
theorem bV{v:V}{vs:List V}(h:PE X e (tC v))(t:PA X es (Dt vs))(hs:starEach (e ::es) X.env=(false,eval e X.env) ::starEach es X.env:=by rfl):PA X (e ::es) (Dt (v ::vs)):=(c1 h t hs).imp fun σ H Q q=>q
theorem tF{e:Expr}{cs:List Expr}{f:FX}{tb:Nat->Option Bool}{rD:List V}{x1}{p pos pe:Pos}(he:PX X cl e f)(hc:PA X cs (Dt rD))(DP:rD.all iE=true)(hz:rD.length<=sizeLine)(hg:Gl X "isinstance")(hm:X.mg "isinstance"=none)
 (ht:∀c b,tb c=some b->XC X.K (cl c)/\PySem.W.kitAny X.K (.ref (cl c)) (rD.map nD)=some b)
 (hs:starEach [e, .Tuple cs x1 pe] X.env=(false,eval e X.env) ::starEach [.Tuple cs x1 pe] X.env:=by rfl) (Ff:starEach [.Tuple cs x1 pe] X.env=(false,eval (.Tuple cs x1 pe) X.env) ::starEach [] X.env:=by rfl) (fP:(backTo pos (starEach [.Tuple cs x1 pe] X.env)).any (·.1)=false:=by rfl) :
 PX X cl (.Call (.Name "isinstance" p) [e, .Tuple cs x1 pe] [] pos) (rJ f tb):=⟨by
 refine(jl (uD (X:=X)) hg hm boot_isinstance (c1 he.1 (c1 (qp hc) eP Ff) hs) (by decide) (by decide) hs fP).imp fun σ H Q ⟨ρ,S,δ,v,S',En,hf,q⟩=>?_
 obtain⟨v1,S1,h1,h2⟩:=R3.af hf;refine⟨ρ,S,δ,v1,S1,En,h1,fun u bu H1 p1 w1 r1=>⟨hz,fun tp Dh=>?_⟩⟩
 show CK X.K [u, .ref tp] _ Q;split at h2
 .rename_i k;split at h2
  .rename_i cc hS;split at h2
   .rename_i b hb;cases h2;unfold aB at r1;obtain⟨a,ha,rfl⟩:=r1;obtain⟨b',hH⟩:=w1.ob k a _ ha hS;exact⟨a,b',cl cc,tp,rD,b,rfl,by rw[aW (aX hH Dh)];exact hH,(ht cc b hb).1,aU,DP,(ht cc b hb).2,q _ bu _ (p1.trans (i2 Dh)) (w1.same (bt Dh)) (by unfold aB;exact Rep.bl.mpr rfl)⟩
   .cases h2
  .cases h2
 .cases h2⟩
theorem hJ{fs:FA}{n:Nat}(h:∀δ S ds S',fs δ S= .ok ds S'->ds.length=n):∀δ S ds S',ji fs δ S= .ok ds S'->ds.length=n:=fun δ S ds S' e=>h δ S ds S' (iA e)
theorem pT(ha:zl X cl E a fa)(hb:PX X cl b fb)(hs:ja b):zl X cl E (.Subscript a b pos) (qX fa (yz fb)):=⟨by
 refine(vM (r:=Dr X.K) qi ha.1 hb.1 hs).imp fun σ H Q ⟨ρ,S,δ,En,z⟩=>⟨ρ,S,δ,En,?_⟩
 rcases z with⟨v,S',hf,q⟩ | ⟨c,S',hf,q⟩
 .obtain⟨v1,S1,h1,h2⟩:=R3.af hf;obtain⟨v2,S2,h3,h4⟩:=R3.af h2;refine .inl ⟨v1,S1,h1,fun u1 bu H1 p1 w1 r1=>⟨bu,S1,δ,v2,S2,En.to p1 w1,iA h3,fun u2 iR H2 p2 w2 r2=>?_⟩⟩
  have iZ:=r1.pre p2;have vT:=p1.trans p2;split at h4
  .rename_i x y;obtain⟨d,S3,h5,h6⟩:=R3.af h4;obtain⟨h7,e7⟩:=R3.of_ok h5;cases h6;subst e7;unfold aB at iZ r2;unfold cu at h7;split at h7
   .split at h7
    .rename_i e;cases h7;obtain⟨p,xs,rfl,l,rs⟩:=Rep.lst.mp iZ;obtain⟨y,e1,e2⟩:=fM rs e;exact .inl ⟨p,xs,_,y,rfl,Rep.int.mp r2,l.sq,e1,q y iR H2 vT w2 (by unfold aB;exact e2)⟩
    .cases h7
   .split at h7
    .rename_i e;cases h7;obtain⟨p,xs,rfl,l,rs⟩:=Rep.tup.mp iZ;obtain⟨y,e1,e2⟩:=fM rs e;exact .inr (.inl ⟨p,xs,_,y,rfl,Rep.int.mp r2,l.sq,e1,q y iR H2 vT w2 (by unfold aB;exact e2)⟩)
    .cases h7
   .obtain⟨hl,h8⟩:=R.aH h7;split at h8
    .rename_i e;cases h8;exact .inr (.inr ⟨_,_,_,Rep.str.mp iZ,Rep.int.mp r2,of_decide_eq_true hl,e,q _ iR H2 vT w2 (by unfold aB;exact Rep.str.mpr rfl)⟩)
    .cases h8
   .cases h7
  .split at h4
   .rename_i e;cases h4;unfold aB at iZ r2;obtain⟨p,xs,rfl,l,rs⟩:=iZ;obtain⟨y,e1,e2⟩:=h_ rs e;exact .inl ⟨p,xs,_,y,rfl,Rep.int.mp r2,l.sq,e1,q y iR H2 vT w2 e2⟩
   .cases h4
  .split at h4
   .rename_i e;cases h4;unfold aB at iZ r2;obtain⟨p,xs,rfl,l,rs⟩:=iZ;obtain⟨y,e1,e2⟩:=h_ rs e;exact .inr (.inl ⟨p,xs,_,y,rfl,Rep.int.mp r2,l.sq,e1,q y iR H2 vT w2 e2⟩)
   .cases h4
  .cases h4
 .rcases R3.dN hf with h1 | ⟨v1,S1,h1,h2⟩
  .exact .inr ⟨c,S',h1,q⟩
  .rcases R3.dN h2 with h3 | ⟨v2,S2,h3,h4⟩
   .exact(mF h3).elim
   .exfalso
    split at h4
    .rename_i x y;cases hg:cu x y with
     | ok d=>rw [hg] at h4;cases h4
     | ex c=>rw [hg] at h4;cases h4
     | no=>rw [hg] at h4;cases h4
    .split at h4 <;> cases h4
    .split at h4 <;> cases h4
    .cases h4⟩
end
end L3
namespace L3
def Tb(P:Nat->Bool->Prop)(l:List (Nat × Bool)):Prop:=∀p∈l,P p.1 p.2
theorem jM{P:Nat->Bool->Prop}:Tb P []:=fun _ h=>by cases h
theorem dq{P:Nat->Bool->Prop}{c:Nat}{b:Bool}{l:List (Nat × Bool)}(h:P c b)(t:Tb P l):Tb P ((c,b) ::l):=fun p hp=>by
 rcases List.mem_cons.mp hp with rfl | hp
 .exact h
 .exact t p hp
def qD(l:List (Nat × Bool)):Nat->Option Bool:=fun c=>l.lookup c
theorem kF{P:Nat->Bool->Prop}:∀{l:List (Nat × Bool)},Tb P l->∀c b,qD l c=some b->P c b
 | [],_,c,b,e=>by cases e
 | (k,v) ::l,h,c,b,e=>by
   unfold qD at e;rw[List.lookup_cons] at e;split at e
   .rename_i hk;cases e;rw[beq_iff_eq.mp hk];exact h (k,v) (List.mem_cons_self ..)
   .exact kF (fun p hp=>h p (List.mem_cons_of_mem _ hp)) c b e
def Oc(P:Nat->Prop)(l:List Nat):Prop:=∀c∈l,P c
theorem zI{P:Nat->Prop}:Oc P []:=fun _ h=>by cases h
theorem q_{P:Nat->Prop}{c:Nat}{l:List Nat}(h:P c)(t:Oc P l):Oc P (c ::l):=fun p hp=>by
 rcases List.mem_cons.mp hp with rfl | hp
 .exact h
 .exact t p hp
theorem B0{P:Nat->Prop}{l:List Nat}(h:Oc P l):∀c,l.contains c=true->P c:=fun c hc=>h c (by simpa using hc)
end L3
end
section
namespace L3
open PySem PySem.Spec PyProof.Rows L2
section
variable {α β:Type} {S S':aA} {δ:DE} {c:Nat}
theorem uv{r:R3 α}{Q:α->aA->Prop}(h:W3 r Q):W3 (yk r) Q:=by
 obtain⟨a,S,e,q⟩:=h;rw[e];exact⟨a,S,rfl,q⟩
theorem uw{f:FX}{Q:V3->aA->Prop}(h:W3 (f δ S) Q):W3 (yz f δ S) Q:=uv h
theorem dE{f:FA}{Q:List V3->aA->Prop}(h:W3 (f δ S) Q):W3 (ji f δ S) Q:=uv h
theorem vD{f:FZ}{Q:Ou->aA->Prop}(h:W3 (f δ S) Q):W3 (Bs f δ S) Q:=uv h
theorem gA{f:FB}{Q:Bool->aA->Prop}(h:W3 (f δ S) Q):W3 (wc f δ S) Q:=uv h
theorem f6{r:R3 α}{f:α->aA->R3 β}(h:r= .ex c S'):r.bind f= .ex c S':=by rw[h];rfl
theorem ka{r:R3 α}{f:α->aA->R3 β}(h:W3 r fun a S1=>f a S1= .ex c S'):r.bind f= .ex c S':=by
 obtain⟨a,S1,e,q⟩:=h;rw[e];exact q
theorem nh{F G:FZ}(h:F δ S= .ex c S'):aQ F G δ S= .ex c S':=f6 h
theorem Ac{F G:FZ}(h:W3 (F δ S) fun o S1=>∃cg,o= .nx cg/\G cg S1= .ex c S'):aQ F G δ S= .ex c S':=ka (h.mono fun o S1 ⟨cg,e,q⟩=>by subst e;exact q)
theorem pY{fc:FB}(h:W3 (fc δ S) fun b S1=>(if b then F δ S1 else G δ S1)= .ex c S'):kR fc F G δ S= .ex c S':=ka h
theorem ql{f:FX}(h:f δ S= .ex c S'):l6 f δ S= .ex c S':=f6 h
theorem uP{i:Nat}{f:FX}(h:f δ S= .ex c S'):bA i f δ S= .ex c S':=f6 h
theorem pC{f:FX}(h:f δ S= .ex c S'):ak f g δ S= .ex c S':=f6 h
theorem mJ{g:List D->R D}{fs:FA}(h:fs δ S= .ex c S'):d4 g fs δ S= .ex c S':=f6 h
theorem y6{fa fb:FX}(h:fa δ S= .ex c S'):qX fa fb δ S= .ex c S':=f6 h
theorem x_call{g:List V3->aA->R3 V3}{fs:FA}(h:W3 (fs δ S) fun vs S1=>g vs S1= .ex c S'):bb g fs δ S= .ex c S':=ka h
theorem BM{N:List Str}{F:FZ}{vs:List V3}(e:bM N vs=δ)(h:F δ S= .ex c S'):jd N F vs S= .ex c S':=by
 unfold jd;rw[e];exact f6 h
theorem x_raise{fs:FA}(h:W3 (fs δ S) fun vs S1=>vs.length<=sizeLine/\S1=S'):mO c fs δ S= .ex c S':=ka (h.mono fun vs S1 ⟨h1,h2⟩=>by
 subst h2;unfold R3.ba;rw[decide_eq_true h1];rfl)
theorem D8{N:List Str}{F:FZ}{vs:List V3}{Q:V3->aA->Prop}(e:bM N vs=δ)(h:W3 (F δ S) fun o S1=>(∃cg,o= .nx cg)/\Q (.d .cy) S1):W3 (jd N F vs S) Q:=by
 unfold jd;rw[e];exact W3.bind (h.mono fun o S1 ⟨⟨cg,e1⟩,q⟩=>by subst e1;exact W3.ok q)
theorem pV{F G:FZ}{ok:Nat->Bool}{i:Nat}{Q:Ou->aA->Prop}(h:W3 (F δ S) Q):W3 (kB F ok i G δ S) Q:=by
 obtain⟨o,S1,e,q⟩:=h;unfold kB;rw[e];exact W3.ok q
theorem yZ{F G:FZ}{ok:Nat->Bool}{i:Nat}{Q:Ou->aA->Prop}(h:F δ S= .ex c S')(hc:ok c=true)(hg:W3 (G ((List.replicate δ.length none).set i (some (.loc S'.length))) (S'++[.exc c])) fun o S2=>∃cg,o= .nx cg/\Q (.nx (cg.set i none)) S2):W3 (kB F ok i G δ S) Q:=by
 unfold kB;rw[h];refine W3.wh hc (W3.bind (uv (hg.mono fun o S2 ⟨cg,e,q⟩=>?_)))
 subst e;exact W3.ok q
theorem j2{f:FX}{tb:Nat->Option Bool}{Q:V3->aA->Prop}(h:W3 (f δ S) fun v S1=>∃k c b,v= .loc k/\S1[k]? =some (.exc c)/\tb c=some b/\Q (.d (.bl b)) S1):W3 (lr f tb δ S) Q:=W3.bind (h.mono fun v S1 ⟨k,c,b,e,e1,e2,q⟩=>by
 subst e;simp only[e1,e2];exact W3.ok q)
theorem qU{f:FX}{tb:Nat->Option Bool}{Q:V3->aA->Prop}(h:W3 (f δ S) fun v S1=>∃k c b,v= .loc k/\S1[k]? =some (.exc c)/\tb c=some b/\Q (.d (.bl b)) S1):W3 (rJ f tb δ S) Q:=W3.bind (h.mono fun v S1 ⟨k,c,b,e,e1,e2,q⟩=>by
 subst e;simp only[e1,e2];exact W3.ok q)
end
end L3
end
section
namespace NT
def mx(f:Nat->Nat)(w:List Nat):Nat:=(w.map f).foldl max 0
structure BA (f:Nat->Nat) (M:Nat) (bs:List Int):Prop where
 a:∀(z:Nat) (v:Int),bs[z]? =some v->v= -1\/(0<=v/\v+f z<=M)
def BB(f:Nat->Nat)(M:Nat)(bs:List Int)(n:Nat):Prop:=∃(z:Nat) (v:Int),z < n/\bs[z]? =some v/\0<=v/\(M:Int)<=v+f z
def Up(bs Hw:List Int):Prop:=Hw.length=bs.length/\∀(z:Nat) (v:Int),bs[z]? =some v->∃v',Hw[z]? =some v'/\v<=v'
end NT
namespace NT
open PySem PySem.Spec PyProof.Rows L2 L3
structure Gt where
 k:Str
 w:List Nat
 s:Bool
def nN(z:Nat):D:= .int z
def wN(w:List Nat):D:= .tup (w.map nN)
def gN(g:Gt):D:= .tup [.str g.k,wN g.w, .bl g.s]
def iN(x:Str × Nat):D:= .tup [.str x.1, .int x.2]
def oN(x:Str × List Nat):D:= .tup [.str x.1,wN x.2]
structure Net where
 i:KS
 g:List Gt
 o:KU
def Net.d(n:Net):D:= .tup [.lst (n.i.map iN), .lst (n.g.map gN), .lst (n.o.map oN)]
def Net.first(n:Net):Nat:=(n.i.map (·.2)).sum
structure xE (n:Nat) (w:List Nat):Prop where
 ne:w≠[]
 le:w.length<=3
 lt:∀z∈w,z < n
structure Net.Ok (n:Net):Prop where
 i1:1<=n.i.length
 i6:n.i.length<=6
 iw:∀x∈n.i,1<=x.2/\x.2<=3
 is:∀x∈n.i,cz 0 (.str x.1)
 g60:n.g.length<=60
 gw:∀(p:Nat) (g:Gt),n.g[p]? =some g->xE (n.first+p) g.w
 gs:∀g∈n.g,cz 0 (.str g.k)
 o1:1<=n.o.length
 o6:n.o.length<=6
 ow:∀x∈n.o,xE (n.first+n.g.length) x.2
 os:∀x∈n.o,cz 0 (.str x.1)
theorem uX(w:List Nat):cz 1 (wN w):=cz.tup fun d hd=>by obtain⟨x,_,rfl⟩:=List.mem_map.mp hd;exact cz.int x
theorem Ae{g:Gt}(h:cz 0 (.str g.k)):cz 2 (gN g):=cz.tup fun d hd=>by
 simp only[List.mem_cons,List.not_mem_nil,or_false] at hd;rcases hd with rfl | rfl | rfl
 .exact h.mono (by omega)
 .exact uX _
 .exact(cz.bl _).mono (by omega)
theorem zF{x:Str × Nat}(h:cz 0 (.str x.1)):cz 1 (iN x):=cz.tup fun d hd=>by
 simp only[List.mem_cons,List.not_mem_nil,or_false] at hd;rcases hd with rfl | rfl
 .exact h
 .exact cz.int _
theorem Al{x:Str × List Nat}(h:cz 0 (.str x.1)):cz 2 (oN x):=cz.tup fun d hd=>by
 simp only[List.mem_cons,List.not_mem_nil,or_false] at hd;rcases hd with rfl | rfl
 .exact h.mono (by omega)
 .exact uX _
theorem Net.fit{n:Net}(hi:∀x∈n.i,cz 0 (.str x.1))(hg:∀g∈n.g,cz 0 (.str g.k))(ho:∀x∈n.o,cz 0 (.str x.1)):cz 4 n.d:=cz.tup fun d hd=>by
 simp only[List.mem_cons,List.not_mem_nil,or_false] at hd;rcases hd with rfl | rfl | rfl
 .exact cz.lst fun d hd=>by obtain⟨x,hx,rfl⟩:=List.mem_map.mp hd;exact(zF (hi x hx)).mono (by omega)
 .exact cz.lst fun d hd=>by obtain⟨x,hx,rfl⟩:=List.mem_map.mp hd;exact Ae (hg x hx)
 .exact cz.lst fun d hd=>by obtain⟨x,hx,rfl⟩:=List.mem_map.mp hd;exact Al (ho x hx)
theorem ne_self{n:Nat}{ds:List D}(h:cz n (.tup ds))(hn:n<=64):v7 (.tup ds) (.tup ds)= .ok (.bl false):=by unfold v7;rw [h.eqT hn];rfl
theorem Net.ne{n:Net}(h:cz 4 n.d):v7 n.d n.d= .ok (.bl false):=ne_self h (by omega)
inductive Sm:Nat->D->Prop where
 | int (n:Nat) (i:Int):Sm n (.int i)
 | bl (n:Nat) (b:Bool):Sm n (.bl b)
 | str (n:Nat) (s:Str):Sm n (.str s)
 | lst {n:Nat} {ds:List D} (h:∀d∈ds,Sm n d) (hl:ds.length<=1000000):Sm (n+1) (.lst ds)
 | tup {n:Nat} {ds:List D} (h:∀d∈ds,Sm n d) (hl:ds.length<=1000000):Sm (n+1) (.tup ds)
theorem AF{f g:FD}{δ:ar}{r:R D}(h:f δ= .ok (.bl true))(h2:g δ=r):vw f g δ=r:=by unfold vw;rw [Ah h,R.bo,if_pos rfl];exact h2
theorem kC{m i:Nat}{v:V3}(h:((eu 0 m).map V3.d)[i]? =some v):i < m/\v= .d (.int i):=by
 rw[List.getElem?_map,eu,List.getElem?_map] at h;cases q:(List.range m)[i]? with
 | none=>rw [q] at h;cases h
 | some j=>
   rw[q] at h;cases h;obtain⟨q1,q2⟩:=List.getElem?_eq_some_iff.mp q;rw[List.getElem_range] at q2;rw[List.length_range] at q1;subst q2;exact⟨q1,by simp⟩
theorem nG(lo:Int)(m:Nat):(eu lo m).length=m:=by rw[eu,List.length_map,List.length_range]
theorem gP(lo:Int)(m:Nat):((eu lo m).map V3.d).length=m:=by rw[List.length_map,nG]
theorem kf{S:aA}{k:Nat}{o x:SO}(h:S[k]? =some x):(S.set k o)[k]? =some o:=by
 obtain⟨h1,_⟩:=List.getElem?_eq_some_iff.mp h;rw[List.getElem?_set_self h1]
theorem uN(S:aA)(x:SO):(S++[x])[S.length]? =some x:=by rw[List.getElem?_append_right (Nat.le_refl _),Nat.sub_self];rfl
theorem AM{α:Type}{l:List α}{f:α->D}{i:Nat}{v:V3}(h:((l.map f).map V3.d)[i]? =some v):∃x,l[i]? =some x/\v= .d (f x):=by
 rw[List.getElem?_map,List.getElem?_map] at h;cases q:l[i]? with
 | none=>rw [q] at h;cases h
 | some x=>rw [q] at h;cases h;exact⟨x,rfl,rfl⟩
theorem cD{α:Type}{t:FT}{c:ar->R Bool}{f:FD}{δ:ar}(a b:α->D):∀{xs:List α},(∀x∈xs,∃cg,t (a x) δ= .ok cg/\c cg= .ok true/\f cg= .ok (b x))->jo t c f δ (xs.map a)= .ok (xs.map b)
 | [],_=>rfl
 | x ::xs,h=>by
   obtain⟨cg,h1,h2,h3⟩:=h x List.mem_cons_self;have ih:=cD (t:=t) (c:=c) (f:=f) (δ:=δ) a b (xs:=xs) fun y hy=>h y (List.mem_cons_of_mem _ hy)
   rw[List.map_cons];unfold jo;rw[h1,R.bo,h2,R.bo,if_pos rfl,h3,R.bo,ih];rfl
theorem nC{n z:Nat}(h:z < n):r_ n (z:Int)=some z:=by
 unfold r_;rw[if_pos (by omega),if_pos (by omega)]
 simp
theorem oq{α:Type}{xs:List α}{z:Nat}{x:α}(h:xs[z]? =some x):lj xs (z:Int)=some x:=by
 have hl:=(List.getElem?_eq_some_iff.mp h).1;unfold lj;rw[nC hl];exact h
theorem jf{ds:List D}{z:Nat}{x:D}(h:ds[z]? =some x):cu (.lst ds) (.int z)= .ok x:=zc (oq h)
theorem qF{ds:List D}{z:Nat}{x:D}(h:ds[z]? =some x):cu (.tup ds) (.int z)= .ok x:=Am (oq h)
theorem tH{a b:Nat}(h:a < 1000):eV (.int a) (.int b)= .ok (.int ((a*b:Nat):Int)):=by
 show R.ba (decide ((-(2 ^ 64) < (a:Int)/\(a:Int) < 2 ^ 64)\/(-(2 ^ 64) < (b:Int)/\(b:Int) < 2 ^ 64))) _=_;rw[cB _ (.inl ⟨by omega,by omega⟩)]
 rfl
theorem xS(z:Nat)(l:List Nat):cu (wN (z ::l)) (.int 0)= .ok (.int z):=by
 show cu (.tup ((z ::l).map nN)) (.int ((0:Nat):Int))=_;exact qF rfl
end NT
end
section
namespace K29
open PySem PySem.Spec PyProof.Rows L2 L3
variable {P:Program} {w:World} {K:W.Frag} {mg:KY} {base:Heap} {cl:KZ}
def top(i:Nat):Stmt:=PySem.Challenge.pw_bearfaults_k29_neither_plain_nor_full.main.body.getD i (.Pass ⟨0,0,0,0⟩)
def c0:D:=(.int 60)
structure Tp (K:W.Frag) (mg:KY) (cl:KZ):Prop where
 z_all:mg "all"=none
 z_len:mg "len"=none
 z_range:mg "range"=none
 z_tuple:mg "tuple"=none
 z_min:mg "min"=none
 z_list:mg "list"=none
 z_isinstance:mg "isinstance"=none
 z_ValueError:mg "ValueError"=none
 z_int:mg "int"=none
 c0:Glob K mg "MOST_GATES" c0
 M_FaultError:mg "FaultError"=some (.ref (cl 0))
 M_TooLong:mg "TooLong"=some (.ref (cl 1))
 M_NoForm:mg "NoForm"=some (.ref (cl 2))
 M_NoPlace:mg "NoPlace"=some (.ref (cl 3))
 M_Twice:mg "Twice"=some (.ref (cl 4))
 M_Full:mg "Full"=some (.ref (cl 5))
 M_NoWire:mg "NoWire"=some (.ref (cl 6))
 M_Open:mg "Open"=some (.ref (cl 7))
 M_NotPlain:mg "NotPlain"=some (.ref (cl 8))
 M_NotThree:mg "NotThree"=some (.ref (cl 9))
 M_NotSound:mg "NotSound"=some (.ref (cl 10))
 M_NoFit:mg "NoFit"=some (.ref (cl 11))
 M_NoShape:mg "NoShape"=some (.ref (cl 12))
 M_NoneYet:mg "NoneYet"=some (.ref (cl 13))
 X_Full:XC K (cl 5)
 X_NotPlain:XC K (cl 8)
 J_NotPlain_NoFit_NoForm_NoneYet_NoPlace_NoShape_NotSound:PySem.W.kitAny K (.ref (cl 8)) [(.ref (cl 11)),(.ref (cl 2)),(.ref (cl 13)),(.ref (cl 3)),(.ref (cl 12)),(.ref (cl 10))]=some false
 J_Full_NoFit_NoForm_NoneYet_NoPlace_NoShape_NotSound:PySem.W.kitAny K (.ref (cl 5)) [(.ref (cl 11)),(.ref (cl 2)),(.ref (cl 13)),(.ref (cl 3)),(.ref (cl 12)),(.ref (cl 10))]=some false
 J_NotPlain_NotThree_NoWire_Open_TooLong_Twice:PySem.W.kitAny K (.ref (cl 8)) [(.ref (cl 9)),(.ref (cl 6)),(.ref (cl 7)),(.ref (cl 1)),(.ref (cl 4))]=some false
 J_Full_NotThree_NoWire_Open_TooLong_Twice:PySem.W.kitAny K (.ref (cl 5)) [(.ref (cl 9)),(.ref (cl 6)),(.ref (cl 7)),(.ref (cl 1)),(.ref (cl 4))]=some false
 I_NotPlain_ValueError:PySem.W.kitOne K (.ref (cl 8)) (.type "ValueError")=some true
 I_Full_ValueError:PySem.W.kitOne K (.ref (cl 5)) (.type "ValueError")=some true
 O_ValueError:PySem.W.kitOne K (.type "NoneType") (.type "ValueError")=some false
 I_NotPlain_NotPlain:PySem.W.kitOne K (.ref (cl 8)) (.ref (cl 8))=some true
 I_Full_NotPlain:PySem.W.kitOne K (.ref (cl 5)) (.ref (cl 8))=some false
 O_NotPlain:PySem.W.kitOne K (.type "NoneType") (.ref (cl 8))=some false
 I_NotPlain_Full:PySem.W.kitOne K (.ref (cl 8)) (.ref (cl 5))=some false
 I_Full_Full:PySem.W.kitOne K (.ref (cl 5)) (.ref (cl 5))=some true
 O_Full:PySem.W.kitOne K (.type "NoneType") (.ref (cl 5))=some false
 E_NotPlain_FaultError:PySem.W.exmOne K (.ref (cl 8)) (.ref (cl 0))=some true
 E_Full_FaultError:PySem.W.exmOne K (.ref (cl 5)) (.ref (cl 0))=some true
abbrev dO:Stmt:=top 17
noncomputable abbrev dP:List Str:=["net","width","ins_fit"]
noncomputable def lx:{b:List Stmt // bw dO=b}:=⟨_,by conv=>lhs;whnf⟩
noncomputable def d7:{b:Scope // aL dO=b}:=⟨_,by conv=>lhs;whnf⟩
theorem jy:bH dP ["net","width"] d7.1:=⟨rfl,rfl,rfl,by decide+kernel,rfl,by decide+kernel,by decide+kernel⟩
def jg:FS:=(rK (sH 2 (aV sr (aq (eNew (dA (di (e2 cu (ai 0) (eC (.int 0)))) (cj 0) iJ (e2 qC (e2 cu (ai 0) (eC (.int 1))) (ai 1)) ["told"] [1])) a_))) (rN (vw (ai 2) (aV sr (aq (eNew (dA (di (e2 cu (ai 0) (eC (.int 2)))) (j4 2 (dG (cj 0) (dG (cj 1) j5))) iJ (e2 qC (aV dR (aq (ai 1) a_)) (ai 2)) ["name","wires"] [1])) a_)))))
def cG:List D->R D:=zO dP jg
theorem nO(T:Tp K mg cl)(h:Def K mg "has_widths" dO):Callee P w K mg base 1 "has_widths" 2 cG:=by
 obtain⟨f,fd,F,hm⟩:=h;exact⟨f,fd,_,ml (k:=0) lx.2 d7.2 F jy (fun df A outer s H E hr=>(sf (uf jy.nd rfl (Or.inl rfl) (bL (yq rfl) rfl T.z_all PyProof.Rows.boot_all (ae (cX (eJ rfl (bN.of (own:=["told"]) (kp:=[1]) (kn:=["width"]) (sc:=d7.1) (N:=dP) rfl rfl (by decide+kernel)) (cO (bh (aa 0) ah (fun _ _=>rfl))) (fun _ _ _=>(bO (show List.Nodup [(Str.ofString "told"),"width"] from by decide+kernel) rfl (Or.inl rfl))) (fun _ _ _=>cK) (fun _ _ _=>(jx (oj hr.units) (bh (aa 0) ah (fun _ _=>rfl)) (aa 1) (cM _))))) av))) (oD (oW (xh (aa 2) (wo (bL (yq rfl) rfl T.z_all PyProof.Rows.boot_all (ae (cX (eJ rfl (bN.of (own:=["name","wires"]) (kp:=[1]) (kn:=["width"]) (sc:=d7.1) (N:=dP) rfl rfl (by decide+kernel)) (cO (bh (aa 0) ah (fun _ _=>rfl))) (fun _ _ _=>(i_ rfl (cR (bO (show List.Nodup [(Str.ofString "name"),"wires","width"] from by decide+kernel) rfl (Or.inl rfl)) (cR (bO (show List.Nodup [(Str.ofString "name"),"wires","width"] from by decide+kernel) rfl (Or.inl rfl)) hV)))) (fun _ _ _=>cK) (fun _ _ _=>(jx (oj hr.units) (bL eN rfl T.z_len PySem.boot_len (ae (aa 1) av)) (aa 2) (cM _))))) av)))))))),hm,F.kp,F.binds fun _ _ _ _ _ _ us hl=>match us,hl with | [_,_],_=>rfl⟩
abbrev dm:Stmt:=top 18
noncomputable abbrev cJ:List Str:=["net","times"]
noncomputable def kH:{b:List Stmt // bw dm=b}:=⟨_,by conv=>lhs;whnf⟩
noncomputable def gQ:{b:Scope // aL dm=b}:=⟨_,by conv=>lhs;whnf⟩
theorem lE:bH cJ ["net","times"] gQ.1:=⟨rfl,rfl,rfl,by decide+kernel,rfl,by decide+kernel,by decide+kernel⟩
def dh:FZ:=(aQ (kR (wc (bP (oQ (lF (aV cG (aq (ai 0) (aq (eC (.int 1)) a_))))))) (mO 8 (ji (ak (xP (eC (.str "a net with an in or an out of more than one wire"))) aZ))) ij) (kR (wc (bP (b2 sM (e2 eV (aV dR (aq (e2 cu (ai 0) (eC (.int 1))) a_)) (ai 1)) (eC c0)))) (mO 5 (ji (ak (xP (mI (qW (zE (ai 1)) (qW (eC (.str " gates in the place of each are too many")) zh)))) aZ))) ij))
def aD:List V3->aA->R3 V3:=jd cJ dh
def vz:List V3->aA->R3 V3:=mm cJ dh
theorem lB(T:Tp K mg cl)(h:Def K mg "check_makes" dm)(gr:Callee P w K mg base 1 "has_widths" 2 cG):cC P w K mg base cl 2 "check_makes" 2 aD:=by
 obtain⟨f,fd,F,hm⟩:=h;exact⟨f,fd,_,i5 (k:=1) kH.2 gQ.2 F lE (fun df A outer s H E hr=>(hZ (mz (cw (qH (kc (ib gr hr (by decide) rfl (ae (aa 0) (ae ah av)) (dy (dy i0)))))) (d9 (mi lT rfl T.X_NotPlain rfl T.M_NotPlain (eZ (ag (aj bI) aE)))) n8) (d9 (mz (cw (d8 rE (aR ix (bL eN rfl T.z_len PySem.boot_len (ae (bh (aa 0) ah (fun _ _=>rfl)) av)) (aa 1)) (u0 T.c0 rfl) (cM _))) (d9 (mi lT rfl T.X_Full rfl T.M_Full (eZ (ag (aj (pB (o9 (wL (aa 1)) (o9 bI w_)))) aE)))) n8)))),hm,F.kp,F.binds fun _ _ _ _ _ _ us hl=>match us,hl with | [_,_],_=>rfl⟩
abbrev dQ:Stmt:=top 19
noncomputable abbrev fU:List Str:=["first","many"]
noncomputable def lz:{b:List Stmt // bw dQ=b}:=⟨_,by conv=>lhs;whnf⟩
noncomputable def fA:{b:Scope // aL dQ=b}:=⟨_,by conv=>lhs;whnf⟩
theorem mQ:bH fU ["first","many"] fA.1:=⟨rfl,rfl,rfl,by decide+kernel,rfl,by decide+kernel,by decide+kernel⟩
def jc:FS:=(rN (aV iL (aq (eNew (dA (gf (ai 1)) (cj 0) iJ (e2 cL (ai 1) (ai 0)) ["step"] [0])) a_)))
def b_:List D->R D:=zO fU jc
theorem m4(T:Tp K mg cl)(h:Def K mg "next_wires" dQ):Callee P w K mg base 1 "next_wires" 2 b_:=by
 obtain⟨f,fd,F,hm⟩:=h;exact⟨f,fd,_,ml (k:=0) lz.2 fA.2 F mQ (fun df A outer s H E hr=>(oD (oW (d0 ke rfl T.z_tuple PyProof.Rows.boot_tuple (ae (cX (eJ rfl (bN.of (own:=["step"]) (kp:=[0]) (kn:=["first"]) (sc:=fA.1) (N:=fU) rfl rfl (by decide+kernel)) (eh (aa 1) rfl T.z_range) (fun _ _ _=>(bO (show List.Nodup [(Str.ofString "step"),"first"] from by decide+kernel) rfl (Or.inl rfl))) (fun _ _ _=>cK) (fun _ _ _=>(aR dY (aa 1) (aa 0))))) av))))),hm,F.kp,F.binds fun _ _ _ _ _ _ us hl=>match us,hl with | [_,_],_=>rfl⟩
abbrev gK:Stmt:=top 20
noncomputable abbrev dj:List Str:=["net","many","voted","top","stands","gates","gate","copies","step","votes","ins","outs"]
noncomputable def sL:{b:List Stmt // bw gK=b}:=⟨_,by conv=>lhs;whnf⟩
noncomputable def d3:{b:Scope // aL gK=b}:=⟨_,by conv=>lhs;whnf⟩
theorem dk:bH dj ["net","many","voted"] d3.1:=⟨rfl,rfl,rfl,by decide+kernel,rfl,by decide+kernel,by decide+kernel⟩
def kP:FZ:=(lA 5 (xT (f9 (aq (e2 cu (ai 6) (eC (.int 0))) (aq (aV iL (aq (eNew (dA (di (e2 cu (ai 6) (eC (.int 1)))) (cj 0) iJ (e2 cu (e2 cu (ai 1) (ai 0)) (ai 2)) ["wire"] [4,8])) a_)) (aq (e2 cu (ai 6) (eC (.int 2))) a_))))))
def iK:FZ:=(aQ (bA 7 (xT (aV b_ (aq (e2 cL (ai 3) (aV dR (aq (ai 5) a_))) (aq (ai 1) a_))))) (aQ (mR (iP (gf (ai 1))) (jw 8) kP) (kR (bP (lF (ai 2))) (aQ (bA 9 (xT (aV b_ (aq (e2 cL (ai 3) (aV dR (aq (ai 5) a_))) (aq (ai 1) a_))))) (aQ (vG 5 (xP (eNew (dA (di (ai 9)) (cj 0) iJ (f9 (aq (eC (.str "vote")) (aq (ai 2) (aq (e2 cu (ai 1) (eC (.int 2))) a_)))) ["wire"] [6,7])))) (lA 4 (xP (ai 9))))) (lA 4 (xP (ai 7))))))
def i7:FZ:=(aQ (bA 3 (xP (e2 eV (aV dR (aq (e2 cu (ai 0) (eC (.int 0))) a_)) (ai 1)))) (aQ (bA 4 (gB (dA (gf (aV dR (aq (e2 cu (ai 0) (eC (.int 0))) a_))) (cj 0) iJ (aV b_ (aq (e2 eV (ai 0) (ai 1)) (aq (ai 1) a_))) ["place"] [1]))) (aQ (bA 5 (gB (fu a_))) (aQ (mR (iP (di (e2 cu (ai 0) (eC (.int 1))))) (jw 6) iK) (aQ (bA 10 (gB (dA (di (e2 cu (ai 0) (eC (.int 0)))) (j4 2 (dG (cj 0) (dG (cj 1) j5))) iJ (f9 (aq (ai 0) (aq (ai 2) a_))) ["name","width"] [1]))) (aQ (bA 11 (qP (dA (di (e2 cu (ai 0) (eC (.int 2)))) (j4 2 (dG (cj 0) (dG (cj 1) j5))) iJ (f9 (aq (ai 0) (aq (e2 cu (ai 2) (e2 cu (ai 1) (eC (.int 0)))) a_))) ["name","wires"] [4]))) (eT (j7 (ak (bz 10) (ak (bz 5) (ak (bz 11) aZ)))))))))))
def sg:List V3->aA->R3 V3:=jd dj i7
def eF:List V3->aA->R3 V3:=mm dj i7
theorem vK(T:Tp K mg cl)(h:Def K mg "copied" gK)(dU:Callee P w K mg base 1 "next_wires" 2 b_):bZ P w K mg base cl 2 "copied" 3 sg:=by
 obtain⟨f,fd,F,hm⟩:=h;exact⟨f,fd,_,ei (k:=1) sL.2 d3.2 F dk (fun df A outer s H E hr=>(au (bq dk.nd rfl (Or.inl rfl) (aj (aR ix (bL eN rfl T.z_len PySem.boot_len (ae (bh (aa 0) ah (fun _ _=>rfl)) av)) (aa 1)))) (au (bq dk.nd rfl (Or.inr rfl) (fy (eJ rfl (bN.of (own:=["place"]) (kp:=[1]) (kn:=["many"]) (sc:=d3.1) (N:=dj) rfl rfl (by decide+kernel)) (eh (bL eN rfl T.z_len PySem.boot_len (ae (bh (aa 0) ah (fun _ _=>rfl)) av)) rfl T.z_range) (fun _ _ _=>(bO (show List.Nodup [(Str.ofString "place"),"many"] from by decide+kernel) rfl (Or.inl rfl))) (fun _ _ _=>cK) (fun _ _ _=>(ib dU hr (by decide) rfl (ae (aR ix (aa 0) (aa 1)) (ae (aa 1) av)) (dy (dy i0))))))) (au (bq dk.nd rfl (Or.inl rfl) (fy (cZ av))) (au (jG PassesOwn.never rfl (fJ (cO (bh (aa 0) ah (fun _ _=>rfl)))) (bG dk.nd rfl (Or.inr rfl)) (au (bq dk.nd rfl (Or.inr rfl) (c9 (ib dU hr (by decide) rfl (ae (aR dY (aa 3) (bL eN rfl T.z_len PySem.boot_len (ae (aa 5) av))) (ae (aa 1) av)) (dy (dy i0))))) (au (jG PassesOwn.never rfl (fJ (eh (aa 1) rfl T.z_range)) (bG dk.nd rfl (Or.inr rfl)) (bg (jE rfl (Or.inl rfl) (c9 (dI (ae (bh (aa 6) ah (fun _ _=>rfl)) (ae (d0 ke rfl T.z_tuple PyProof.Rows.boot_tuple (ae (cX (eJ rfl (bN.of (own:=["wire"]) (kp:=[4,8]) (kn:=["stands","step"]) (sc:=d3.1) (N:=dj) rfl rfl (by decide+kernel)) (cO (bh (aa 6) ah (fun _ _=>rfl))) (fun _ _ _=>(bO (show List.Nodup [(Str.ofString "wire"),"stands","step"] from by decide+kernel) rfl (Or.inl rfl))) (fun _ _ _=>cK) (fun _ _ _=>(bh (bh (aa 1) (aa 0) (fun _ _=>rfl)) (aa 2) (fun _ _=>rfl))))) av)) (ae (bh (aa 6) ah (fun _ _=>rfl)) av)))))))) (bg (jb (cw (kc (aa 2))) (au (bq dk.nd rfl (Or.inl rfl) (c9 (ib dU hr (by decide) rfl (ae (aR dY (aa 3) (bL eN rfl T.z_len PySem.boot_len (ae (aa 5) av))) (ae (aa 1) av)) (dy (dy i0))))) (au (zo rfl (Or.inl rfl) (aj (cX (eJ rfl (bN.of (own:=["wire"]) (kp:=[6,7]) (kn:=["gate","copies"]) (sc:=d3.1) (N:=dj) rfl rfl (by decide+kernel)) (cO (aa 9)) (fun _ _ _=>(bO (show List.Nodup [(Str.ofString "wire"),"gate","copies"] from by decide+kernel) rfl (Or.inl rfl))) (fun _ _ _=>cK) (fun _ _ _=>(dI (ae bI (ae (aa 2) (ae (bh (aa 1) ah (fun _ _=>rfl)) av))))))))) (bg (jE rfl (Or.inr (Or.inl rfl)) (aj (aa 9)))))) (bg (jE rfl (Or.inr (Or.inl rfl)) (aj (aa 7))))))))) (au (jX rfl dk.nd rfl rfl (bN.of (own:=["name","width"]) (kp:=[1]) (kn:=["many"]) (sc:=d3.1) (N:=dj) rfl rfl (by decide+kernel)) (cO (bh (aa 0) ah (fun _ _=>rfl))) (fun _ _ _=>(i_ rfl (cR (bO (show List.Nodup [(Str.ofString "name"),"width","many"] from by decide+kernel) rfl (Or.inl rfl)) (cR (bO (show List.Nodup [(Str.ofString "name"),"width","many"] from by decide+kernel) rfl (Or.inl rfl)) hV)))) (fun _ _ _=>cK) (fun _ _ _=>(dI (ae (aa 0) (ae (aa 2) av))))) (au (n_ rfl dk.nd rfl rfl (bN.of (own:=["name","wires"]) (kp:=[4]) (kn:=["stands"]) (sc:=d3.1) (N:=dj) rfl rfl (by decide+kernel)) (cO (bh (aa 0) ah (fun _ _=>rfl))) (fun _ _ _=>(i_ rfl (cR (bO (show List.Nodup [(Str.ofString "name"),"wires","stands"] from by decide+kernel) rfl (Or.inl rfl)) (cR (bO (show List.Nodup [(Str.ofString "name"),"wires","stands"] from by decide+kernel) rfl (Or.inl rfl)) hV)))) (fun _ _ _=>cK) (fun _ _ _=>(dI (ae (aa 0) (ae (bh (aa 2) (bh (aa 1) ah (fun _ _=>rfl)) (fun _ _=>rfl)) av))))) (bg (dD (jP (ag (bj 10) (ag (bj 5) (ag (bj 11) aE))))))))))))),hm,F.kp,F.binds fun _ _ _ _ _ _ us hl=>match us,hl with | [_,_,_],_=>rfl⟩
abbrev ef:Stmt:=top 21
noncomputable abbrev eg:List Str:=["net"]
noncomputable def mK:{b:List Stmt // bw ef=b}:=⟨_,by conv=>lhs;whnf⟩
noncomputable def i8:{b:Scope // aL ef=b}:=⟨_,by conv=>lhs;whnf⟩
theorem n6:bH eg ["net"] i8.1:=⟨rfl,rfl,rfl,by decide+kernel,rfl,by decide+kernel,by decide+kernel⟩
def eY:FZ:=(aQ (l6 (bb aD (ji (ak (xP (ai 0)) (ak (xP (eC (.int 3))) aZ))))) (Bs (eT (bb eF (ak (xP (ai 0)) (ak (xP (eC (.int 3))) (ak (xP (eC (.bl false))) aZ)))))))
def cF:List V3->aA->R3 V3:=jd eg eY
def xU:List V3->aA->R3 V3:=mm eg eY
theorem oz(T:Tp K mg cl)(h:Def K mg "in_threes" ef)(bK:cC P w K mg base cl 2 "check_makes" 2 aD)(c_:bZ P w K mg base cl 2 "copied" 3 eF):cC P w K mg base cl 3 "in_threes" 1 cF:=by
 obtain⟨f,fd,F,hm⟩:=h;exact⟨f,fd,_,i5 (k:=2) mK.2 i8.2 F n6 (fun df A outer s H E hr=>(hZ (ko (fN jO bK hr (by decide) rfl (eZ (ag (aj (aa 0)) (ag (aj ah) aE))) (hJ (ao (ao aM))))) (m6 (bg (dD (bE c_ hr (by decide) rfl (ag (aj (aa 0)) (ag (aj ah) (ag (aj kT) aE))) (ao (ao (ao aM))))))))),hm,F.kp,F.binds fun _ _ _ _ _ _ us hl=>match us,hl with | [_],_=>rfl⟩
abbrev eR:Stmt:=top 22
noncomputable abbrev eQ:List Str:=["net"]
noncomputable def nW:{b:List Stmt // bw eR=b}:=⟨_,by conv=>lhs;whnf⟩
noncomputable def jV:{b:Scope // aL eR=b}:=⟨_,by conv=>lhs;whnf⟩
theorem qh:bH eQ ["net"] jV.1:=⟨rfl,rfl,rfl,by decide+kernel,rfl,by decide+kernel,by decide+kernel⟩
def fR:FZ:=(aQ (l6 (bb aD (ji (ak (xP (ai 0)) (ak (xP (eC (.int 2))) aZ))))) (Bs (eT (bb eF (ak (xP (ai 0)) (ak (xP (eC (.int 2))) (ak (xP (eC (.bl false))) aZ)))))))
def cQ:List V3->aA->R3 V3:=jd eQ fR
def yl:List V3->aA->R3 V3:=mm eQ fR
theorem pE(T:Tp K mg cl)(h:Def K mg "in_pairs" eR)(bK:cC P w K mg base cl 2 "check_makes" 2 aD)(c_:bZ P w K mg base cl 2 "copied" 3 eF):cC P w K mg base cl 3 "in_pairs" 1 cQ:=by
 obtain⟨f,fd,F,hm⟩:=h;exact⟨f,fd,_,i5 (k:=2) nW.2 jV.2 F qh (fun df A outer s H E hr=>(hZ (ko (fN jO bK hr (by decide) rfl (eZ (ag (aj (aa 0)) (ag (aj ah) aE))) (hJ (ao (ao aM))))) (m6 (bg (dD (bE c_ hr (by decide) rfl (ag (aj (aa 0)) (ag (aj ah) (ag (aj kT) aE))) (ao (ao (ao aM))))))))),hm,F.kp,F.binds fun _ _ _ _ _ _ us hl=>match us,hl with | [_],_=>rfl⟩
abbrev dM:Stmt:=top 23
noncomputable abbrev dJ:List Str:=["net"]
noncomputable def lD:{b:List Stmt // bw dM=b}:=⟨_,by conv=>lhs;whnf⟩
noncomputable def ip:{b:Scope // aL dM=b}:=⟨_,by conv=>lhs;whnf⟩
theorem nK:bH dJ ["net"] ip.1:=⟨rfl,rfl,rfl,by decide+kernel,rfl,by decide+kernel,by decide+kernel⟩
def eE:FZ:=(aQ (l6 (bb aD (ji (ak (xP (ai 0)) (ak (xP (eC (.int 6))) aZ))))) (Bs (eT (bb eF (ak (xP (ai 0)) (ak (xP (eC (.int 3))) (ak (xP (eC (.bl true))) aZ)))))))
def cm:List V3->aA->R3 V3:=jd dJ eE
def v_:List V3->aA->R3 V3:=mm dJ eE
theorem mH(T:Tp K mg cl)(h:Def K mg "with_votes" dM)(bK:cC P w K mg base cl 2 "check_makes" 2 aD)(c_:bZ P w K mg base cl 2 "copied" 3 eF):cC P w K mg base cl 3 "with_votes" 1 cm:=by
 obtain⟨f,fd,F,hm⟩:=h;exact⟨f,fd,_,i5 (k:=2) lD.2 ip.2 F nK (fun df A outer s H E hr=>(hZ (ko (fN jO bK hr (by decide) rfl (eZ (ag (aj (aa 0)) (ag (aj ah) aE))) (hJ (ao (ao aM))))) (m6 (bg (dD (bE c_ hr (by decide) rfl (ag (aj (aa 0)) (ag (aj ah) (ag (aj kT) aE))) (ao (ao (ao aM))))))))),hm,F.kp,F.binds fun _ _ _ _ _ _ us hl=>match us,hl with | [_],_=>rfl⟩
abbrev eI:Stmt:=top 25
noncomputable abbrev fS:List Str:=["pot","many","cell","stir"]
noncomputable def oG:{b:List Stmt // bw eI=b}:=⟨_,by conv=>lhs;whnf⟩
noncomputable def j3:{b:Scope // aL eI=b}:=⟨_,by conv=>lhs;whnf⟩
theorem fZ:bH fS ["pot","many"] j3.1:=⟨rfl,rfl,rfl,by decide+kernel,rfl,by decide+kernel,by decide+kernel⟩
def iG:FZ:=(aQ (m5 (bz 0) (xP (eC (.int 1))) (xT (e2 cL (e2 cu (ai 0) (eC (.int 1))) (eC (.int 1))))) (aQ (bA 2 (xT (e2 cu (ai 0) (eC (.int 0))))) (aQ (kR (bP (b2 Gp (ai 2) (e2 Cd (eC (.int 10)) (eC (.int 18))))) (aQ (m5 (bz 0) (xP (eC (.int 0))) (xP (e2 jY (ai 2) (ai 1)))) (eT (xP (e2 jn (ai 2) (ai 1))))) ij) (aQ (bA 3 (xT (e2 jn (e2 cL (e2 cL (e2 eV (ai 2) (eC (.int 69621))) (e2 eV (e2 cu (ai 0) (eC (.int 1))) (eC (.int 7919)))) (eC (.int 13))) (eC (.int 2147483647))))) (aQ (bA 3 (xP (e2 jn (e2 eV (ai 3) (ai 3)) (eC (.int 2147483629))))) (eT (xT (e2 jn (e2 jY (e2 jn (e2 cL (e2 eV (ai 3) (eC (.int 48271))) (e2 eV (e2 cu (ai 0) (eC (.int 1))) (eC (.int 40692)))) (eC (.int 2147483587))) (eC (.int 8))) (ai 1)))))))))
def og:List V3->aA->R3 V3:=jd fS iG
def az:List V3->aA->R3 V3:=mm fS iG
theorem qj(T:Tp K mg cl)(h:Def K mg "_law_next" eI):bZ P w K mg base cl 1 "_law_next" 2 og:=by
 obtain⟨f,fd,F,hm⟩:=h;exact⟨f,fd,_,ei (k:=0) oG.2 j3.2 F fZ (fun df A outer s H E hr=>(au (m8 (c9 (aR dY (bh (aa 0) ah (fun _ _=>rfl)) ah)) (mW (PX.go (bj 0)) (PX.go (aj ah)) set_list)) (au (bq fZ.nd rfl (Or.inl rfl) (c9 (bh (aa 0) ah (fun _ _=>rfl)))) (au (jb (cw (d8 DX (aa 2) (aR Cv ah ah) (cM _))) (au (m8 (aj (aR nH (aa 2) (aa 1))) (mW (PX.go (bj 0)) (PX.go (aj ah)) set_list)) (bg (dD (aj (aR jW (aa 2) (aa 1)))))) fW) (au (bq fZ.nd rfl (Or.inl rfl) (c9 (aR jW (aR dY (aR dY (aR ix (aa 2) ah) (aR ix (bh (aa 0) ah (fun _ _=>rfl)) ah)) ah) ah))) (au (bq fZ.nd rfl (Or.inl rfl) (aj (aR jW (aR ix (aa 3) (aa 3)) ah))) (bg (dD (c9 (aR jW (aR nH (aR jW (aR dY (aR ix (aa 3) ah) (aR ix (bh (aa 0) ah (fun _ _=>rfl)) ah)) ah) ah) (aa 1))))))))))),hm,F.kp,F.binds fun _ _ _ _ _ _ us hl=>match us,hl with | [_,_],_=>rfl⟩
abbrev eM:Stmt:=top 26
noncomputable abbrev eO:List Str:=["script"]
noncomputable def o4:{b:List Stmt // bw eM=b}:=⟨_,by conv=>lhs;whnf⟩
noncomputable def gR:{b:Scope // aL eM=b}:=⟨_,by conv=>lhs;whnf⟩
theorem qk:bH eO ["script"] gR.1:=⟨rfl,rfl,rfl,by decide+kernel,rfl,by decide+kernel,by decide+kernel⟩
def iQ:FZ:=(aQ (kR (bP (b2 qC (aV dR (aq (ai 0) a_)) (eC (.int 0)))) (eT (p7 (ak (gB (fu (aq (eC (.int 0)) (aq (eC (.int 0)) a_)))) aZ))) ij) (eT (iu (iP (di (Be (ai 0) rl (qT (eC (.int 63)))))) (jw 0) pL (gB (fu (aq (ai 0) (aq (eC (.int 0)) a_)))) ["cell"] [])))
def e8:List V3->aA->R3 V3:=jd eO iQ
def ym:List V3->aA->R3 V3:=mm eO iQ
theorem qc(T:Tp K mg cl)(h:Def K mg "_law_pots" eM):bZ P w K mg base cl 1 "_law_pots" 1 e8:=by
 obtain⟨f,fd,F,hm⟩:=h;exact⟨f,fd,_,ei (k:=0) o4.2 gR.2 F qk (fun df A outer s H E hr=>(au (jb (cw (d8 (oj hr.units) (bL eN rfl T.z_len PySem.boot_len (ae (aa 0) av)) ah (cM _))) (bg (dD (qe (ag (fy (cZ (ae ah (ae ah av)))) aE)))) fW) (bg (dD (xq rfl (bN.of (own:=["cell"]) (kp:=[]) (kn:=[]) (sc:=gR.1) (N:=eO) rfl rfl (by decide+kernel)) (fJ (cO (uF (aa 0) oi (oR ah)))) (fun _ _ _=>(bG (show List.Nodup [(Str.ofString "cell")] from by decide+kernel) rfl (Or.inl rfl))) (fun _ _ _=>jF) (fun _ _ _=>(fy (cZ (ae (aa 0) (ae ah av)))))))))),hm,F.kp,F.binds fun _ _ _ _ _ _ us hl=>match us,hl with | [_],_=>rfl⟩
abbrev ec:Stmt:=top 27
noncomputable abbrev dz:List Str:=["pot","most","gates","names","turn","ins","heard","k","many","kind","count","wires","outs","wire"]
noncomputable def ng:{b:List Stmt // bw ec=b}:=⟨_,by conv=>lhs;whnf⟩
noncomputable def eD:{b:Scope // aL ec=b}:=⟨_,by conv=>lhs;whnf⟩
theorem bx:bH dz ["pot","most","gates"] eD.1:=⟨rfl,rfl,rfl,by decide+kernel,rfl,by decide+kernel,by decide+kernel⟩
def ft:FZ:=(aQ (bA 8 (xP (e2 cL (aV dR (aq (ai 5) a_)) (ai 7)))) (aQ (bA 9 (qX (xP (eNew (fu (aq (eC (.str "not")) (aq (eC (.str "and")) (aq (eC (.str "or")) (aq (eC (.str "xor")) (aq (eC (.str "vote")) (aq (eC (.str "and")) (aq (eC (.str "or")) (aq (eC (.str "xor")) a_))))))))))) (bb az (ak (bz 0) (ak (xP (eC (.int 8))) aZ))))) (aQ (bA 10 (xP (zH [((Sum.inr "not":Key),V.int 1),((Sum.inr "vote":Key),V.int 3)] (ai 9) (eC (.int 2))))) (aQ (bA 11 (iu (iP (gf (ai 10))) (jw 0) pL (x2 pR (xP (e2 pR (ai 2) (eC (.int 1)))) (bb az (ak (bz 1) (ak (xP (e2 cu (eNew (fu (aq (ai 2) (aq (aV l5 (aq (ai 2) (aq (eC (.int 4)) a_))) a_)))) (e2 jn (ai 0) (eC (.int 2))))) aZ)))) ["j"] [0,8])) (lA 6 (j7 (ak (xP (ai 9)) (ak (xP (aV iL (aq (ai 11) a_))) (ak (x2 qC (bb az (ak (bz 0) (ak (xP (eC (.int 6))) aZ))) (xP (eC (.int 0)))) aZ)))))))))
def fD:FZ:=(aQ (bA 8 (xT (e2 cL (aV dR (aq (ai 5) a_)) (aV dR (aq (ai 6) a_))))) (aQ (bA 13 (x2 pR (xP (e2 pR (ai 8) (eC (.int 1)))) (bb az (ak (bz 0) (ak (xP (e2 cu (eNew (fu (aq (ai 8) (aq (aV l5 (aq (ai 8) (aq (eC (.int 4)) a_))) a_)))) (e2 jn (ai 7) (eC (.int 2))))) aZ))))) (lA 12 (xP (f9 (aq (e2 cu (eNew (fu (aq (eC (.str "p")) (aq (eC (.str "ou")) (aq (eC (.str "result")) (aq (eC (.str "q")) (aq (eC (.str "abcdefgh")) (aq (eC (.str "z")) a_)))))))) (ai 7)) (aq (f9 (aq (ai 13) a_)) a_)))))))
def gT:FZ:=(aQ (bA 3 (xP (eNew (fu (aq (eC (.str "a")) (aq (eC (.str "bb")) (aq (eC (.str "signal")) (aq (eC (.str "x")) (aq (eC (.str "yes")) (aq (eC (.str "abcdefgh")) a_)))))))))) (aQ (bA 4 (bb az (ak (bz 0) (ak (xP (eC (.int 6))) aZ)))) (aQ (bA 5 (iu (md (x2 cL (xP (eC (.int 1))) (bb az (ak (bz 0) (ak (xP (ai 1)) aZ))))) (jw 0) pL (xP (f9 (aq (e2 cu (ai 1) (e2 jn (e2 cL (ai 2) (ai 0)) (eC (.int 6)))) (aq (eC (.int 1)) a_)))) ["k"] [3,4])) (aQ (bA 6 (gB (fu a_))) (aQ (mR (iP (gf (ai 2))) (jw 7) ft) (aQ (bA 12 (gB (fu a_))) (aQ (mR (md (x2 cL (xP (eC (.int 1))) (bb az (ak (bz 0) (ak (xP (eC (.int 6))) aZ))))) (jw 7) fD) (eT (j7 (ak (bz 5) (ak (bz 6) (ak (bz 12) aZ))))))))))))
def nq:List V3->aA->R3 V3:=jd dz gT
def f7:List V3->aA->R3 V3:=mm dz gT
theorem oO(T:Tp K mg cl)(h:Def K mg "_law_plain" ec)(aN:bZ P w K mg base cl 1 "_law_next" 2 az):bZ P w K mg base cl 2 "_law_plain" 3 nq:=by
 obtain⟨f,fd,F,hm⟩:=h;exact⟨f,fd,_,ei (k:=1) ng.2 eD.2 F bx (fun df A outer s H E hr=>(au (bq bx.nd rfl (Or.inr rfl) (aj (cX (cZ (ae bI (ae bI (ae bI (ae bI (ae bI (ae bI av)))))))))) (au (bq bx.nd rfl (Or.inr rfl) (bE aN hr (by decide) rfl (ag (bj 0) (ag (aj ah) aE)) (ao (ao aM)))) (au (kM rfl bx.nd rfl rfl (bN.of (own:=["k"]) (kp:=[3,4]) (kn:=["names","turn"]) (sc:=eD.1) (N:=dz) rfl rfl (by decide+kernel)) (kU (k4 dY (aj ah) (bE aN hr (by decide) rfl (ag (bj 0) (ag (aj (aa 1)) aE)) (ao (ao aM)))) rfl T.z_range) (fun _ _ _=>(bG (show List.Nodup [(Str.ofString "k"),"names","turn"] from by decide+kernel) rfl (Or.inl rfl))) (fun _ _ _=>jF) (fun _ _ _=>(aj (dI (ae (bh (aa 1) (aR jW (aR dY (aa 2) (aa 0)) ah) (fun _ _=>rfl)) (ae ah av)))))) (au (bq bx.nd rfl (Or.inl rfl) (fy (cZ av))) (au (jG PassesOwn.never rfl (fJ (eh (aa 2) rfl T.z_range)) (bG bx.nd rfl (Or.inl rfl)) (au (bq bx.nd rfl (Or.inr rfl) (aj (aR dY (bL eN rfl T.z_len PySem.boot_len (ae (aa 5) av)) (aa 7)))) (au (bq bx.nd rfl (Or.inl rfl) (tJ (aj (cX (cZ (ae bI (ae bI (ae bI (ae bI (ae bI (ae bI (ae bI (ae bI av))))))))))) (bE aN hr (by decide) rfl (ag (bj 0) (ag (aj ah) aE)) (ao (ao aM))) (fun _ _=>rfl))) (au (bq bx.nd rfl (Or.inl rfl) (aj (wA (BF hr) (jt kG ky (jt kG ky qG)) rfl rfl (by simp) (fun _ _ _ h=>h) (by decide) (aa 9) ah ⟨rfl,rfl,rfl,rfl⟩ (xy (jt kG ky (jt kG ky qG)) rfl rfl (by simp) (by decide))))) (au (kM rfl bx.nd rfl rfl (bN.of (own:=["j"]) (kp:=[0,8]) (kn:=["pot","many"]) (sc:=eD.1) (N:=dz) rfl rfl (by decide+kernel)) (fJ (eh (aa 10) rfl T.z_range)) (fun _ _ _=>(bG (show List.Nodup [(Str.ofString "j"),"pot","many"] from by decide+kernel) rfl (Or.inl rfl))) (fun _ _ _=>jF) (fun _ _ _=>(k4 qO (aj (aR qO (aa 2) ah)) (bE aN hr (by decide) rfl (ag (bj 1) (ag (aj (bh (cX (cZ (ae (aa 2) (ae (bL (tO rfl) rfl T.z_min PyProof.Rows.boot_min (ae (aa 2) (ae ah av))) av)))) (aR jW (aa 0) ah) (fun _ _=>rfl))) aE)) (ao (ao aM)))))) (bg (jE rfl (Or.inl rfl) (jP (ag (aj (aa 9)) (ag (aj (d0 ke rfl T.z_tuple PyProof.Rows.boot_tuple (ae (aa 11) av))) (ag (zZ (oj hr.units) (bE aN hr (by decide) rfl (ag (bj 0) (ag (aj ah) aE)) (ao (ao aM))) (aj ah) (cM _)) aE))))))))))) (au (bq bx.nd rfl (Or.inl rfl) (fy (cZ av))) (au (jG PassesOwn.never rfl (kU (k4 dY (aj ah) (bE aN hr (by decide) rfl (ag (bj 0) (ag (aj ah) aE)) (ao (ao aM)))) rfl T.z_range) (bG bx.nd rfl (Or.inl rfl)) (au (bq bx.nd rfl (Or.inr rfl) (c9 (aR dY (bL eN rfl T.z_len PySem.boot_len (ae (aa 5) av)) (bL eN rfl T.z_len PySem.boot_len (ae (aa 6) av))))) (au (bq bx.nd rfl (Or.inl rfl) (k4 qO (aj (aR qO (aa 8) ah)) (bE aN hr (by decide) rfl (ag (bj 0) (ag (aj (bh (cX (cZ (ae (aa 8) (ae (bL (tO rfl) rfl T.z_min PyProof.Rows.boot_min (ae (aa 8) (ae ah av))) av)))) (aR jW (aa 7) ah) (fun _ _=>rfl))) aE)) (ao (ao aM))))) (bg (jE rfl (Or.inl rfl) (aj (dI (ae (bh (cX (cZ (ae bI (ae bI (ae bI (ae bI (ae bI (ae bI av)))))))) (aa 7) (fun _ _=>rfl)) (ae (dI (ae (aa 13) av)) av))))))))) (bg (dD (jP (ag (bj 5) (ag (bj 6) (ag (bj 12) aE)))))))))))))),hm,F.kp,F.binds fun _ _ _ _ _ _ us hl=>match us,hl with | [_,_,_],_=>rfl⟩
abbrev eL:Stmt:=top 28
noncomputable abbrev gb:List Str:=["net","ins","gates","outs"]
noncomputable def oB:{b:List Stmt // bw eL=b}:=⟨_,by conv=>lhs;whnf⟩
noncomputable def j0:{b:Scope // aL eL=b}:=⟨_,by conv=>lhs;whnf⟩
theorem fT:bH gb ["net"] j0.1:=⟨rfl,rfl,rfl,by decide+kernel,rfl,by decide+kernel,by decide+kernel⟩
def iM:FZ:=(aQ (sI (xP (ai 0)) (Ay 3 (nU (jw 1) (nU (jw 2) (nU (jw 3) zm))))) (eT (j7 (ak (gB (nList (ai 1))) (ak (gB (nList (ai 2))) (ak (gB (nList (ai 3))) aZ))))))
def d_:List V3->aA->R3 V3:=jd gb iM
def gM:List V3->aA->R3 V3:=mm gb iM
theorem pS(T:Tp K mg cl)(h:Def K mg "_law_copy" eL):bZ P w K mg base cl 1 "_law_copy" 1 d_:=by
 obtain⟨f,fd,F,hm⟩:=h;exact⟨f,fd,_,ei (k:=0) oB.2 j0.2 F fT (fun df A outer s H E hr=>(au (qa (aj (aa 0)) (mE rfl (cx (bG fT.nd rfl (Or.inl rfl)) (cx (bG fT.nd rfl (Or.inl rfl)) (cx (bG fT.nd rfl (Or.inl rfl)) js))))) (bg (dD (jP (ag (fy (kx (aa 1) rfl T.z_list)) (ag (fy (kx (aa 2) rfl T.z_list)) (ag (fy (kx (aa 3) rfl T.z_list)) aE)))))))),hm,F.kp,F.binds fun _ _ _ _ _ _ us hl=>match us,hl with | [_],_=>rfl⟩
abbrev er:Stmt:=top 29
noncomputable abbrev eW:List Str:=["way","net","heard","e","others"]
noncomputable def nj:{b:List Stmt // bw er=b}:=⟨_,by conv=>lhs;whnf⟩
noncomputable def jz:{b:Scope // aL er=b}:=⟨_,by conv=>lhs;whnf⟩
theorem bS:bH eW ["way","net"] jz.1:=⟨rfl,rfl,rfl,by decide+kernel,rfl,by decide+kernel,by decide+kernel⟩
def gG:FZ:=(aQ (bA 2 (xP (k8 (eC (.int 3))))) (aQ (kB (kR (wc (bP (b2 qC (ai 0) (eC (.int 0))))) (bA 2 (d4 dR (ak (qX (bb cQ (ji (ak (xP (ai 1)) aZ))) (yz (xP (eC (.int 1))))) aZ))) (kR (wc (bP (b2 qC (ai 0) (eC (.int 1))))) (bA 2 (d4 dR (ak (qX (bb cF (ji (ak (xP (ai 1)) aZ))) (yz (xP (eC (.int 1))))) aZ))) (bA 2 (d4 dR (ak (qX (bb cm (ji (ak (xP (ai 1)) aZ))) (yz (xP (eC (.int 1))))) aZ))))) (fun c=>[5,8].contains c) 3 (aQ (bA 2 (xP (k8 (eC (.int 3))))) (aQ (bA 4 (rJ (bz 3) (qD [(5,false),(8,false)]))) (aQ (bA 4 (Dq (xP (ai 4)) (rJ (bz 3) (qD [(5,false),(8,false)])))) (kR (sF (uu (lr (bz 3) (qD [(5,true),(8,true)]))) (sF (bP (oQ (lF (ai 4)))) (Bj v7 (lr (bz 3) (qD [(5,false),(8,true)])) (lr (bz 3) (qD [(5,true),(8,false)]))))) (bA 2 (qX (xP (eNew (fu (aq (k8 (eC (.int 2))) (aq (k8 (eC (.int 1))) a_))))) (d4 jZ (ak (lr (bz 3) (qD [(5,false),(8,true)])) aZ)))) ij))))) (eT (xP (ai 2)))))
def nF:List V3->aA->R3 V3:=jd eW gG
def gd:List V3->aA->R3 V3:=mm eW gG
theorem o8(T:Tp K mg cl)(h:Def K mg "_law_asked" er)(gW:cC P w K mg base cl 3 "in_pairs" 1 cQ)(gp:cC P w K mg base cl 3 "in_threes" 1 cF)(fE:cC P w K mg base cl 3 "with_votes" 1 cm):bZ P w K mg base cl 4 "_law_asked" 2 nF:=by
 obtain⟨f,fd,F,hm⟩:=h;exact⟨f,fd,_,ei (k:=3) nj.2 jz.2 F bS (fun df A outer s H E hr=>(au (bq bS.nd rfl (Or.inl rfl) (aj (g9 ah))) (au (AK rfl rfl rfl (B0 (q_ T.E_Full_FaultError (q_ T.E_NotPlain_FaultError zI))) rfl T.M_FaultError bS.nd rfl rfl (fun pn xe E hp=>(d9 (mz (cw (d8 (oj hr.units) (aa 0) ah (cM _))) (d9 (mL bS.nd rfl (Or.inl rfl) (jJ eN rfl T.z_len PySem.boot_len (kq (pT (fN hp gW hr (by decide) rfl (eZ (ag (aj (aa 1)) aE)) (hJ (ao aM))) (aj ah) (fun _ _=>rfl)))))) (d9 (mz (cw (d8 (oj hr.units) (aa 0) ah (cM _))) (d9 (mL bS.nd rfl (Or.inl rfl) (jJ eN rfl T.z_len PySem.boot_len (kq (pT (fN hp gp hr (by decide) rfl (eZ (ag (aj (aa 1)) aE)) (hJ (ao aM))) (aj ah) (fun _ _=>rfl)))))) (d9 (mL bS.nd rfl (Or.inl rfl) (jJ eN rfl T.z_len PySem.boot_len (kq (pT (fN hp fE hr (by decide) rfl (eZ (ag (aj (aa 1)) aE)) (hJ (ao aM))) (aj ah) (fun _ _=>rfl))))))))))) (fun a pn=>(au (bq bS.nd rfl (Or.inl rfl) (aj (g9 ah))) (au (bq bS.nd rfl (Or.inl rfl) (tF (bj 3) (bV (cA (v:= .ref (cl 11)) rfl T.M_NoFit rfl) (bV (cA (v:= .ref (cl 2)) rfl T.M_NoForm rfl) (bV (cA (v:= .ref (cl 13)) rfl T.M_NoneYet rfl) (bV (cA (v:= .ref (cl 3)) rfl T.M_NoPlace rfl) (bV (cA (v:= .ref (cl 12)) rfl T.M_NoShape rfl) (bV (cA (v:= .ref (cl 10)) rfl T.M_NotSound rfl) l9)))))) rfl (by show 6<=sizeLine;decide) rfl T.z_isinstance (kF (dq ⟨T.X_Full,T.J_Full_NoFit_NoForm_NoneYet_NoPlace_NoShape_NotSound⟩ (dq ⟨T.X_NotPlain,T.J_NotPlain_NoFit_NoForm_NoneYet_NoPlace_NoShape_NotSound⟩ jM))))) (au (bq bS.nd rfl (Or.inl rfl) (Cq (aj (aa 4)) (zD (tF (bj 3) (bV (cA (v:= .ref (cl 9)) rfl T.M_NotThree rfl) (bV (cA (v:= .ref (cl 6)) rfl T.M_NoWire rfl) (bV (cA (v:= .ref (cl 7)) rfl T.M_Open rfl) (bV (cA (v:= .ref (cl 1)) rfl T.M_TooLong rfl) (bV (cA (v:= .ref (cl 4)) rfl T.M_Twice rfl) l9))))) rfl (by show 5<=sizeLine;decide) rfl T.z_isinstance (kF (dq ⟨T.X_Full,T.J_Full_NotThree_NoWire_Open_TooLong_Twice⟩ (dq ⟨T.X_NotPlain,T.J_NotPlain_NotThree_NoWire_Open_TooLong_Twice⟩ jM))))))) (bg (jb (v8.pb (rB (vh (nJ (bj 3) (xD (v:= .ty "ValueError") rfl T.z_ValueError PyProof.Rows.Boot.«ValueError» rfl) rfl rfl T.z_isinstance (kF (dq ⟨T.X_Full,T.I_Full_ValueError⟩ (dq ⟨T.X_NotPlain,T.I_NotPlain_ValueError⟩ jM))) T.O_ValueError)) (rB (cw (qH (kc (aa 4)))) (sZ (rp (zP hr.units) (nJ (bj 3) (cA (v:= .ref (cl 8)) rfl T.M_NotPlain rfl) rfl rfl T.z_isinstance (kF (dq ⟨T.X_Full,T.I_Full_NotPlain⟩ (dq ⟨T.X_NotPlain,T.I_NotPlain_NotPlain⟩ jM))) T.O_NotPlain) (nJ (bj 3) (cA (v:= .ref (cl 5)) rfl T.M_Full rfl) rfl rfl T.z_isinstance (kF (dq ⟨T.X_Full,T.I_Full_Full⟩ (dq ⟨T.X_NotPlain,T.I_NotPlain_Full⟩ jM))) T.O_Full) (cM _)))))) (bg (bq bS.nd rfl (Or.inl rfl) (tJ (aj (cX (cZ (ae (g9 ah) (ae (g9 ah) av))))) (rO pM rfl T.z_int PyProof.Rows.boot_int (ag (nJ (bj 3) (cA (v:= .ref (cl 8)) rfl T.M_NotPlain rfl) rfl rfl T.z_isinstance (kF (dq ⟨T.X_Full,T.I_Full_NotPlain⟩ (dq ⟨T.X_NotPlain,T.I_NotPlain_NotPlain⟩ jM))) T.O_NotPlain) aE)) (fun _ _=>rfl)))) fW))))))) (bg (dD (aj (aa 2))))))),hm,F.kp,F.binds fun _ _ _ _ _ _ us hl=>match us,hl with | [_,_],_=>rfl⟩
abbrev en:Stmt:=top 30
noncomputable abbrev dw:List Str:=["pot","net","ins","gates","outs","way","more","at","kind","wires","sure","k"]
noncomputable def nc:{b:List Stmt // bw en=b}:=⟨_,by conv=>lhs;whnf⟩
noncomputable def eB:{b:Scope // aL en=b}:=⟨_,by conv=>lhs;whnf⟩
theorem bD:bH dw ["pot","net"] eB.1:=⟨rfl,rfl,rfl,by decide+kernel,rfl,by decide+kernel,by decide+kernel⟩
def fq:FZ:=(lA 3 (xP (f9 (aq (ai 8) (aq (aV iL (aq (eNew (dA (di (ai 9)) (cj 0) iJ (e2 cL (ai 0) (e2 je (ai 1) (aV jZ (aq (e2 sM (ai 0) (ai 2)) a_)))) ["wire"] [6,7])) a_)) (aq (ai 10) a_))))))
def gS:FZ:=(aQ (sI (bb d_ (ak (xP (ai 1)) aZ)) (Ay 3 (nU (jw 2) (nU (jw 3) (nU (jw 4) zm))))) (aQ (bA 5 (bb az (ak (bz 0) (ak (xP (eC (.int 4))) aZ)))) (aQ (kR (bP (DA (b2 qC (ai 5) (eC (.int 1))) (b2 qC (ai 5) (eC (.int 3))))) (aQ (bA 6 (x2 cL (xP (eC (.int 1))) (bb az (ak (bz 0) (ak (xP (eC (.int 2))) aZ))))) (aQ (bA 7 (bb az (ak (bz 0) (ak (xT (aV dR (aq (ai 2) a_))) aZ)))) (aQ (m5 (bz 2) (xP (ai 7)) (xT (f9 (aq (e2 cu (e2 cu (ai 2) (ai 7)) (eC (.int 0))) (aq (e2 cL (eC (.int 1)) (ai 6)) a_))))) (aQ (bA 3 (gB (fu a_))) (aQ (mR (iP (di (e2 cu (ai 1) (eC (.int 1))))) (Ay 3 (nU (jw 8) (nU (jw 9) (nU (jw 10) zm)))) fq) (bA 4 (gB (dA (di (e2 cu (ai 1) (eC (.int 2)))) (j4 2 (dG (cj 0) (dG (cj 1) j5))) iJ (f9 (aq (ai 0) (aq (f9 (aq (e2 cL (e2 cu (ai 1) (eC (.int 0))) (e2 je (ai 2) (aV jZ (aq (e2 sM (e2 cu (ai 1) (eC (.int 0))) (ai 3)) a_)))) a_)) a_))) ["name","wires"] [6,7])))))))) ij) (aQ (kR (bP (b2 sM (ai 5) (eC (.int 1)))) (aQ (bA 11 (bb az (ak (bz 0) (ak (xT (aV dR (aq (ai 4) a_))) aZ)))) (m5 (bz 4) (xP (ai 11)) (j7 (ak (xT (e2 cu (e2 cu (ai 4) (ai 11)) (eC (.int 0)))) (ak (x2 je (xT (e2 cu (e2 cu (ai 4) (ai 11)) (eC (.int 1)))) (x2 cL (xP (eC (.int 2))) (bb az (ak (bz 0) (ak (xP (eC (.int 2))) aZ))))) aZ))))) ij) (eT (p7 (ak (j7 (ak (bz 2) (ak (bz 3) (ak (bz 4) aZ)))) (ak (xP (e2 sM (ai 5) (eC (.int 0)))) aZ))))))))
def mZ:List V3->aA->R3 V3:=jd dw gS
def gc:List V3->aA->R3 V3:=mm dw gS
theorem oU(T:Tp K mg cl)(h:Def K mg "_law_wider" en)(fk:bZ P w K mg base cl 1 "_law_copy" 1 d_)(aN:bZ P w K mg base cl 1 "_law_next" 2 az):bZ P w K mg base cl 2 "_law_wider" 2 mZ:=by
 obtain⟨f,fd,F,hm⟩:=h;exact⟨f,fd,_,ei (k:=1) nc.2 eB.2 F bD (fun df A outer s H E hr=>(au (qa (bE fk hr (by decide) rfl (ag (aj (aa 1)) aE) (ao aM)) (mE rfl (cx (bG bD.nd rfl (Or.inl rfl)) (cx (bG bD.nd rfl (Or.inl rfl)) (cx (bG bD.nd rfl (Or.inl rfl)) js))))) (au (bq bD.nd rfl (Or.inl rfl) (bE aN hr (by decide) rfl (ag (bj 0) (ag (aj ah) aE)) (ao (ao aM)))) (au (jb (cw (xK (x6 (d8 (oj hr.units) (aa 5) ah (cM _)) (vN (d8 (oj hr.units) (aa 5) ah (cM _)))))) (au (bq bD.nd rfl (Or.inr rfl) (k4 dY (aj ah) (bE aN hr (by decide) rfl (ag (bj 0) (ag (aj ah) aE)) (ao (ao aM))))) (au (bq bD.nd rfl (Or.inr rfl) (bE aN hr (by decide) rfl (ag (bj 0) (ag (c9 (bL eN rfl T.z_len PySem.boot_len (ae (aa 2) av))) aE)) (ao (ao aM)))) (au (m8 (c9 (dI (ae (bh (bh (aa 2) (aa 7) (fun _ _=>rfl)) ah (fun _ _=>rfl)) (ae (aR dY ah (aa 6)) av)))) (mW (PX.go (bj 2)) (PX.go (aj (aa 7))) set_list)) (au (bq bD.nd rfl (Or.inl rfl) (fy (cZ av))) (au (jG PassesOwn.never rfl (fJ (cO (bh (aa 1) ah (fun _ _=>rfl)))) (mE rfl (cx (bG bD.nd rfl (Or.inl rfl)) (cx (bG bD.nd rfl (Or.inl rfl)) (cx (bG bD.nd rfl (Or.inl rfl)) js)))) (bg (jE rfl (Or.inl rfl) (aj (dI (ae (aa 8) (ae (d0 ke rfl T.z_tuple PyProof.Rows.boot_tuple (ae (cX (eJ rfl (bN.of (own:=["wire"]) (kp:=[6,7]) (kn:=["more","at"]) (sc:=eB.1) (N:=dw) rfl rfl (by decide+kernel)) (cO (aa 9)) (fun _ _ _=>(bO (show List.Nodup [(Str.ofString "wire"),"more","at"] from by decide+kernel) rfl (Or.inl rfl))) (fun _ _ _=>cK) (fun _ _ _=>(aR dY (aa 0) (aR pQ (aa 1) (d0 pM rfl T.z_int PyProof.Rows.boot_int (ae (jx rE (aa 0) (aa 2) (cM _)) av))))))) av)) (ae (aa 10) av)))))))) (bg (jX rfl bD.nd rfl rfl (bN.of (own:=["name","wires"]) (kp:=[6,7]) (kn:=["more","at"]) (sc:=eB.1) (N:=dw) rfl rfl (by decide+kernel)) (cO (bh (aa 1) ah (fun _ _=>rfl))) (fun _ _ _=>(i_ rfl (cR (bO (show List.Nodup [(Str.ofString "name"),"wires","more","at"] from by decide+kernel) rfl (Or.inl rfl)) (cR (bO (show List.Nodup [(Str.ofString "name"),"wires","more","at"] from by decide+kernel) rfl (Or.inl rfl)) hV)))) (fun _ _ _=>cK) (fun _ _ _=>(dI (ae (aa 0) (ae (dI (ae (aR dY (bh (aa 1) ah (fun _ _=>rfl)) (aR pQ (aa 2) (d0 pM rfl T.z_int PyProof.Rows.boot_int (ae (jx rE (bh (aa 1) ah (fun _ _=>rfl)) (aa 3) (cM _)) av)))) av)) av))))))))))) fW) (au (jb (cw (d8 rE (aa 5) ah (cM _))) (au (bq bD.nd rfl (Or.inl rfl) (bE aN hr (by decide) rfl (ag (bj 0) (ag (c9 (bL eN rfl T.z_len PySem.boot_len (ae (aa 4) av))) aE)) (ao (ao aM)))) (bg (m8 (jP (ag (c9 (bh (bh (aa 4) (aa 11) (fun _ _=>rfl)) ah (fun _ _=>rfl))) (ag (k4 pQ (c9 (bh (bh (aa 4) (aa 11) (fun _ _=>rfl)) ah (fun _ _=>rfl))) (k4 dY (aj ah) (bE aN hr (by decide) rfl (ag (bj 0) (ag (aj ah) aE)) (ao (ao aM))))) aE))) (mW (PX.go (bj 4)) (PX.go (aj (aa 11))) set_list)))) fW) (bg (dD (qe (ag (jP (ag (bj 2) (ag (bj 3) (ag (bj 4) aE)))) (ag (aj (jx rE (aa 5) ah (cM _))) aE)))))))))),hm,F.kp,F.binds fun _ _ _ _ _ _ us hl=>match us,hl with | [_,_],_=>rfl⟩
abbrev rA:Stmt:=top 31
noncomputable abbrev kQ:List Str:=["script","pot","way","times","many","net","wider","due","given"]
noncomputable def zr:{b:List Stmt // bw rA=b}:=⟨_,by conv=>lhs;whnf⟩
noncomputable def tR:{b:Scope // aL rA=b}:=⟨_,by conv=>lhs;whnf⟩
theorem gO:bH kQ ["script"] tR.1:=⟨rfl,rfl,rfl,by decide+kernel,rfl,by decide+kernel,by decide+kernel⟩
def nu:FZ:=(aQ (bA 2 (bb az (ak (bz 1) (ak (xP (eC (.int 3))) aZ)))) (aQ (bA 3 (xP (e2 cu (eNew (fu (aq (eC (.int 2)) (aq (eC (.int 3)) (aq (eC (.int 6)) a_))))) (ai 2)))) (aQ (bA 4 (qX (p7 (ak (xP (e2 jY (eC (.int 60)) (ai 3))) (ak (xP (e2 cL (e2 jY (eC (.int 60)) (ai 3)) (eC (.int 1)))) (ak (bb az (ak (bz 1) (ak (xP (eC (.int 61))) aZ))) aZ)))) (bb az (ak (bz 1) (ak (xP (eC (.int 3))) aZ))))) (aQ (sI (bb gc (ak (bz 1) (ak (bb f7 (ak (bz 1) (ak (xP (eC (.int 6))) (ak (xP (ai 4)) aZ)))) aZ))) (Fb 2 (nU (jw 5) (nU (jw 6) zm)))) (aQ (bA 7 (xP (e2 eV (ai 4) (ai 3)))) (aQ (kR (bP (lF (ai 6))) (bA 7 (xP (k8 (eC (.int 1))))) (kR (bP (b2 sM (ai 7) (eC (.int 60)))) (bA 7 (xP (k8 (eC (.int 2))))) ij)) (aQ (bA 8 (bb gM (ak (xP (ai 5)) aZ))) (kR (Dw (Bj v7 (bb gd (ak (xP (ai 2)) (ak (xP (ai 8)) aZ))) (xP (ai 7))) (bP (b2 v7 (ai 8) (ai 5)))) (eT (xP (eC (.bl false)))) ij))))))))
def l4:FZ:=(aQ (mR (zA (bb e8 (ak (xP (Be (ai 0) rl (qT (eC (.int 15))))) aZ))) (jw 1) nu) (eT (xP (eC (.bl true)))))
def EM:List V3->aA->R3 V3:=jd kQ l4
def E7:List V3->aA->R3 V3:=mm kQ l4
def qQ:List D->R D:=DC kQ l4
structure Cf (K:W.Frag) (mg:KY) (cl:KZ):Prop where
 M_FaultError:mg "FaultError"=some (.ref (cl 0))
 M_TooLong:mg "TooLong"=some (.ref (cl 1))
 M_NoForm:mg "NoForm"=some (.ref (cl 2))
 M_NoPlace:mg "NoPlace"=some (.ref (cl 3))
 M_Twice:mg "Twice"=some (.ref (cl 4))
 M_Full:mg "Full"=some (.ref (cl 5))
 M_NoWire:mg "NoWire"=some (.ref (cl 6))
 M_Open:mg "Open"=some (.ref (cl 7))
 M_NotPlain:mg "NotPlain"=some (.ref (cl 8))
 M_NotThree:mg "NotThree"=some (.ref (cl 9))
 M_NotSound:mg "NotSound"=some (.ref (cl 10))
 M_NoFit:mg "NoFit"=some (.ref (cl 11))
 M_NoShape:mg "NoShape"=some (.ref (cl 12))
 M_NoneYet:mg "NoneYet"=some (.ref (cl 13))
 X_Full:XC K (cl 5)
 X_NotPlain:XC K (cl 8)
 J_NotPlain_NoFit_NoForm_NoneYet_NoPlace_NoShape_NotSound:PySem.W.kitAny K (.ref (cl 8)) [(.ref (cl 11)),(.ref (cl 2)),(.ref (cl 13)),(.ref (cl 3)),(.ref (cl 12)),(.ref (cl 10))]=some false
 J_Full_NoFit_NoForm_NoneYet_NoPlace_NoShape_NotSound:PySem.W.kitAny K (.ref (cl 5)) [(.ref (cl 11)),(.ref (cl 2)),(.ref (cl 13)),(.ref (cl 3)),(.ref (cl 12)),(.ref (cl 10))]=some false
 J_NotPlain_NotThree_NoWire_Open_TooLong_Twice:PySem.W.kitAny K (.ref (cl 8)) [(.ref (cl 9)),(.ref (cl 6)),(.ref (cl 7)),(.ref (cl 1)),(.ref (cl 4))]=some false
 J_Full_NotThree_NoWire_Open_TooLong_Twice:PySem.W.kitAny K (.ref (cl 5)) [(.ref (cl 9)),(.ref (cl 6)),(.ref (cl 7)),(.ref (cl 1)),(.ref (cl 4))]=some false
 I_NotPlain_ValueError:PySem.W.kitOne K (.ref (cl 8)) (.type "ValueError")=some true
 I_Full_ValueError:PySem.W.kitOne K (.ref (cl 5)) (.type "ValueError")=some true
 O_ValueError:PySem.W.kitOne K (.type "NoneType") (.type "ValueError")=some false
 I_NotPlain_NotPlain:PySem.W.kitOne K (.ref (cl 8)) (.ref (cl 8))=some true
 I_Full_NotPlain:PySem.W.kitOne K (.ref (cl 5)) (.ref (cl 8))=some false
 O_NotPlain:PySem.W.kitOne K (.type "NoneType") (.ref (cl 8))=some false
 I_NotPlain_Full:PySem.W.kitOne K (.ref (cl 8)) (.ref (cl 5))=some false
 I_Full_Full:PySem.W.kitOne K (.ref (cl 5)) (.ref (cl 5))=some true
 O_Full:PySem.W.kitOne K (.type "NoneType") (.ref (cl 5))=some false
 E_NotPlain_FaultError:PySem.W.exmOne K (.ref (cl 8)) (.ref (cl 0))=some true
 E_Full_FaultError:PySem.W.exmOne K (.ref (cl 5)) (.ref (cl 0))=some true
theorem BI{K:W.Frag}{h:Heap}{mg:KY}(X:K.In h)(G:h.Ns mainGlobals mg){C0:Addr}{C1:Addr}{C2:Addr}{C3:Addr}{C4:Addr}{C5:Addr}{C6:Addr}{C7:Addr}{C8:Addr}{C9:Addr}{DM:Addr}{DG:Addr}{DJ:Addr}{DI:Addr}(FN:PySem.W.nsIn K mainGlobals "FaultError"=some (some (.ref C0)))(F_:PySem.W.nsIn K mainGlobals "TooLong"=some (some (.ref C1)))(FP:PySem.W.nsIn K mainGlobals "NoForm"=some (some (.ref C2)))(FQ:PySem.W.nsIn K mainGlobals "NoPlace"=some (some (.ref C3)))(FI:PySem.W.nsIn K mainGlobals "Twice"=some (some (.ref C4)))(FH:PySem.W.nsIn K mainGlobals "Full"=some (some (.ref C5)))(Fg:PySem.W.nsIn K mainGlobals "NoWire"=some (some (.ref C6)))(FK:PySem.W.nsIn K mainGlobals "Open"=some (some (.ref C7)))(FV:PySem.W.nsIn K mainGlobals "NotPlain"=some (some (.ref C8)))(FL:PySem.W.nsIn K mainGlobals "NotThree"=some (some (.ref C9)))(AX:PySem.W.nsIn K mainGlobals "NotSound"=some (some (.ref DM)))(AZ:PySem.W.nsIn K mainGlobals "NoFit"=some (some (.ref DG)))(AR:PySem.W.nsIn K mainGlobals "NoShape"=some (some (.ref DJ)))(A1:PySem.W.nsIn K mainGlobals "NoneYet"=some (some (.ref DI)))(F7:PySem.W.excIn K C5 A8 "ValueError.__new__"=true)(Fy:PySem.W.findIn K (.ref C5) "__getattribute__"=some (some (.builtin "BaseException.__getattribute__")))(Gb:PySem.W.findIn K (.ref C5) "__getattr__"=some none)(Fi:PySem.W.findIn K (.ref C5) "__class__"=some (some (.builtin "object.__class__")))(Fv:PySem.W.mroIn K C5 (.type "object")=some true)(FF:PySem.W.mroIn K C5 (.type "BaseException")=some true)(Fo:(PySem.W.clsIn K C5).isSome=true)(F6:PySem.W.excIn K C8 A8 "ValueError.__new__"=true)(Ga:PySem.W.findIn K (.ref C8) "__getattribute__"=some (some (.builtin "BaseException.__getattribute__")))(FJ:PySem.W.findIn K (.ref C8) "__getattr__"=some none)(F8:PySem.W.findIn K (.ref C8) "__class__"=some (some (.builtin "object.__class__")))(Gh:PySem.W.mroIn K C8 (.type "object")=some true)(Gg:PySem.W.mroIn K C8 (.type "BaseException")=some true)(Fc:(PySem.W.clsIn K C8).isSome=true)(DR:PySem.W.specialIn K (.builtin "object.__class__") "__get__"=some (some (.builtin "getset_descriptor.__get__")))(DN:PySem.W.takesIn K (.builtin "object.__class__")=some true)(aC:PySem.W.kitAny K (.ref C8) [(.ref DG),(.ref C2),(.ref DI),(.ref C3),(.ref DJ),(.ref DM)]=some false)(aK:PySem.W.kitAny K (.ref C5) [(.ref DG),(.ref C2),(.ref DI),(.ref C3),(.ref DJ),(.ref DM)]=some false)(aO:PySem.W.kitAny K (.ref C8) [(.ref C9),(.ref C6),(.ref C7),(.ref C1),(.ref C4)]=some false)(aY:PySem.W.kitAny K (.ref C5) [(.ref C9),(.ref C6),(.ref C7),(.ref C1),(.ref C4)]=some false)(cH:PySem.W.kitOne K (.ref C8) (.type "ValueError")=some true)(dv:PySem.W.kitOne K (.ref C5) (.type "ValueError")=some true)(fF:PySem.W.kitOne K (.type "NoneType") (.type "ValueError")=some false)(cW:PySem.W.kitOne K (.ref C8) (.ref C8)=some true)(d5:PySem.W.kitOne K (.ref C5) (.ref C8)=some false)(gZ:PySem.W.kitOne K (.type "NoneType") (.ref C8)=some false)(d6:PySem.W.kitOne K (.ref C8) (.ref C5)=some false)(gq:PySem.W.kitOne K (.ref C5) (.ref C5)=some true)(nS:PySem.W.kitOne K (.type "NoneType") (.ref C5)=some false)(cI:PySem.W.exmOne K (.ref C8) (.ref C0)=some true)(du:PySem.W.exmOne K (.ref C5) (.ref C0)=some true):∃cl,Cf K mg cl:=by
 exact⟨fun n=>if n=0 then C0 else if n=1 then C1 else if n=2 then C2 else if n=3 then C3 else if n=4 then C4 else if n=5 then C5 else if n=6 then C6 else if n=7 then C7 else if n=8 then C8 else if n=9 then C9 else if n=10 then DM else if n=11 then DG else if n=12 then DJ else DI,PySem.W.mg_of X G FN,PySem.W.mg_of X G F_,PySem.W.mg_of X G FP,PySem.W.mg_of X G FQ,PySem.W.mg_of X G FI,PySem.W.mg_of X G FH,PySem.W.mg_of X G Fg,PySem.W.mg_of X G FK,PySem.W.mg_of X G FV,PySem.W.mg_of X G FL,PySem.W.mg_of X G AX,PySem.W.mg_of X G AZ,PySem.W.mg_of X G AR,PySem.W.mg_of X G A1,⟨F7,Fy,Gb,Fi,DR,DN,Fv,FF,Fo⟩,⟨F6,Ga,FJ,F8,DR,DN,Gh,Gg,Fc⟩,aC,aK,aO,aY,cH,dv,fF,cW,d5,gZ,d6,gq,nS,cI,du⟩
theorem zp{K:W.Frag}{mg:KY}{f:Addr}{fd:FuncData}{cl:KZ}(T:Tp K mg cl)(gh:Def K mg "has_widths" dO)(fH:Def K mg "check_makes" dm)(gm:Def K mg "next_wires" dQ)(lg:Def K mg "copied" gK)(gY:Def K mg "in_threes" ef)(iU:Def K mg "in_pairs" eR)(gg:Def K mg "with_votes" dM)(iT:Def K mg "_law_next" eI)(iV:Def K mg "_law_pots" eM)(g7:Def K mg "_law_plain" ec)(iS:Def K mg "_law_copy" eL)(g6:Def K mg "_law_asked" er)(g8:Def K mg "_law_wider" en)(F:pF K "law" "law" rA f fd):eU P w K mg base mn 5 f fd ["script"] (xj K 1 qQ):=by
 have gr:=nO (P:=P) (w:=w) (base:=base) T gh;have bK:cC P w K mg base cl 2 "check_makes" 2 aD:=lB T fH gr;have dU:=m4 (P:=P) (w:=w) (base:=base) T gm;have XK_copied:=vK (P:=P) (w:=w) (base:=base) T lg dU;have c_:=XK_copied.p;have gp:cC P w K mg base cl 3 "in_threes" 1 cF:=oz T gY bK c_;have gW:cC P w K mg base cl 3 "in_pairs" 1 cQ:=pE T iU bK c_;have fE:cC P w K mg base cl 3 "with_votes" 1 cm:=mH T gg bK c_;have XK_law_next:=qj (P:=P) (w:=w) (base:=base) T iT;have aN:=XK_law_next.p;have XK_law_pots:=qc (P:=P) (w:=w) (base:=base) T iV;have XP_law_pots:=XK_law_pots.p;have XK_law_plain:=oO (P:=P) (w:=w) (base:=base) T g7 aN;have XP_law_plain:=XK_law_plain.p;have fk:=pS (P:=P) (w:=w) (base:=base) T iS;have XP_law_copy:=fk.p;have XK_law_asked:=o8 (P:=P) (w:=w) (base:=base) T g6 gW gp fE;have XP_law_asked:=XK_law_asked.p;have XK_law_wider:=oU (P:=P) (w:=w) (base:=base) T g8 fk aN;have XP_law_wider:=XK_law_wider.p;exact(ei (cl:=cl) (N:=kQ) (F:=l4) (k:=4) zr.2 tR.2 F gO (fun df A outer s H E hr=>(au (jG PassesOwn.never rfl (xB (bE XK_law_pots hr (by decide) rfl (ag (aj (uF (aa 0) oi (oR ah))) aE) (ao aM))) (bG gO.nd rfl (Or.inl rfl)) (au (bq gO.nd rfl (Or.inl rfl) (bE aN hr (by decide) rfl (ag (bj 1) (ag (aj ah) aE)) (ao (ao aM)))) (au (bq gO.nd rfl (Or.inl rfl) (aj (bh (cX (cZ (ae ah (ae ah (ae ah av))))) (aa 2) (fun _ _=>rfl)))) (au (bq gO.nd rfl (Or.inl rfl) (tJ (qe (ag (aj (aR nH ah (aa 3))) (ag (aj (aR dY (aR nH ah (aa 3)) ah)) (ag (bE aN hr (by decide) rfl (ag (bj 1) (ag (aj ah) aE)) (ao (ao aM))) aE)))) (bE aN hr (by decide) rfl (ag (bj 1) (ag (aj ah) aE)) (ao (ao aM))) (fun _ _=>rfl))) (au (qa (bE XP_law_wider hr (by decide) rfl (ag (bj 1) (ag (bE XP_law_plain hr (by decide) rfl (ag (bj 1) (ag (aj ah) (ag (aj (aa 4)) aE))) (ao (ao (ao aM)))) aE)) (ao (ao aM))) (xt rfl (cx (bG gO.nd rfl (Or.inl rfl)) (cx (bG gO.nd rfl (Or.inl rfl)) js)))) (au (bq gO.nd rfl (Or.inl rfl) (aj (aR ix (aa 4) (aa 3)))) (au (jb (cw (kc (aa 6))) (bg (bq gO.nd rfl (Or.inl rfl) (aj (g9 ah)))) (bg (jb (cw (d8 rE (aa 7) ah (cM _))) (bg (bq gO.nd rfl (Or.inl rfl) (aj (g9 ah)))) fW))) (au (bq gO.nd rfl (Or.inl rfl) (bE XP_law_copy hr (by decide) rfl (ag (aj (aa 5)) aE) (ao aM))) (bg (jb (v8.pb (zf (rp (zP hr.units) (bE XP_law_asked hr (by decide) rfl (ag (aj (aa 2)) (ag (aj (aa 8)) aE)) (ao (ao aM))) (aj (aa 7)) (cM _)) (wV (cw (d8 (zP hr.units) (aa 8) (aa 5) (cM _)))))) (bg (dD (aj kT))) fW)))))))))) (bg (dD (aj kT)))))).imp fun _ _ _ _ h=>Au h
end K29
end
section
namespace K29
open PySem PySem.Spec PyProof.Rows L2 L3
def nV(k:Nat)(S:aA):Prop:=cf S/\∃a c,S[k]? =some (.lst [.int a, .int c])
theorem kf{S:aA}{k:Nat}{o x:SO}(h:S[k]? =some x):(S.set k o)[k]? =some o:=by
 obtain⟨h1,_⟩:=List.getElem?_eq_some_iff.mp h;rw[List.getElem?_set_self h1]
theorem qY{S:aA}{k:Nat}{m:Int}(p:nV k S)(hm:0 < m)(CP:m < 1000000){Q:V3->aA->Prop}
 (h:∀(r:Int) S1,0<=r->r < m->nV k S1->S1.length=S.length->(∀j,j≠k->S1[j]? =S[j]?)->Q (.d (.int r)) S1):W3 (az [.loc k, .d (.int m)] S) Q:=by
 obtain⟨hL,a,c,e⟩:=p;unfold az;refine tq (uU rfl ?_);simp only[bM,fS,List.map,List.length,List.replicate,List.cons_append,List.nil_append,Nat.reduceAdd,Nat.reduceSub];unfold iG;refine aF (qZ (sR (d:= .int (c+1)) ?_ rfl ?_))
 .simp (implicitDefEqProofs:=false) (disch:=first | omega | decide) only[ai,eC,e2,b2,cL,n5,rQ,eV,R.bo,List.map_cons,List.getElem?_cons_zero,List.getElem?_cons_succ,down,bX,res,cB,decide_eq_true_eq,Int.reduceToNat,e,cu,lj]
  rfl
 refine w_var (v:= .loc k) rfl (cn (d:= .int 1) rfl ⟨_,k,1,[.int a, .int c],1,rfl,rfl,rfl,e,rfl,_,rfl,?_⟩);simp only[List.set];have e1:(S.set k (.lst [.int a, .int (c+1)]))[k]? =some (.lst [.int a, .int (c+1)]):=kf e;have FW:cf (S.set k (.lst [.int a, .int (c+1)])):=hL.set _ _;have Dc:(S.set k (.lst [.int a, .int (c+1)])).length=S.length:=List.length_set;have ho:∀j,j≠k->(S.set k (.lst [.int a, .int (c+1)]))[j]? =S[j]?:=fun j hj=>List.getElem?_set_ne (Ne.symm hj)
 generalize S.set k (.lst [.int a, .int (c+1)])=S1 at e1 FW Dc ho;refine aF (bp (by simp) (sR (d:= .int a) ?_ rfl ⟨_,rfl,?_⟩))
 .simp (implicitDefEqProofs:=false) (disch:=first | omega | decide) only[ai,eC,e2,b2,cL,n5,rQ,eV,R.bo,List.map_cons,List.getElem?_cons_zero,List.getElem?_cons_succ,down,bX,res,cB,decide_eq_true_eq,Int.reduceToNat,e1,cu,lj]
  rfl
 simp only[List.set];have fin:∀(r:Int) S2,0<=r->r < m->nV k S2->S2.length=S1.length->(∀j,j≠k->S2[j]? =S1[j]?)->cf S2/\ek S.length (.d (.int r))=true/\∃d,res S2 (.d (.int r))=some d/\Q (.d d) (S2.take S.length):=fun r S2 h1 h2 p2 hl hj=>by
  refine⟨p2.1,by unfold ek;rfl, .int r,by unfold res;rfl,?_⟩
  rw[List.take_of_length_le (by omega)]
  exact h r S2 h1 h2 p2 (by omega) fun j F9=>(hj j F9).trans (ho j F9)
 by_cases hc:(1000000000000000000:Int)<=a
 .refine tQ (dW (dn (b:=true) ?_ ?_))
  .simp (implicitDefEqProofs:=false) (disch:=first | omega | decide) only[ai,eC,e2,b2,cL,n5,rQ,eV,R.bo,List.map_cons,List.getElem?_cons_zero,List.getElem?_cons_succ,down,bX,res,cB,decide_eq_true_eq,Int.reduceToNat,hc]
   simp [hc]
  rw[if_pos rfl];refine aF (qZ (cn (d:= .int (a / m)) ?_ (w_var (v:= .loc k) rfl (cn (d:= .int 0) rfl ⟨_,k,0,_,0,rfl,rfl,rfl,e1,rfl,_,rfl,?_⟩))))
  .exact bB (a:= .int a) (b:= .int m) rfl rfl (xi hm (by omega))
  refine fI (cn (d:= .int (a % m)) (bB (a:= .int a) (b:= .int m) rfl rfl (pH hm)) ⟨_,rfl,_,rfl,?_⟩);exact fin _ _ (Int.emod_nonneg _ (by omega)) (Int.emod_lt_of_pos _ hm) ⟨FW.set _ _,_,_,kf e1⟩ List.length_set fun j hj=>List.getElem?_set_ne (Ne.symm hj)
 .refine aF (dW (dn (b:=false) ?_ ?_))
  .simp (implicitDefEqProofs:=false) (disch:=first | omega | decide) only[ai,eC,e2,b2,cL,n5,rQ,eV,R.bo,List.map_cons,List.getElem?_cons_zero,List.getElem?_cons_succ,down,bX,res,cB,decide_eq_true_eq,Int.reduceToNat,hc]
   simp [hc]
  rw[if_neg (by decide)]
  refine eH ⟨_,rfl,?_⟩;refine aF (bp (by simp) (sR (d:= .int ((a*69621+(c+1)*7919+13) % 2147483647)) ?_ rfl ⟨_,rfl,?_⟩))
  .have hi:cu (.lst [.int a, .int (c+1)]) (.int 1)= .ok (.int (c+1)):=rfl;simp (implicitDefEqProofs:=false) (disch:=first | omega | decide) only[ai,eC,e2,b2,cL,n5,rQ,eV,R.bo,List.map_cons,List.getElem?_cons_zero,List.getElem?_cons_succ,down,bX,res,cB,decide_eq_true_eq,Int.reduceToNat,e1,hi]
  simp only[List.set];have hx1:0<=(a*69621+(c+1)*7919+13) % 2147483647:=Int.emod_nonneg _ (by omega)
  have hx2:(a*69621+(c+1)*7919+13) % 2147483647 < 2147483647:=Int.emod_lt_of_pos _ (by omega)
  generalize (a*69621+(c+1)*7919+13) % 2147483647=x at hx1 hx2;refine aF (bp (by simp) (cn (d:= .int (x*x % 2147483629)) ?_ ⟨_,rfl,?_⟩))
  .simp (implicitDefEqProofs:=false) (disch:=first | omega | decide) only[ai,eC,e2,b2,cL,n5,rQ,eV,R.bo,List.map_cons,List.getElem?_cons_zero,List.getElem?_cons_succ,down,bX,res,cB,decide_eq_true_eq,Int.reduceToNat]
  simp only[List.set];generalize x*x % 2147483629=y;refine fI (sR (d:= .int ((y*48271+(c+1)*40692) % 2147483587 / 8 % m)) ?_ rfl ⟨_,rfl,?_⟩)
  .have hi:cu (.lst [.int a, .int (c+1)]) (.int 1)= .ok (.int (c+1)):=rfl;simp (implicitDefEqProofs:=false) (disch:=first | omega | decide) only[ai,eC,e2,b2,cL,n5,rQ,eV,R.bo,List.map_cons,List.getElem?_cons_zero,List.getElem?_cons_succ,down,bX,res,cB,decide_eq_true_eq,Int.reduceToNat,e1,hi]
  exact fin _ _ (Int.emod_nonneg _ (by omega)) (Int.emod_lt_of_pos _ hm) ⟨FW,_,_,e1⟩ rfl fun j hj=>rfl
end K29
end
section
namespace K29
open PySem PySem.Spec PyProof.Rows L2 L3 NT
structure Ev (k:Nat) (S S1:aA):Prop where
 p:nV k S1
 len:S1.length=S.length
 oth:∀j,j≠k->S1[j]? =S[j]?
theorem Ev.refl{k:Nat}{S:aA}(p:nV k S):Ev k S S:=⟨p,rfl,fun _ _=>rfl⟩
theorem Ev.trans{k:Nat}{S S1 S2:aA}(a:Ev k S S1)(b:Ev k S1 S2):Ev k S S2:=⟨b.p,b.len.trans a.len,fun j h=>(b.oth j h).trans (a.oth j h)⟩
section
variable {S:aA} {δ:DE} {k i:Nat}
theorem draw{Q:V3->aA->Prop}{f:FD}{m:Int}(hv:δ[i]? =some (some (.loc k)))(p:nV k S)(hf:f (down δ)= .ok (.int m))(hm:0 < m)(CP:m < 1000000)
 (h:∀(r:Int) S1,0<=r->r < m->Ev k S S1->Q (.d (.int r)) S1):W3 (bb az (ak (bz i) (ak (xP f) aZ)) δ S) Q:=
 cV (ax (w_var hv (ax (cn hf (bC (qY p hm CP fun r S1 h1 h2 p1 hl ho=>h r S1 h1 h2 ⟨p1,hl,ho⟩))))))
theorem Bz{Q:V3->aA->Prop}{m:Int}(hv:δ[i]? =some (some (.loc k)))(p:nV k S)(hm:0 < m)(CP:m < 1000000)
 (h:∀(r:Nat) S1,1<=r->r<=m->Ev k S S1->Q (.d (.int r)) S1):W3 (x2 cL (xP (eC (.int 1))) (bb az (ak (bz i) (ak (xP (eC (.int m))) aZ))) δ S) Q:=
 xp (cn rfl (draw hv p rfl hm CP fun r S1 h1 h2 v=>⟨_,_, .int ((1+r).toNat:Nat),rfl,rfl,by rw[Int.toNat_of_nonneg (by omega)];rfl,h _ S1 (by omega) (by omega) v⟩))
theorem tG{it:FA}{kp:List Nat}{own:List Str}{fm:FD}{n:Nat}{Q:V3->aA->Prop}(hn:0 < n)(DT:n < 1000000)(Jo:own.length=1)(Ft:gz own kp δ=[none,some (.loc k),some (.d (.int n))])
 (hit:W3 (it δ S) fun vs S1=>(∃m:Nat,1<=m/\m<=3/\vs=(eu 0 m).map .d)/\Ev k S S1)
 (Jz:∀j:Nat,∃m:Int,0 < m/\m<=n/\fm (down [some (.d (.int j)),some (.loc k),some (.d (.int n))])= .ok (.int m))
 (h:∀(zs:List Nat) S1,xE n zs->Ev k S S1->Q (.d (.lst (zs.map nN))) S1) :
 W3 (iu it (jw 0) pL (x2 pR (xP (e2 pR (ai 2) (eC (.int 1)))) (bb az (ak (bz 1) (ak (xP fm) aZ)))) own kp δ S) Q:=by
 have hz:sizeLine=16777216:=sizeLine_eq;refine qy (fun i ds S2=>Ev k S S2/\∃zs:List Nat,ds=zs.map nN/\zs.length=i/\∀z∈zs,z < n) (hit.mono fun vs S1 ⟨⟨m,Fz,Hh,e⟩,v1⟩=>?_)
 subst e;rw[gP];refine⟨by omega,⟨v1,[],rfl,rfl,by simp⟩,?_,?_⟩
 .rintro i v ds S2 hv ⟨v2,zs,rfl,hl,gE⟩;rw[Ft];obtain⟨hi,rfl⟩:=kC hv;obtain⟨m',h1,h2,h3⟩:=Jz i;refine⟨[some (.d (.int i)),some (.loc k),some (.d (.int n))],rfl,tT ?_⟩;rw[if_pos rfl];refine xp (cn rfl (draw rfl v2.p h3 h1 (by omega) fun r S3 h4 h5 v3=>⟨.int ((n:Int) - 1),_, .int ((n:Int) - 1 - r),rfl,rfl,rfl,nN (n - 1 - r.toNat),?_,v2.trans v3,zs++[n - 1 - r.toNat],by simp,by simp [hl],?_⟩))
  .unfold nN;congr 2;omega
  .intro z hz';rcases List.mem_append.mp hz' with q | q
   .exact gE z q
   .rw [List.mem_singleton] at q;omega
 .rintro ds S2 ⟨v2,zs,rfl,hl,gE⟩;exact h zs S2 ⟨fun e=>by rw[e] at hl;simp at hl;omega,by omega,gE⟩ v2
end
end K29
end
section
namespace K29
open PySem PySem.Spec PyProof.Rows L2 L3 NT
structure pz (k g:Nat) (L:List D) (S S1:aA):Prop where
 p:nV k S1
 len:S1.length=S.length
 oth:∀j,j≠k->j≠g->S1[j]? =S[j]?
 gl:S1[g]? =some (.lst L)
theorem pz.then{k g:Nat}{L:List D}{S S1 S2:aA}(a:pz k g L S S1)(h:g≠k)(b:Ev k S1 S2):pz k g L S S2:=⟨b.p,b.len.trans a.len,fun j h1 h2=>(b.oth j h1).trans (a.oth j h1 h2),(b.oth g h).trans a.gl⟩
theorem pz.put{k g:Nat}{L L':List D}{S S1:aA}(a:pz k g L S S1)(h:g≠k):pz k g L' S (S1.set g (.lst L')):=by
 obtain⟨hL,x,c,e⟩:=a.p;exact⟨⟨hL.set _ _,x,c,by rw[List.getElem?_set_ne h];exact e⟩,by rw[List.length_set];exact a.len,fun j h1 h2=>by rw[List.getElem?_set_ne (Ne.symm h2)];exact a.oth j h1 h2,NT.kf a.gl⟩
theorem nV.lt{k:Nat}{S:aA}(p:nV k S):k < S.length:=by
 obtain⟨_,a,c,e⟩:=p;exact(List.getElem?_eq_some_iff.mp e).1
theorem Ev.push{k:Nat}{S S1:aA}(v:Ev k S S1)(L:List D):nV k (S1++[.lst L]):=by
 have h:=v.p.lt;obtain⟨hL,a,c,e⟩:=v.p;exact⟨hL.push _,a,c,by rw[List.getElem?_append_left h];exact e⟩
theorem pz.qz{k:Nat}{S S1:aA}(v:Ev k S S1)(L:List D):pz k S1.length L (S1++[.lst L]) (S1++[.lst L]):=
 ⟨v.push L,rfl,fun _ _ _=>rfl,by rw[List.getElem?_append_right (Nat.le_refl _),Nat.sub_self];rfl⟩
def yG:List D:=[.str "not", .str "and", .str "or", .str "xor", .str "vote", .str "and", .str "or", .str "xor"]
def ES:List (Key × V):=[((Sum.inr "not":Key),V.int 1),((Sum.inr "vote":Key),V.int 3)]
theorem yf(r:Int)(h0:0<=r)(h7:r < 8):∃(s:Str) (c:Nat),cu (.lst yG) (.int r)= .ok (.str s)/\cz 0 (.str s)/\1<=c/\c<=3/\(match gJ (fB [] ES) (Sum.inr s) with | some (.int i)=>R.ok (D.int i) | none=> .ok (.int 2) | _=> .no)= .ok (.int c):=by
 have e:r=0\/r=1\/r=2\/r=3\/r=4\/r=5\/r=6\/r=7:=by omega
 rcases e with rfl | rfl | rfl | rfl | rfl | rfl | rfl | rfl
 .exact⟨_,1,rfl,cz.str (by decide+kernel),by omega,by omega,rfl⟩
 .exact⟨_,2,rfl,cz.str (by decide+kernel),by omega,by omega,rfl⟩
 .exact⟨_,2,rfl,cz.str (by decide+kernel),by omega,by omega,rfl⟩
 .exact⟨_,2,rfl,cz.str (by decide+kernel),by omega,by omega,rfl⟩
 .exact⟨_,3,rfl,cz.str (by decide+kernel),by omega,by omega,rfl⟩
 .exact⟨_,2,rfl,cz.str (by decide+kernel),by omega,by omega,rfl⟩
 .exact⟨_,2,rfl,cz.str (by decide+kernel),by omega,by omega,rfl⟩
 .exact⟨_,2,rfl,cz.str (by decide+kernel),by omega,by omega,rfl⟩
theorem rm{δ:ar}{fm fj:FD}{n j:Nat}(hn:0 < n)(hm:fm δ= .ok (.int n))(hj:fj δ= .ok (.int j)):∃m:Int,0 < m/\m<=n/\e2 cu (eNew (fu (aq fm (aq (aV l5 (aq fm (aq (eC (.int 4)) a_))) a_)))) (e2 jn fj (eC (.int 2))) δ= .ok (.int m):=by
 have hz:sizeLine=16777216:=sizeLine_eq;have hj2:(j:Int) % 2=0\/(j:Int) % 2=1:=by omega
 have em:jn (.int j) (.int 2)= .ok (.int ((j:Int) % 2)):=pH (by omega)
 have el:eNew (fu (aq fm (aq (aV l5 (aq fm (aq (eC (.int 4)) a_))) a_))) δ= .ok (.lst [.int n, .int (if(4:Int) < n then 4 else n)]):=
  fX (ny (aJ hm (aJ (bJ (ds:=[.int n, .int 4]) (aJ hm rfl) rfl) rfl)) (by simp;omega))
 rcases hj2 with h | h
 .rw [h] at em;exact⟨n,by omega,by omega,bB el (bB hj rfl em) rfl⟩
 .rw [h] at em;exact⟨if(4:Int) < n then 4 else n,by split <;> omega,by split <;> omega,bB el (bB hj rfl em) rfl⟩
def uy(k g:Nat)(a1 a2 a3 a4:Option V3)(l:KS)(a7 a8 a9 a10 a11:Option V3):DE:=[some (.loc k),a1,a2,a3,a4,some (.d (.lst (l.map iN))),some (.loc g),a7,a8,a9,a10,a11,none,none]
theorem rG{k g i:Nat}{l:KS}{a1 a2 a3 a4 a8 a9 a10 a11:Option V3}{gs:List Gt}{S S1:aA}(hn:0 < l.length)(DT:l.length < 1000)(KI:i < 1000)(hg:g≠k)(hl:gs.length < 1000)(E:pz k g (gs.map gN) S S1) :
 W3 (ft (uy k g a1 a2 a3 a4 l (some (.d (.int i))) a8 a9 a10 a11) S1) fun o S2=>∃fG,o= .nx fG/\(∃b7 b8 b9 pf pq,fG=uy k g a1 a2 a3 a4 l b7 b8 b9 pf pq)/\∃x:Gt,(xE (l.length+i) x.w/\cz 0 (.str x.k))/\pz k g ((gs++[x]).map gN) S S2:=by
 have hz:sizeLine=16777216:=sizeLine_eq;unfold ft uy;refine aF (bp (by simp) (cn (d:= .int ((l.length+i:Nat):Int)) ?_ ⟨_,rfl,?_⟩))
 .exact bB (a:= .int l.length) (b:= .int i) (bJ (ds:=[.lst (l.map iN)]) rfl (by rw[k7,List.length_map])) rfl rfl
 simp only[List.set];refine aF (bp (by simp) (pK (cn (d:= .lst yG) rfl (draw (k:=k) rfl E.p rfl (by omega) (by omega) fun r S2 h1 h2 v2=>?_))))
 obtain⟨s,c,e1,f1,Ky,hc,AV⟩:=yf r h1 h2;refine⟨_,_, .str s,rfl,rfl,e1,_,rfl,?_⟩;simp only[List.set];have E2:=E.then hg v2
 refine aF (bp (by simp) (cn (d:= .int c) ?_ ⟨_,rfl,?_⟩))
 .exact AV
 simp only[List.set];refine aF (bp (by simp) (tG (k:=k) (n:=l.length+i) (by omega) (by omega) rfl rfl (rT (ju (n:=c) rfl (by omega)) ⟨⟨c,by omega,by omega,rfl⟩,Ev.refl E2.p⟩) (fun j=>rm (by omega) rfl rfl) fun zs S3 JQ v3=>⟨_,rfl,?_⟩))
 simp only[List.set];have E3:=E2.then hg v3
 refine mf (k:=g) rfl ⟨_,E3.gl⟩ (me (ax (cn (d:= .str s) rfl (ax (cn (d:=wN zs) rfl (ax (xp ?_)))))));refine draw (k:=k) rfl E3.p rfl (by omega) (by omega) fun r S4 h1 h2 v4=>cn (d:= .int 0) rfl ⟨_,_, .bl (decide (r=0)),rfl,rfl,rfl,bC ⟨by simp;omega,?_⟩⟩
 have E4:=E3.then hg v4
 refine⟨gN ⟨s,zs,decide (r=0)⟩,_,rfl,E4.gl,by rw[List.length_map];omega,_,rfl,⟨_,_,_,_,_,rfl⟩,⟨s,zs,decide (r=0)⟩,⟨JQ,f1⟩,?_⟩
 rw[List.map_append];exact E4.put hg
def iq:List Str:=["a","bb","signal","x","yes","abcdefgh"]
def tV:List Str:=["p","ou","result","q","abcdefgh","z"]
theorem uM:∀d∈iq,cz 0 (.str d):=fun d hd=>by
 simp only[iq,List.mem_cons,List.not_mem_nil,or_false] at hd;rcases hd with rfl | rfl | rfl | rfl | rfl | rfl <;> exact cz.str (by decide+kernel)
theorem xJ:∀d∈tV,cz 0 (.str d):=fun d hd=>by
 simp only[tV,List.mem_cons,List.not_mem_nil,or_false] at hd;rcases hd with rfl | rfl | rfl | rfl | rfl | rfl <;> exact cz.str (by decide+kernel)
theorem uG{L:List Str}{i:Nat}(h:i < L.length):∃s∈L,cu (.lst (L.map .str)) (.int i)= .ok (.str s):=⟨L[i],List.getElem_mem h,jf (by rw[List.getElem?_map,List.getElem?_eq_getElem h];rfl)⟩
def tS(k g o:Nat)(a1 a2 a3 a4:Option V3)(l:KS)(a7 a8 a9 a10 a11 a13:Option V3):DE:=[some (.loc k),a1,a2,a3,a4,some (.d (.lst (l.map iN))),some (.loc g),a7,a8,a9,a10,a11,some (.loc o),a13]
theorem vq{k g o i:Nat}{l:KS}{a1 a2 a3 a4 a8 a9 a10 a11 a13:Option V3}{gs:List Gt}{os:KU}{S S1:aA}(hn:0 < l.length)(DT:l.length+gs.length < 1000)(hi:i < 6)(ho:o≠k)(JM:g≠o)(CY:g≠k)(hl:os.length < 1000)(E:pz k o (os.map oN) S S1)(Eg:S1[g]? =some (.lst (gs.map gN))) :
 W3 (fD (tS k g o a1 a2 a3 a4 l (some (.d (.int i))) a8 a9 a10 a11 a13) S1) fun ou S2=>∃fG,ou= .nx fG/\(∃b7 b8 b13,fG=tS k g o a1 a2 a3 a4 l b7 b8 a9 a10 a11 b13)/\S2[g]? =some (.lst (gs.map gN))/\∃x:Str × List Nat,(x.2.length=1/\xE (l.length+gs.length) x.2/\cz 0 (.str x.1))/\pz k o ((os++[x]).map oN) S S2:=by
 have hz:sizeLine=16777216:=sizeLine_eq;unfold fD tS;refine aF (bp (by simp) (sR (d:= .int ((l.length+gs.length:Nat):Int)) ?_ rfl ⟨_,rfl,?_⟩))
 .simp only[bX,List.map_cons,List.map_nil,res,Eg];exact bB (a:= .int l.length) (b:= .int gs.length) (bJ (ds:=[.lst (l.map iN)]) rfl (by rw[k7,List.length_map])) (bJ (ds:=[.lst (gs.map gN)]) rfl (by rw[k7,List.length_map])) rfl
 simp only[List.set];obtain⟨m,Fz,CP,Hh⟩:=rm (δ:=down [some (.loc k),a1,a2,a3,a4,some (.d (.lst (l.map iN))),some (.loc g),some (.d (.int i)),some (.d (.int ((l.length+gs.length:Nat):Int))),a9,a10,a11,some (.loc o),a13]) (fm:=ai 8) (fj:=ai 7) (n:=l.length+gs.length) (j:=i) (by omega) rfl rfl
 refine aF (bp (by simp) (xp (cn rfl (draw (k:=k) rfl E.p Hh Fz (by omega) fun r S2 h1 h2 v2=>⟨.int (((l.length+gs.length:Nat):Int) - 1),_, .int (((l.length+gs.length:Nat):Int) - 1 - r),rfl,rfl,rfl,_,rfl,?_⟩))))
 simp only[List.set];have hw:((l.length+gs.length:Nat):Int) - 1 - r=((l.length+gs.length - 1 - r.toNat:Nat):Int):=by omega
 rw[hw];have E2:=E.then ho v2
 obtain⟨s,hs,es⟩:=uG (L:=tV) (i:=i) (by simp [tV];omega)
 refine mf (k:=o) rfl ⟨_,E2.gl⟩ (cn (d:=oN (s,[l.length+gs.length - 1 - r.toNat])) ?_ ⟨_,_,rfl,E2.gl,by rw[List.length_map];omega,_,rfl,⟨_,_,_,rfl⟩,?_,(s,[l.length+gs.length - 1 - r.toNat]),⟨rfl,⟨by simp,by simp,fun z hz=>?_⟩,xJ s hs⟩,?_⟩)
 .exact dS (aJ (bB (a:= .lst (tV.map .str)) (b:= .int i) rfl rfl es) (aJ (dS rfl (by simp;omega)) rfl)) (by simp;omega)
 .rw [List.getElem?_set_ne (fun h=>JM h.symm),v2.oth g CY];exact Eg
 .rw [List.mem_singleton] at hz;omega
 .rw [List.map_append];exact E2.put ho
structure Plain (n:Net):Prop where
 ok:n.Ok
 i:∀x∈n.i,x.2=1
 o:∀x∈n.o,x.2.length=1
theorem Plain.first{n:Net}(h:Plain n):n.first=n.i.length:=by
 have:∀l:KS,(∀x∈l,x.2=1)->(l.map (·.2)).sum=l.length:=fun l hl=>by
  induction l with
  | nil=>rfl
  | cons x l ih=>rw [List.map_cons,List.sum_cons,ih fun y hy=>hl y (List.mem_cons_of_mem _ hy),hl x List.mem_cons_self,List.length_cons];omega
 exact this n.i h.i
end K29
end
section
namespace K29
open PySem PySem.Spec PyProof.Rows L2 L3 NT
theorem y4{S:aA}{k:Nat}{δ:DE}{own:List Str}{kp:List Nat}{it:FA}{t:Int}{Q:V3->aA->Prop}(ht:0<=t)(Ft:gz own kp δ=[none,some (.d (.lst (iq.map .str))),some (.d (.int t))])
 (hit:W3 (it δ S) fun vs S1=>(∃r:Nat,1<=r/\r<=6/\vs=(eu 0 r).map .d)/\Ev k S S1)
 (h:∀(l:KS) S1,(∀x∈l,x.2=1/\cz 0 (.str x.1))->1<=l.length->l.length<=6->Ev k S S1->Q (.d (.lst (l.map iN))) S1) :
 W3 (iu it (jw 0) pL (xP (f9 (aq (e2 cu (ai 1) (e2 jn (e2 cL (ai 2) (ai 0)) (eC (.int 6)))) (aq (eC (.int 1)) a_)))) own kp δ S) Q:=by
 have hz:sizeLine=16777216:=sizeLine_eq;refine qy (fun i ds S2=>Ev k S S2/\∃l:KS,ds=l.map iN/\(∀x∈l,x.2=1/\cz 0 (.str x.1))/\l.length=i) (hit.mono fun vs S1 ⟨⟨r,KH,KA,e⟩,v1⟩=>?_)
 subst e;rw[gP];refine⟨by omega,⟨v1,[],rfl,by simp,rfl⟩,?_,?_⟩
 .rintro i v ds S2 hv ⟨v2,l,rfl,hl,hli⟩;rw[Ft];obtain⟨hi,rfl⟩:=kC hv;obtain⟨s,hs,es⟩:=uG (L:=iq) (i:=((t+i) % 6).toNat) (by simp [iq];omega)
  rw[Int.toNat_of_nonneg (by omega)] at es
  refine⟨[some (.d (.int i)),some (.d (.lst (iq.map .str))),some (.d (.int t))],rfl,tT ?_⟩;rw[if_pos rfl];refine cn (d:=iN (s,1)) ?_ ⟨_,rfl,v2,l++[(s,1)],by simp,?_,by simp [hli]⟩
  .exact dS (aJ (bB (a:= .lst (iq.map .str)) (b:= .int ((t+i) % 6)) rfl (bB (a:= .int (t+i)) (b:= .int 6) rfl rfl (pH (by omega))) es) rfl) (by simp;omega)
  intro x hx;rcases List.mem_append.mp hx with q | q
  .exact hl x q
  .rw [List.mem_singleton] at q;subst q;exact⟨rfl,uM s hs⟩
 .rintro ds S2 ⟨v2,l,rfl,hl,hli⟩;exact h l S2 hl (by omega) (by omega) v2
theorem tI{S:aA}{k m:Nat}(p:nV k S)(hm:m<=60){Q:V3->aA->Prop}(h:∀(n:Net) S1,Plain n->n.g.length=m->Ev k S S1->Q (.d n.d) S1):W3 (f7 [.loc k, .d (.int 6), .d (.int m)] S) Q:=by
 have hz:sizeLine=16777216:=sizeLine_eq;have hk:=p.lt;unfold f7;refine tq (uU rfl ?_);simp only[bM,dz,List.map,List.length,List.replicate,List.cons_append,List.nil_append,Nat.reduceAdd,Nat.reduceSub];unfold gT;refine aF (bp (by simp) (cn (d:= .lst (iq.map .str)) rfl ⟨_,rfl,?_⟩))
 simp only[List.set];refine aF (bp (by simp) (draw (k:=k) rfl p rfl (by omega) (by omega) fun t S0 Ju Kx v0=>⟨_,rfl,?_⟩))
 simp only[List.set];refine aF (bp (by simp) (y4 (k:=k) Ju rfl ?_ fun l S1 hl Dc JJ JA=>⟨_,rfl,?_⟩))
 .refine uk (xp (cn rfl (draw (k:=k) rfl v0.p rfl (by omega) (by omega) fun r S2 h1 h2 v2=>⟨_,_, .int (((1+r).toNat:Nat):Int),rfl,rfl,?_,_,rfl,by omega,⟨_,by omega,by omega,rfl⟩,v2⟩)))
  rw[Int.toNat_of_nonneg (by omega)];rfl
 simp only[List.set];have v1:=v0.trans JA;refine aF (bp (by simp) (gv (ds:=[]) rfl ⟨_,rfl,?_⟩))
 simp only[List.set];have g0:=pz.qz v1 [];have CY:S1.length≠k:=by have:=v1.len;omega
 refine aF (lO (rT (ds:=eu 0 m) (ju rfl (by omega)) ?_))
 refine(eG (fun i δ S4=>(∃b7 b8 b9 pf pq,δ=uy k S1.length (some (.d (.int 6))) (some (.d (.int m))) (some (.d (.lst (iq.map .str)))) (some (.d (.int t))) l b7 b8 b9 pf pq)/\∃gs:List Gt,gs.length=i/\(∀(p:Nat) (x:Gt),gs[p]? =some x->xE (l.length+p) x.w/\cz 0 (.str x.k))/\pz k S1.length (gs.map gN) (S1++[SO.lst []]) S4)
  ⟨⟨_,_,_,_,_,rfl⟩,[],rfl,by simp,g0⟩ ?_).mono fun o S4 ⟨Fh,e4,⟨b7,b8,b9,pf,pq,hδ⟩,gs,hgl,hgs,g4⟩=>⟨Fh,e4,?_⟩
 .rintro i v δ S4 hv ⟨⟨b7,b8,b9,pf,pq,rfl⟩,gs,hgl,hgs,g4⟩;obtain⟨hi,rfl⟩:=kC hv;refine⟨_,rfl,?_⟩;refine(rG (i:=i) (a8:=b8) (a9:=b9) (a10:=pf) (a11:=pq) (by omega) (by omega) (by omega) CY (by omega) g4).mono fun o S5 ⟨JL,e5,h5,x,hx,g5⟩=>⟨JL,e5,h5,gs++[x],by simp [hgl],?_,g5⟩
  intro p y hy;by_cases hp:p < gs.length
  .rw [List.getElem?_append_left hp] at hy;exact hgs p y hy
  .rw [List.getElem?_append_right (by omega)] at hy
   have hp0:p - gs.length=0:=by
    have:=(List.getElem?_eq_some_iff.mp hy).1;simp at this;omega
   rw[hp0] at hy;cases hy;rw[show l.length+p=l.length+i by omega]
   exact hx
 rw[gP] at hgl;subst hδ;unfold uy;refine aF (bp (by simp) (gv (ds:=[]) rfl ⟨_,rfl,?_⟩))
 simp only[List.set];have v4:Ev k S4 S4:=Ev.refl g4.p;have o0:=pz.qz v4 [];have hl4:S4.length=S1.length+1:=by rw[g4.len];simp
 have hok:S4.length≠k:=by have:=v1.len;omega
 have hog:S1.length≠S4.length:=by omega
 have eg0:(S4++[SO.lst []])[S1.length]? =some (.lst (gs.map gN)):=by rw[List.getElem?_append_left (by omega)];exact g4.gl
 refine aF (lO (uk (xp (cn rfl (draw (k:=k) rfl o0.p rfl (by omega) (by omega) fun r S5 h1 h2 v5=>⟨_,_, .int (((1+r).toNat:Nat):Int),rfl,rfl,?_,_,rfl,by omega,?_⟩)))))
 .rw [Int.toNat_of_nonneg (by omega)];rfl
 have o5:=o0.then hok v5
 have eg5:S5[S1.length]? =some (.lst (gs.map gN)):=by rw[v5.oth _ CY];exact eg0
 refine(eG (fun i δ S6=>(∃c7 c8 DH,δ=tS k S1.length S4.length (some (.d (.int 6))) (some (.d (.int m))) (some (.d (.lst (iq.map .str)))) (some (.d (.int t))) l c7 c8 b9 pf pq DH)/\S6[S1.length]? =some (.lst (gs.map gN))/\∃os:KU,os.length=i/\(∀x∈os,x.2.length=1/\xE (l.length+gs.length) x.2/\cz 0 (.str x.1))/\pz k S4.length (os.map oN) (S4++[SO.lst []]) S6)
  ⟨⟨_,_,_,rfl⟩,eg5,[],rfl,by simp,o5⟩ ?_).mono fun o S6 ⟨JO,e6,⟨c7,c8,DH,hδ⟩,eg6,os,hol,hos,o6⟩=>⟨JO,e6,?_⟩
 .rintro i v δ S6 hv ⟨⟨c7,c8,DH,rfl⟩,eg6,os,hol,hos,o6⟩;obtain⟨hi,rfl⟩:=kC hv;refine⟨_,rfl,?_⟩;refine(vq (i:=i) (a8:=c8) (a13:=DH) (by omega) (by omega) (by omega) hok hog CY (by omega) o6 eg6).mono fun o S7 ⟨Js,e7,h7,Jv,x,hx,o7⟩=>⟨Js,e7,h7,Jv,os++[x],by simp [hol],?_,o7⟩
  intro y hy;rcases List.mem_append.mp hy with q | q
  .exact hos y q
  .rw [List.mem_singleton] at q;subst q;exact hx
 rw[gP] at hol;subst hδ;unfold tS;refine fI (me (ax (w_var rfl (ax (w_var rfl (ax (w_var rfl (bC ⟨by simp;omega,_,rfl,?_⟩))))))))
 have hl6':S6.length=S1.length+2:=by rw[o6.len];simp;omega
 have hS1:=v1.len;have hfl:(l.map (·.2)).sum=l.length:=by
  have:∀l:KS,(∀x∈l,x.2=1/\cz 0 (.str x.1))->(l.map (·.2)).sum=l.length:=fun l hl=>by
   induction l with
   | nil=>rfl
   | cons x l ih=>rw [List.map_cons,List.sum_cons,ih fun y hy=>hl y (List.mem_cons_of_mem _ hy),(hl x List.mem_cons_self).1,List.length_cons];omega
  exact this l hl
 refine⟨o6.p.1,?_,(⟨l,gs,os⟩:Net).d,?_,?_⟩
 .show(ek S.length (.tup [.d (.lst (l.map iN)), .loc S1.length, .loc S4.length]))=true;simp [ek,gx];omega
 .show res S6 (.tup [.d (.lst (l.map iN)), .loc S1.length, .loc S4.length])=_;have eo:=o6.gl;simp [res,kN,eg6,eo,Net.d]
 .refine h ⟨l,gs,os⟩ _ ⟨⟨Dc,JJ,fun x hx=>?_,fun x hx=>(hl x hx).2,by show gs.length<=60;omega,fun p g hg=>?_,fun g hg=>?_,by show 1<=os.length;omega,by show os.length<=6;omega,fun x hx=>?_,fun x hx=>(hos x hx).2.2⟩,fun x hx=>(hl x hx).1,fun x hx=>(hos x hx).1⟩ hgl ⟨⟨o6.p.1.take _,?_⟩,?_,?_⟩
  .have:=(hl x hx).1;omega
  .show xE ((l.map (·.2)).sum+p) g.w
   rw[hfl];exact(hgs p g hg).1
  .obtain⟨p,hp⟩:=List.getElem?_of_mem hg;exact(hgs p g hp).2
  .show xE ((l.map (·.2)).sum+gs.length) x.2
   rw[hfl];exact(hos x hx).2.1
  .obtain⟨_,a,c,e⟩:=o6.p;exact⟨a,c,by rw[List.getElem?_take_of_lt hk];exact e⟩
  .rw [List.length_take];omega
  .intro j hj;by_cases hjl:j < S.length
   .rw [List.getElem?_take_of_lt hjl,o6.oth _ hj (by omega),List.getElem?_append_left (by omega),g4.oth _ hj (by omega),List.getElem?_append_left (by omega)]
    exact v1.oth j hj
   .rw [List.getElem?_eq_none (by rw[List.length_take];omega),List.getElem?_eq_none (by omega)]
end K29
end
section
namespace K29
open PySem PySem.Spec PyProof.Rows L2 L3 NT
def iY(a m:Nat):List Nat:=(List.range m).map fun j=>a+j
abbrev ll:=KW
def rd(st:ll)(z j:Nat):Nat:=(st.getD z []).getD j 0
def cps(m:Nat)(st:ll)(g:Gt):List Gt:=(List.range m).map fun j=>⟨g.k,g.w.map fun z=>rd st z j,g.s⟩
def lY:Str:=Str.ofString "vote"
def qB(top m:Nat)(v:Bool)(x:ll × List Gt)(g:Gt):ll × List Gt:=
 let own:=iY (top+x.2.length) m
 let out:=x.2++cps m x.1 g
 if v then(x.1++[iY (top+out.length) m],out++List.replicate m ⟨lY,own,g.s⟩) else(x.1++[own],out)
def mM(i m:Nat):ll:=(List.range i).map fun p=>iY (p*m) m
def gL(n:Net)(m:Nat)(v:Bool):ll × List Gt:=n.g.foldl (qB (n.i.length*m) m v) (mM n.i.length m,[])
def made(n:Net)(m:Nat)(v:Bool):Net:=⟨n.i.map fun x=>(x.1,m),(gL n m v).2,n.o.map fun x=>(x.1,(gL n m v).1.getD (x.2.headD 0) [])⟩
theorem hX(a m:Nat):(iY a m).length=m:=by unfold iY;rw [List.length_map,List.length_range]
structure MI (i m:Nat) (v:Bool) (p:Nat) (x:ll × List Gt):Prop where
 sl:x.1.length=i+p
 sw:∀w∈x.1,w.length=m
 gl:x.2.length=p*(if v then 2*m else m)
 gk:∀g∈x.2,cz 0 (.str g.k)/\g.w.length<=3
theorem MI.zero(i m:Nat)(v:Bool):MI i m v 0 (mM i m,[]):=⟨by simp [mM],fun w hw=>by
 obtain⟨p,_,rfl⟩:=List.mem_map.mp hw;exact hX _ _,by simp,by simp⟩
theorem tU:cz 0 (.str lY):=cz.str (by decide+kernel)
theorem MI.step{i m p top:Nat}{v:Bool}{x:ll × List Gt}{g:Gt}(h:MI i m v p x)(hm:m<=3)(hg:cz 0 (.str g.k))(FU:g.w.length<=3):MI i m v (p+1) (qB top m v x g):=by
 have hc:(cps m x.1 g).length=m:=by unfold cps;rw [List.length_map,List.length_range]
 have hck:∀y∈cps m x.1 g,cz 0 (.str y.k)/\y.w.length<=3:=fun y hy=>by obtain⟨j,_,rfl⟩:=List.mem_map.mp hy;exact⟨hg,by rw[List.length_map];exact FU⟩
 have h1:=h.sl;have h3:=h.gl;cases v with
 | true=>
   refine⟨?_,fun w hw=>?_,?_,fun y hy=>?_⟩
   .show(x.1++[_]).length=_;rw[List.length_append,h1];simp;omega
   .have hw:w∈x.1++[_]:=hw;rcases List.mem_append.mp hw with q | q
    .exact h.sw w q
    .rw [List.mem_singleton.mp q];exact hX _ _
   .show((x.2++cps m x.1 g)++List.replicate m _).length=_;rw[List.length_append,List.length_append,hc,List.length_replicate,h3,if_pos rfl,Nat.add_mul];omega
   .have hy:y∈(x.2++cps m x.1 g)++List.replicate m _:=hy;rcases List.mem_append.mp hy with q | q
    .rcases List.mem_append.mp q with q | q
     .exact h.gk y q
     .exact hck y q
    .rw [List.eq_of_mem_replicate q];exact⟨tU,by rw[hX];exact hm⟩
 | false=>
   refine⟨?_,fun w hw=>?_,?_,fun y hy=>?_⟩
   .show(x.1++[_]).length=_;rw[List.length_append,h1];simp;omega
   .have hw:w∈x.1++[_]:=hw;rcases List.mem_append.mp hw with q | q
    .exact h.sw w q
    .rw [List.mem_singleton.mp q];exact hX _ _
   .show(x.2++cps m x.1 g).length=_;rw[List.length_append,hc,h3,if_neg (by decide),Nat.add_mul];omega
   .have hy:y∈x.2++cps m x.1 g:=hy;rcases List.mem_append.mp hy with q | q
    .exact h.gk y q
    .exact hck y q
def oM(n:Net)(m:Nat)(v:Bool)(p:Nat):ll × List Gt:=(n.g.take p).foldl (qB (n.i.length*m) m v) (mM n.i.length m,[])
theorem ot{n:Net}{m:Nat}{v:Bool}{p:Nat}{g:Gt}(h:n.g[p]? =some g):oM n m v (p+1)=qB (n.i.length*m) m v (oM n m v p) g:=by
 unfold oM;rw[List.take_add_one,h];show List.foldl _ _ (n.g.take p++[g])=_;rw[List.foldl_append];rfl
theorem jq(n:Net)(m:Nat)(v:Bool):oM n m v n.g.length=gL n m v:=by unfold oM gL;rw [List.take_length]
theorem jK{n:Net}(N:Plain n){m:Nat}(hm:m<=3)(v:Bool):∀p,p<=n.g.length->MI n.i.length m v p (oM n m v p)
 | 0,_=>by unfold oM;rw [List.take_zero];exact MI.zero _ _ _
 | p+1,h=>by
   have hg:n.g[p]? =some n.g[p]:=List.getElem?_eq_getElem (by omega)
   rw[ot hg];exact(jK N hm v p (by omega)).step hm (N.ok.gs _ (List.getElem_mem (by omega))) (N.ok.gw p _ hg).le
theorem CC(a m:Nat):(iY a m).map nN=(eu 0 m).map fun d=>match d with | .int j=> .int (a+j) | _=> .cy:=by
 unfold iY eu;rw[List.map_map,List.map_map];refine List.map_congr_left fun j hj=>?_
 show D.int ((a+j:Nat):Int)=D.int ((a:Int)+(0+(j:Int)));congr 1;omega
theorem oA{a m:Nat}(hm:m < 1000):b_ [.int a, .int m]= .ok (wN (iY a m)):=by
 have hz:sizeLine=16777216:=sizeLine_eq;unfold b_;refine vB ?_;unfold jc;refine rn (bJ (ds:=[.lst ((iY a m).map nN)]) (aJ (fX (dg (ds:=eu 0 m) (ju rfl (by omega)) (by rw[nG];omega) ?_)) rfl) rfl)
 rw[CC];refine jR _ fun d hd=>?_
 obtain⟨j,_,rfl⟩:=List.mem_map.mp hd;exact⟨[.val (.int (0+(j:Int))), .val (.int a)],rfl,rfl,rfl⟩
theorem Ca{st:ll}{m z j:Nat}(f:List Nat->D)(hf:∀w,f w=wN w\/f w= .lst (w.map nN))(hz:z < st.length)(hw:∀w∈st,w.length=m)(hj:j < m):∃d,cu (.lst (st.map f)) (.int z)= .ok d/\cu d (.int j)= .ok (nN (rd st z j)):=by
 refine⟨f st[z],jf (by rw[List.getElem?_map,List.getElem?_eq_getElem hz];rfl),?_⟩
 have hl:=hw st[z] (List.getElem_mem hz);have e:(st[z].map nN)[j]? =some (nN (rd st z j)):=by
  rw[List.getElem?_map,List.getElem?_eq_getElem (by omega)]
  show some (nN st[z][j])=_;have e1:st.getD z []=st[z]:=by rw[List.getD_eq_getElem?_getD,List.getElem?_eq_getElem hz];rfl
  have e2:st[z].getD j 0=st[z][j]:=by rw[List.getD_eq_getElem?_getD,List.getElem?_eq_getElem (by omega)];rfl
  unfold rd;rw[e1,e2]
 rcases hf st[z] with q | q
 .rw [q];exact qF e
 .rw [q];exact jf e
theorem wy{δ:ar}{st:ll}{m j:Nat}{w:List Nat}{own:List Str}{kp:List Nat}{fw:FD}(f:List Nat->D)(hf:∀w,f w=wN w\/f w= .lst (w.map nN))(hw:∀w∈st,w.length=m)(hj:j < m)(DK:w.length < 1000)(gE:∀z∈w,z < st.length)(Jj:fw δ= .ok (wN w))(hc:kI own kp δ=[.un, .val (.lst (st.map f)), .val (.int j)]) :
 aV iL (aq (eNew (dA (di fw) (cj 0) iJ (e2 cu (e2 cu (ai 1) (ai 0)) (ai 2)) own kp)) a_) δ= .ok (wN (w.map fun z=>rd st z j)):=by
 have hz:sizeLine=16777216:=sizeLine_eq;refine bJ (ds:=[.lst ((w.map fun z=>rd st z j).map nN)]) (aJ (fX (dg (ds:=w.map nN) (qf Jj) (by rw[List.length_map];omega) ?_)) rfl) rfl
 rw[hc,List.map_map];refine cD _ _ fun z JI=>⟨[.val (nN z), .val (.lst (st.map f)), .val (.int j)],rfl,rfl,?_⟩
 obtain⟨d,h1,h2⟩:=Ca f hf (gE z JI) hw hj;exact bB (bB (a:= .lst (st.map f)) (b:= .int z) rfl rfl h1) rfl h2
theorem k6{α:Type}(f:Nat->α)(j:Nat):(List.range (j+1)).map f=(List.range j).map f++[f j]:=by rw[List.range_succ,List.map_append];rfl
end K29
end
section
namespace K29
open PySem PySem.Spec PyProof.Rows L2 L3 NT
def cE(n:Net)(m:Nat)(v:Bool)(a b:Nat)(a6 a7 a8 a9:Option V3):DE:=[some (.d n.d),some (.d (.int m)),some (.d (.bl v)),some (.d (.int ((n.i.length*m:Nat):Int))),some (.loc a),some (.loc b),a6,a7,a8,a9,none,none]
def cS(S:aA)(st:ll)(gs:List Gt):aA:=S++[.lst (st.map wN), .lst (gs.map gN)]
theorem wz(S:aA)(st:ll)(gs:List Gt):(cS S st gs)[S.length]? =some (.lst (st.map wN)):=by unfold cS;rw [List.getElem?_append_right (Nat.le_refl _),Nat.sub_self];rfl
theorem xH(S:aA)(st:ll)(gs:List Gt):(cS S st gs)[S.length+1]? =some (.lst (gs.map gN)):=by unfold cS;rw [List.getElem?_append_right (by omega),show S.length+1 - S.length=1 by omega];rfl
theorem q0(S:aA)(st:ll)(gs:List Gt)(w:List Nat):(cS S st gs).set S.length (.lst (st.map wN++[wN w]))=cS S (st++[w]) gs:=by
 unfold cS;rw[List.set_append_right _ _ (Nat.le_refl _),Nat.sub_self,List.map_append];rfl
theorem qN(S:aA)(st:ll)(gs hs:List Gt):(cS S st gs).set (S.length+1) (.lst (gs.map gN++hs.map gN))=cS S st (gs++hs):=by
 unfold cS;rw[List.set_append_right _ _ (by omega),show S.length+1 - S.length=1 by omega,List.map_append]
 rfl
theorem kE(w:List Nat):jk (wN w)=true:=by
 unfold wN jk
 induction w with
 | nil=>unfold List.map dX;rfl
 | cons a l ih=>rw [List.map_cons];unfold dX;rw [ih];rfl
theorem AQ(g:Gt):jk (gN g)=true:=by
 unfold gN jk dX dX dX dX;rw[kE];rfl
theorem oZ{n:Net}{m p:Nat}{v:Bool}{S:aA}{g:Gt}{a7 a8 a9:Option V3}(N:Plain n)(hm:m<=3)(hg:n.g[p]? =some g) :
 W3 (iK (cE n m v S.length (S.length+1) (some (.d (gN g))) a7 a8 a9) (cS S (oM n m v p).1 (oM n m v p).2)) fun o S1=>∃fG,o= .nx fG/\(∃b6 b7 b8 b9,fG=cE n m v S.length (S.length+1) b6 b7 b8 b9)/\S1=cS S (oM n m v (p+1)).1 (oM n m v (p+1)).2:=by
 have hz:sizeLine=16777216:=sizeLine_eq;have fP:=(List.getElem?_eq_some_iff.mp hg).1;have hg60:=N.ok.g60;have M:=jK N hm v p (by omega)
 have hw:=N.ok.gw p g hg;rw[N.first] at hw
 rw[ot hg];generalize hx:oM n m v p=x at M;obtain⟨st,gs⟩:=x;have hsl:st.length=n.i.length+p:=M.sl;have hgl:gs.length<=600:=by
  have:=M.gl;have h1:(if v=true then 2*m else m)<=6:=by split <;> omega
  have h2:p*(if v=true then 2*m else m)<=60*6:=Nat.mul_le_mul (by omega) h1
  have h3:gs.length=p*(if v=true then 2*m else m):=this
  omega
 have nw:∀(S':aA) (Bl:List Gt) (b7 b8 b9:Option V3),S'[S.length+1]? =some (.lst (Bl.map gN))->(aV b_ (aq (e2 cL (ai 3) (aV dR (aq (ai 5) a_))) (aq (ai 1) a_))) (bX S' (cE n m v S.length (S.length+1) (some (.d (gN g))) b7 b8 b9))= .ok (wN (iY (n.i.length*m+Bl.length) m)):=fun S' Bl b7 b8 b9 e=>by
  simp only[cE,bX,List.map_cons,List.map_nil,res,e];exact bJ (ds:=[.int ((n.i.length*m+Bl.length:Nat):Int), .int m]) (aJ (bB (a:= .int ((n.i.length*m:Nat):Int)) (b:= .int Bl.length) rfl (bJ (ds:=[.lst (Bl.map gN)]) rfl (by rw[k7,List.length_map])) rfl) rfl) (oA (by omega))
 unfold iK;refine aF (bp (by simp only[cE,List.length_cons,List.length_nil];omega) (sR (d:=wN (iY (n.i.length*m+gs.length) m)) (nw _ gs _ _ _ (xH S st gs)) (kE _) ⟨_,rfl,?_⟩))
 unfold cE;simp only[List.set];refine aF (lO (rT (ds:=eu 0 m) (ju rfl (by omega)) ?_))
 refine(eG (fun j δ S2=>(∃b8,δ=cE n m v S.length (S.length+1) (some (.d (gN g))) (some (.d (wN (iY (n.i.length*m+gs.length) m)))) b8 a9)/\S2=cS S st (gs++(List.range j).map fun j=>⟨g.k,g.w.map fun z=>rd st z j,g.s⟩))
  ⟨⟨_,rfl⟩,by simp⟩ ?_).mono fun o S2 ⟨fG,e,⟨b8,hδ⟩,hS⟩=>⟨fG,e,?_⟩
 .rintro j u δ S2 hu ⟨⟨b8,rfl⟩,rfl⟩;obtain⟨hj,rfl⟩:=kC hu;refine⟨cE n m v S.length (S.length+1) (some (.d (gN g))) (some (.d (wN (iY (n.i.length*m+gs.length) m)))) (some (.d (.int j))) a9,rfl,?_⟩;unfold kP;have ea:=wz S st (gs++(List.range j).map fun j=>(⟨g.k,g.w.map fun z=>rd st z j,g.s⟩:Gt))
  have eb:=xH S st (gs++(List.range j).map fun j=>(⟨g.k,g.w.map fun z=>rd st z j,g.s⟩:Gt))
  refine mf (k:=S.length+1) rfl ⟨_,eb⟩ (sR (d:=gN ⟨g.k,g.w.map fun z=>rd st z j,g.s⟩) ?_ (AQ _) ⟨_,_,rfl,eb,by rw[List.length_map,List.length_append,List.length_map,List.length_range];omega,_,rfl,⟨_,rfl⟩,?_⟩)
  .simp only[cE,bX,List.map_cons,List.map_nil,res,ea,eb];refine dS (aJ (bB (a:=gN g) (b:= .int 0) rfl rfl rfl) (aJ (wy (j:=j) (w:=g.w) wN (fun w=> .inl rfl) M.sw hj (by have:=hw.le;omega) (fun z hz=>by have:=hw.lt z hz;show z < st.length;omega) (bB (a:=gN g) (b:= .int 1) rfl rfl rfl) rfl) (aJ (bB (a:=gN g) (b:= .int 2) rfl rfl rfl) rfl))) (by simp;omega)
  .have:=qN S st (gs++(List.range j).map fun j=>(⟨g.k,g.w.map fun z=>rd st z j,g.s⟩:Gt)) [⟨g.k,g.w.map fun z=>rd st z j,g.s⟩]
   rw[List.append_assoc,<-k6 (fun j=>(⟨g.k,g.w.map fun z=>rd st z j,g.s⟩:Gt))] at this
   exact this
 rw[gP] at hS;have hS:S2=cS S st (gs++cps m st g):=hS;subst hδ hS;have hcl:(cps m st g).length=m:=by unfold cps;rw [List.length_map,List.length_range]
 cases v with
 | true=>
   refine dW (dn (b:=true) rfl ?_);rw[if_pos rfl];refine aF (bp (by simp only[cE,List.length_cons,List.length_nil];omega) (sR (d:=wN (iY (n.i.length*m+(gs++cps m st g).length) m)) (nw _ _ _ _ _ (xH S st _)) (kE _) ⟨_,rfl,?_⟩))
   unfold cE;simp only[List.set];have eb:=xH S st (gs++cps m st g);refine aF (Bt (k:=S.length+1) rfl ⟨_,eb⟩ (cn (d:= .lst ((List.replicate m (⟨lY,iY (n.i.length*m+gs.length) m,g.s⟩:Gt)).map gN)) ?_ ⟨_,_,rfl,eb,?_,_,rfl,?_⟩))
   .refine fX (dg (ds:=(iY (n.i.length*m+(gs++cps m st g).length) m).map nN) (qf rfl) (by rw[List.length_map,hX];omega) ?_)
    have:(List.replicate m (⟨lY,iY (n.i.length*m+gs.length) m,g.s⟩:Gt)).map gN=(iY (n.i.length*m+(gs++cps m st g).length) m).map fun _=>gN ⟨lY,iY (n.i.length*m+gs.length) m,g.s⟩:=by
     rw[List.map_replicate,List.map_const',hX]
    rw[this];exact cD _ _ fun z _=>⟨[.val (nN z), .val (gN g), .val (wN (iY (n.i.length*m+gs.length) m))],rfl,rfl,dS (aJ rfl (aJ rfl (aJ (bB (a:=gN g) (b:= .int 2) rfl rfl rfl) rfl))) (by simp;omega)⟩
   .rw [List.length_map,List.length_map,List.length_append,List.length_replicate,hcl];omega
   .rw [qN];have ea:=wz S st (gs++cps m st g++List.replicate m (⟨lY,iY (n.i.length*m+gs.length) m,g.s⟩:Gt));refine mf (k:=S.length) rfl ⟨_,ea⟩ (cn (d:=wN (iY (n.i.length*m+(gs++cps m st g).length) m)) rfl ⟨_,_,rfl,ea,by rw[List.length_map,hsl];have:=N.ok.i6;omega,_,rfl,⟨_,_,_,_,rfl⟩,?_⟩)
    rw[q0];rfl
 | false=>
   refine dW (dn (b:=false) rfl ?_);rw[if_neg (by decide)]
   have ea:=wz S st (gs++cps m st g);refine mf (k:=S.length) rfl ⟨_,ea⟩ (cn (d:=wN (iY (n.i.length*m+gs.length) m)) rfl ⟨_,_,rfl,ea,by rw[List.length_map,hsl];have:=N.ok.i6;omega,_,rfl,⟨_,_,_,_,rfl⟩,?_⟩)
   rw[q0];rfl
def k_(n:Nat):V3:= .tup [.loc (n+2), .loc (n+1), .loc (n+3)]
def f_(st:ll)(x:Net):aA:=[.lst (st.map wN), .lst (x.g.map gN), .lst (x.i.map iN), .lst (x.o.map oN)]
theorem jH{n:Net}{m:Nat}{v:Bool}{S:aA}(N:Plain n)(hm:m<=3):W3 (jd dj i7 [.d n.d, .d (.int m), .d (.bl v)] S) fun u S1=>u=k_ S.length/\S1=S++f_ (gL n m v).1 (made n m v):=by
 have hz:sizeLine=16777216:=sizeLine_eq;have hi6:=N.ok.i6;have hg60:=N.ok.g60;have ho6:=N.ok.o6;have him:n.i.length*m<=6*3:=Nat.mul_le_mul hi6 hm;refine uU rfl ?_;simp only[bM,dj,List.map,List.length,List.replicate,List.cons_append,List.nil_append,Nat.reduceAdd,Nat.reduceSub];unfold i7;have elen:∀δ:ar,δ[0]? =some (.val n.d)->aV dR (aq (e2 cu (ai 0) (eC (.int 0))) a_) δ= .ok (.int n.i.length):=fun δ h=>bJ (ds:=[.lst (n.i.map iN)]) (aJ (bB (a:=n.d) (b:= .int 0) (by unfold ai;rw [h]) rfl rfl) rfl) (by rw[k7,List.length_map])
 refine aF (bp (by simp) (cn (d:= .int ((n.i.length*m:Nat):Int)) (bB (a:= .int n.i.length) (b:= .int m) (elen _ rfl) rfl (tH (by omega))) ⟨_,rfl,?_⟩))
 simp only[List.set];refine aF (bp (by simp) (gv (ds:=(mM n.i.length m).map wN) ?_ ⟨_,rfl,?_⟩))
 .refine dg (ds:=eu 0 n.i.length) (ju (elen _ rfl) (by omega)) (by rw[nG];omega) ?_
  have:(mM n.i.length m).map wN=(eu 0 n.i.length).map fun d=>match d with | .int j=>wN (iY (j.toNat*m) m) | _=> .cy:=by
   unfold mM eu;rw[List.map_map,List.map_map];refine List.map_congr_left fun j hj=>?_
   show wN (iY (j*m) m)=wN (iY ((0+(j:Int)).toNat*m) m);rw[show(0+(j:Int)).toNat=j by omega]
  rw[this];refine jR _ fun d hd=>?_
  obtain⟨j,hj,rfl⟩:=List.mem_map.mp hd;rw[List.mem_range] at hj;refine⟨[.val (.int (0+(j:Int))), .val (.int m)],rfl,rfl,?_⟩;show _=R.ok (wN (iY ((0+(j:Int)).toNat*m) m));rw[show(0+(j:Int)).toNat=j by omega]
  refine bJ (ds:=[.int ((j*m:Nat):Int), .int m]) (aJ (bB (a:= .int j) (b:= .int m) ?_ rfl (tH (by omega))) rfl) (oA (by omega))
  show R.ok (D.int (0+(j:Int)))=_;rw[Int.zero_add]
 simp only[List.set];refine aF (bp (by simp) (gv (ds:=[]) rfl ⟨_,rfl,?_⟩))
 simp only[List.set];have e0:(S++[SO.lst ((mM n.i.length m).map wN)])++[SO.lst []]=cS S (oM n m v 0).1 (oM n m v 0).2:=by unfold cS oM;rw [List.take_zero,List.append_assoc];rfl
 have l0:(S++[SO.lst ((mM n.i.length m).map wN)]).length=S.length+1:=by simp
 rw[e0,l0];refine aF (lO (rT (ds:=n.g.map gN) rfl ?_));refine(eG (fun p δ S2=>(∃b6 b7 b8 b9,δ=cE n m v S.length (S.length+1) b6 b7 b8 b9)/\S2=cS S (oM n m v p).1 (oM n m v p).2) ⟨⟨_,_,_,_,rfl⟩,rfl⟩ ?_).mono fun o S2 ⟨fG,e,⟨b6,b7,b8,b9,hδ⟩,hS⟩=>⟨fG,e,?_⟩
 .rintro p u δ S2 hu ⟨⟨b6,b7,b8,b9,rfl⟩,rfl⟩;obtain⟨g,hg,rfl⟩:=AM hu;exact⟨_,rfl,oZ N hm hg⟩
 rw[List.length_map,List.length_map,jq] at hS;have M:=jK N hm v n.g.length (Nat.le_refl _);rw[jq] at M;subst hδ hS;unfold cE;refine aF (bp (by simp) (gv (ds:=(made n m v).i.map iN) ?_ ⟨_,rfl,?_⟩))
 .refine dg (ds:=n.i.map iN) rfl (by rw[List.length_map];omega) ?_
  show _=R.ok ((n.i.map fun x=>(x.1,m)).map iN)
  rw[List.map_map];exact cD _ _ fun x hx=>⟨[.val (.str x.1), .val (.int x.2), .val (.int m)],rfl,rfl,dS rfl (by simp;omega)⟩
 simp only[List.set];have l1:(cS S (gL n m v).1 (gL n m v).2).length=S.length+2:=by unfold cS;simp
 have ea:(cS S (gL n m v).1 (gL n m v).2++[SO.lst ((made n m v).i.map iN)])[S.length]? =some (.lst ((gL n m v).1.map wN)):=by rw[List.getElem?_append_left (by omega)];exact wz _ _ _
 refine aF (bp (by simp) (z6 (ds:=(made n m v).o.map oN) ?_ ?_ ⟨_,rfl,?_⟩))
 .simp only[bX,List.map_cons,List.map_nil,res,ea];refine dg (ds:=n.o.map oN) rfl (by rw[List.length_map];omega) ?_
  show _=R.ok ((n.o.map fun x=>(x.1,(gL n m v).1.getD (x.2.headD 0) [])).map oN)
  rw[List.map_map];refine cD _ _ fun x hx=>⟨[.val (.str x.1), .val (wN x.2), .val (.lst ((gL n m v).1.map wN))],rfl,rfl,?_⟩
  have hw:=N.ok.ow x hx;rw[N.first] at hw
  obtain⟨z,l,hzl⟩:=List.exists_cons_of_ne_nil hw.ne;have gE:z < (gL n m v).1.length:=by have:=hw.lt z (by rw[hzl];exact List.mem_cons_self);rw [M.sl];omega
  refine dS (aJ rfl (aJ (bB (a:= .lst ((gL n m v).1.map wN)) (b:= .int z) rfl (bB (a:=wN x.2) (b:= .int 0) rfl rfl ?_) (jf ?_)) rfl)) (by simp;omega)
  .rw [hzl];exact xS _ _
  .rw [List.getElem?_map,List.getElem?_eq_getElem gE];show some (wN (gL n m v).1[z])=some (wN ((gL n m v).1.getD (x.2.headD 0) []));rw[hzl];show _=some (wN ((gL n m v).1.getD z []));rw[List.getD_eq_getElem?_getD,List.getElem?_eq_getElem gE];rfl
 .have:∀l:KU,dX (l.map oN)=true:=fun l=>by
   induction l with
   | nil=>unfold List.map dX;rfl
   | cons a l ih=>
     rw[List.map_cons];unfold dX;rw[ih];have:jk (oN a)=true:=by unfold oN jk dX dX dX;rw [kE];rfl
     rw[this];rfl
  exact this _
 simp only[List.set];refine fI (me (ax (w_var rfl (ax (w_var rfl (ax (w_var rfl (bC ⟨by simp;omega,_,rfl,?_,?_⟩))))))))
 .show nZ [.loc _, .loc _, .loc _]=_;rw[List.length_append,l1];rfl
 .unfold f_ cS;rw[List.append_assoc,List.append_assoc];rfl
end K29
end
section
namespace K29
open PySem PySem.Spec PyProof.Rows L2 L3 NT
theorem u6(bs:List Bool):sr [.lst (bs.map D.bl)]= .ok (.bl (bs.all id)):=by
 show(match bls? (bs.map D.bl) with | some bs=>R.ok (D.bl (bs.all id)) | none=> .no)=_
 rw[rg]
def mS(n:Net):Bool:=(n.i.all fun x=>x.2==1) && n.o.all fun x=>x.2.length==1
theorem sN{n:Net}(hi:n.i.length<=1000)(ho:n.o.length<=1000):cG [n.d, .int 1]= .ok (.bl (mS n)):=by
 have hz:sizeLine=16777216:=sizeLine_eq;unfold cG;refine vB ?_;unfold jg;have e1:(n.i.map fun x:Str × Nat=>D.bl (x.2==1))=(n.i.map fun x=>x.2==1).map D.bl:=by rw[List.map_map];rfl
 have AV:(n.o.map fun x:Str × List Nat=>D.bl (x.2.length==1))=(n.o.map fun x=>x.2.length==1).map D.bl:=by rw[List.map_map];rfl
 refine wO (wu (d:= .bl (n.i.all fun x=>x.2==1)) (bJ (ds:=[.lst (n.i.map fun x=>D.bl (x.2==1))]) (aJ (fX (dg (ds:=n.i.map iN) rfl (by rw[List.length_map];omega) ?_)) rfl) (by rw[e1,u6,List.all_map];rfl)) (by simp [fV,dP])) ?_
 .refine cD _ _ fun x hx=>⟨[.val (iN x), .val (.int 1)],rfl,rfl,bB (a:= .int x.2) (b:= .int 1) (bB (a:=iN x) (b:= .int 1) rfl rfl rfl) rfl ?_⟩
  show R.ok (D.bl _)=_;congr 2;show((x.2:Int)==1)=(x.2==1);rw[Bool.eq_iff_iff,beq_iff_eq,beq_iff_eq];omega
 have last:aV sr (aq (eNew (dA (di (e2 cu (ai 0) (eC (.int 2)))) (j4 2 (dG (cj 0) (dG (cj 1) j5))) iJ (e2 qC (aV dR (aq (ai 1) a_)) (ai 2)) ["name","wires"] [1])) a_) [.val n.d, .val (.int 1), .val (.bl (n.i.all fun x=>x.2==1))]= .ok (.bl (n.o.all fun x=>x.2.length==1)):=by
  refine bJ (ds:=[.lst (n.o.map fun x=>D.bl (x.2.length==1))]) (aJ (fX (dg (ds:=n.o.map oN) rfl (by rw[List.length_map];omega) ?_)) rfl) (by rw[AV,u6,List.all_map];rfl)
  refine cD _ _ fun x hx=>⟨[.val (.str x.1), .val (wN x.2), .val (.int 1)],rfl,rfl,bB (a:= .int x.2.length) (b:= .int 1) (bJ (ds:=[wN x.2]) rfl ?_) rfl ?_⟩
  .show R.ok (D.int ((x.2.map nN).length:Int))=_;rw[List.length_map]
  .show R.ok (D.bl _)=_;congr 2;show((x.2.length:Int)==1)=(x.2.length==1);rw[Bool.eq_iff_iff,beq_iff_eq,beq_iff_eq];omega
 refine rn ?_;unfold mS;cases h:(n.i.all fun x=>x.2==1) with
 | true=>
   rw[h] at last;exact AF rfl last
 | false=>rfl
section
variable {n:Net} {S:aA} {t:Nat}
theorem vC(hi:n.i.length<=1000)(ho:n.o.length<=1000){Q:Bool->aA->Prop}(h:Q (!mS n) S):W3 (wc (bP (oQ (lF (aV cG (aq (ai 0) (aq (eC (.int 1)) a_)))))) [some (.d n.d),some (.d (.int t))] S) Q:=by
 refine gA (dn (b:=!mS n) ?_ h);show oQ (lF (aV cG (aq (ai 0) (aq (eC (.int 1)) a_)))) [.val n.d, .val (.int t)]=_;unfold oQ lF;rw[bJ (ds:=[n.d, .int 1]) rfl (sN hi ho)];rfl
theorem yr(hg:n.g.length<=60)(ht:t<=6){Q:Bool->aA->Prop}(h:Q (decide (60 < n.g.length*t)) S):W3 (wc (bP (b2 sM (e2 eV (aV dR (aq (e2 cu (ai 0) (eC (.int 1))) a_)) (ai 1)) (eC c0))) [some (.d n.d),some (.d (.int t))] S) Q:=by
 have hb:n.g.length*t<=60*6:=Nat.mul_le_mul hg ht;refine gA (dn (b:=decide (60 < n.g.length*t)) (oa (a:= .int ((n.g.length*t:Nat):Int)) (b:= .int 60) (bB (a:= .int n.g.length) (b:= .int t) (bJ (ds:=[.lst (n.g.map gN)]) (aJ (bB (a:=n.d) (b:= .int 1) rfl rfl rfl) rfl) (by rw[k7,List.length_map])) rfl (tH (by omega))) rfl ?_) h)
 show R.ok (D.bl (decide ((60:Int) < ((n.g.length*t:Nat):Int))))=_;congr 2;rw[Bool.eq_iff_iff,decide_eq_true_eq,decide_eq_true_eq];omega
theorem mT(hi:n.i.length<=1000)(ho:n.o.length<=1000)(h:mS n=false):aD [.d n.d, .d (.int t)] S= .ex 8 S:=by
 refine BM rfl ?_;simp only[bM,cJ,List.map,List.length,List.replicate,List.cons_append,List.nil_append,Nat.reduceAdd,Nat.reduceSub];unfold dh;refine nh (pY (vC hi ho ?_));rw[h];exact x_raise (dE (ax (cn rfl (bC ⟨by show 1<=sizeLine;decide,rfl⟩))))
theorem m3(hi:n.i.length<=1000)(ho:n.o.length<=1000)(hg:n.g.length<=60)(ht:t=2\/t=3\/t=6)(h:mS n=true)(hl:60 < n.g.length*t):aD [.d n.d, .d (.int t)] S= .ex 5 S:=by
 refine BM rfl ?_;simp only[bM,cJ,List.map,List.length,List.replicate,List.cons_append,List.nil_append,Nat.reduceAdd,Nat.reduceSub];unfold dh;refine Ac (dW (vC hi ho ?_));rw[h];refine eH ⟨_,rfl,pY (yr hg (by omega) ?_)⟩
 rw[decide_eq_true hl];refine x_raise (dE (ax ?_));rcases ht with rfl | rfl | rfl
 .exact cn rfl (bC ⟨by show 1<=sizeLine;decide,rfl⟩)
 .exact cn rfl (bC ⟨by show 1<=sizeLine;decide,rfl⟩)
 .exact cn rfl (bC ⟨by show 1<=sizeLine;decide,rfl⟩)
theorem m7(hi:n.i.length<=1000)(ho:n.o.length<=1000)(hg:n.g.length<=60)(ht:t<=6)(h:mS n=true)(hl:n.g.length*t<=60){Q:V3->aA->Prop}(q:Q (.d .cy) S):W3 (aD [.d n.d, .d (.int t)] S) Q:=by
 refine D8 rfl ?_;simp only[bM,cJ,List.map,List.length,List.replicate,List.cons_append,List.nil_append,Nat.reduceAdd,Nat.reduceSub];unfold dh;refine aF (dW (vC hi ho ?_));rw[h];refine eH ⟨_,rfl,dW (yr hg ht ?_)⟩;rw[decide_eq_false (by omega)]
 exact eH ⟨⟨_,rfl⟩,q⟩
end
end K29
end
section
namespace K29
open PySem PySem.Spec PyProof.Rows L2 L3 NT
theorem vg(S:aA)(st:ll)(x:Net):(S++f_ st x)[S.length+1]? =some (.lst (x.g.map gN))/\(S++f_ st x)[S.length+2]? =some (.lst (x.i.map iN))/\(S++f_ st x)[S.length+3]? =some (.lst (x.o.map oN)):=by
 refine⟨?_,?_,?_⟩
 .rw [List.getElem?_append_right (by omega),show S.length+1 - S.length=1 by omega];rfl
 .rw [List.getElem?_append_right (by omega),show S.length+2 - S.length=2 by omega];rfl
 .rw [List.getElem?_append_right (by omega),show S.length+3 - S.length=3 by omega];rfl
theorem rL(S:aA)(st:ll)(x:Net):res (S++f_ st x) (k_ S.length)=some x.d:=by
 obtain⟨h1,h2,h3⟩:=vg S st x;simp [k_,res,kN,h1,h2,h3,Net.d]
theorem om{S:aA}(h:cf S)(st:ll)(x:Net):cf (S++f_ st x):=fun o ho=>by
 rcases List.mem_append.mp ho with q | q
 .exact h o q
 .simp only[f_,List.mem_cons,List.not_mem_nil,or_false] at q;rcases q with rfl | rfl | rfl | rfl <;> exact⟨_,rfl⟩
theorem nL{N:List Str}{vs:List V3}{S:aA}{st:ll}{x:Net}{Q:V3->aA->Prop}(hS:cf S)(h:W3 (jd N F vs S) fun u S1=>u=k_ S.length/\S1=S++f_ st x)(hq:Q (.d x.d) S):W3 (mm N F vs S) Q:=by
 refine tq (h.mono fun u S1 ⟨e1,AV⟩=>?_)
 subst e1 AV;refine⟨om hS _ _,by simp [k_,ek,gx],_,rL _ _ _,?_⟩
 rw[List.take_append_of_le_length (Nat.le_refl _),List.take_length];exact hq
theorem g_{n:Net}(N:Plain n):mS n=true:=by
 unfold mS;rw[Bool.and_eq_true,List.all_eq_true,List.all_eq_true];exact⟨fun x hx=>by simp [N.i x hx],fun x hx=>by simp [N.o x hx]⟩
section
variable {n:Net} {S:aA}
theorem wR{c:Nat}(h:aD [.d n.d, .d (.int ((2:Nat):Int))] S= .ex c S):cQ [.d n.d] S= .ex c S:=by
 refine BM rfl ?_;simp only[bM,eQ,List.map,List.length,List.replicate,List.cons_append,List.nil_append,Nat.reduceAdd,Nat.reduceSub];unfold fR;exact nh (ql (x_call (dE (ax (cn (d:=n.d) rfl (ax (cn (d:= .int 2) rfl (bC h))))))))
theorem yb(N:Plain n)(hS:cf S)(h:n.g.length*2<=60){Q:V3->aA->Prop}(q:Q (.d (made n 2 false).d) S):W3 (cQ [.d n.d] S) Q:=by
 have h1:=N.ok.i6;have h2:=N.ok.o6;have h3:=N.ok.g60;refine uU rfl ?_;simp only[bM,eQ,List.map,List.length,List.replicate,List.cons_append,List.nil_append,Nat.reduceAdd,Nat.reduceSub];unfold fR;refine aF (pX (cV (dE (ax (cn (d:=n.d) rfl (ax (cn (d:= .int 2) rfl (bC (m7 (t:=2) (by omega) (by omega) h3 (by omega) (g_ N) h ⟨_,rfl,?_⟩)))))))))
 exact vD (fI (cV (ax (cn (d:=n.d) rfl (ax (cn (d:= .int 2) rfl (ax (cn (d:= .bl false) rfl (bC (nL hS (jH (m:=2) (v:=false) N (by omega)) ⟨_,rfl,q⟩))))))))))
theorem pairs_len(N:Plain n):(made n 2 false).g.length=n.g.length*2:=by
 have:=(jK N (m:=2) (by omega) false n.g.length (Nat.le_refl _)).gl
 rw[jq] at this;exact this
theorem uZ{c:Nat}(h:aD [.d n.d, .d (.int ((3:Nat):Int))] S= .ex c S):cF [.d n.d] S= .ex c S:=by
 refine BM rfl ?_;simp only[bM,eg,List.map,List.length,List.replicate,List.cons_append,List.nil_append,Nat.reduceAdd,Nat.reduceSub];unfold eY;exact nh (ql (x_call (dE (ax (cn (d:=n.d) rfl (ax (cn (d:= .int 3) rfl (bC h))))))))
theorem tZ(N:Plain n)(hS:cf S)(h:n.g.length*3<=60){Q:V3->aA->Prop}(q:Q (.d (made n 3 false).d) S):W3 (cF [.d n.d] S) Q:=by
 have h1:=N.ok.i6;have h2:=N.ok.o6;have h3:=N.ok.g60;refine uU rfl ?_;simp only[bM,eg,List.map,List.length,List.replicate,List.cons_append,List.nil_append,Nat.reduceAdd,Nat.reduceSub];unfold eY;refine aF (pX (cV (dE (ax (cn (d:=n.d) rfl (ax (cn (d:= .int 3) rfl (bC (m7 (t:=3) (by omega) (by omega) h3 (by omega) (g_ N) h ⟨_,rfl,?_⟩)))))))))
 exact vD (fI (cV (ax (cn (d:=n.d) rfl (ax (cn (d:= .int 3) rfl (ax (cn (d:= .bl false) rfl (bC (nL hS (jH (m:=3) (v:=false) N (by omega)) ⟨_,rfl,q⟩))))))))))
theorem p0(N:Plain n):(made n 3 false).g.length=n.g.length*3:=by
 have:=(jK N (m:=3) (by omega) false n.g.length (Nat.le_refl _)).gl
 rw[jq] at this;exact this
theorem wK{c:Nat}(h:aD [.d n.d, .d (.int ((6:Nat):Int))] S= .ex c S):cm [.d n.d] S= .ex c S:=by
 refine BM rfl ?_;simp only[bM,dJ,List.map,List.length,List.replicate,List.cons_append,List.nil_append,Nat.reduceAdd,Nat.reduceSub];unfold eE;exact nh (ql (x_call (dE (ax (cn (d:=n.d) rfl (ax (cn (d:= .int 6) rfl (bC h))))))))
theorem xu(N:Plain n)(hS:cf S)(h:n.g.length*6<=60){Q:V3->aA->Prop}(q:Q (.d (made n 3 true).d) S):W3 (cm [.d n.d] S) Q:=by
 have h1:=N.ok.i6;have h2:=N.ok.o6;have h3:=N.ok.g60;refine uU rfl ?_;simp only[bM,dJ,List.map,List.length,List.replicate,List.cons_append,List.nil_append,Nat.reduceAdd,Nat.reduceSub];unfold eE;refine aF (pX (cV (dE (ax (cn (d:=n.d) rfl (ax (cn (d:= .int 6) rfl (bC (m7 (t:=6) (by omega) (by omega) h3 (by omega) (g_ N) h ⟨_,rfl,?_⟩)))))))))
 exact vD (fI (cV (ax (cn (d:=n.d) rfl (ax (cn (d:= .int 3) rfl (ax (cn (d:= .bl true) rfl (bC (nL hS (jH (m:=3) (v:=true) N (by omega)) ⟨_,rfl,q⟩))))))))))
theorem sd(N:Plain n):(made n 3 true).g.length=n.g.length*6:=by
 have:=(jK N (m:=3) (by omega) true n.g.length (Nat.le_refl _)).gl
 rw[jq] at this;exact this
end
theorem nI{f g:FB}{δ:DE}{S:aA}{Q:Bool->aA->Prop}(h:W3 (f δ S) fun b S1=>b=true/\W3 (g δ S1) Q):W3 (sF f g δ S) Q:=W3.bind (h.mono fun b S1 ⟨e,h⟩=>by subst e;exact h)
theorem tu{f g:FX}{δ:DE}{S:aA}{Q:V3->aA->Prop}(h:W3 (f δ S) fun v S1=>v= .d (.bl false)/\W3 (g δ S1) Q):W3 (Dq f g δ S) Q:=W3.bind (W3.bind (h.mono fun v S1 ⟨e,h2⟩=>by subst e;exact W3.ok (by rw[if_neg (by decide)];exact h2)))
theorem eA{S:aA}{c:Nat}:(S++[SO.exc c])[S.length]? =some (.exc c):=by rw[List.getElem?_append_right (Nat.le_refl _),Nat.sub_self];rfl
def px(n:Net)(t:Nat):Int:=if mS n then(if 60 < n.g.length*t then -2 else((n.g.length*t:Nat):Int)) else -1
end K29
end
section
namespace K29
open PySem PySem.Spec PyProof.Rows L2 L3 NT
def nX:FZ:=(aQ (bA 2 (xP (k8 (eC (.int 3))))) (aQ (bA 4 (rJ (bz 3) (qD [(5,false),(8,false)]))) (aQ (bA 4 (Dq (xP (ai 4)) (rJ (bz 3) (qD [(5,false),(8,false)])))) (kR (sF (uu (lr (bz 3) (qD [(5,true),(8,true)]))) (sF (bP (oQ (lF (ai 4)))) (Bj v7 (lr (bz 3) (qD [(5,false),(8,true)])) (lr (bz 3) (qD [(5,true),(8,false)]))))) (bA 2 (qX (xP (eNew (fu (aq (k8 (eC (.int 2))) (aq (k8 (eC (.int 1))) a_))))) (d4 jZ (ak (lr (bz 3) (qD [(5,false),(8,true)])) aZ)))) ij))))
def eS:FZ:=(kR (wc (bP (b2 qC (ai 0) (eC (.int 0))))) (bA 2 (d4 dR (ak (qX (bb cQ (ji (ak (xP (ai 1)) aZ))) (yz (xP (eC (.int 1))))) aZ))) (kR (wc (bP (b2 qC (ai 0) (eC (.int 1))))) (bA 2 (d4 dR (ak (qX (bb cF (ji (ak (xP (ai 1)) aZ))) (yz (xP (eC (.int 1))))) aZ))) (bA 2 (d4 dR (ak (qX (bb cm (ji (ak (xP (ai 1)) aZ))) (yz (xP (eC (.int 1))))) aZ)))))
theorem uY:gG=aQ (bA 2 (xP (k8 (eC (.int 3))))) (aQ (kB eS (fun c=>[5,8].contains c) 3 nX) (eT (xP (ai 2)))):=rfl
section
variable {S:aA} {c:Nat} {r:Int}
theorem xb(hc:(c=5/\r= -2)\/(c=8/\r= -1)){QO:Ou->aA->Prop}(q:∀a4,QO (.nx [none,none,some (.d (.int r)),some (.loc S.length),a4]) (S++[.exc c])):W3 (nX [none,none,none,some (.loc S.length),none] (S++[.exc c])) QO:=by
 have hz:sizeLine=16777216:=sizeLine_eq;rcases hc with⟨rfl,rfl⟩ | ⟨rfl,rfl⟩
 .unfold nX;refine aF (bp (by simp) (cn (d:= .int (-3)) rfl ⟨_,rfl,?_⟩))
  simp only[List.set];refine aF (bp (by simp) (qU (w_var (v:= .loc S.length) rfl ⟨S.length,5,false,rfl,eA,rfl,⟨_,rfl,?_⟩⟩)))
  simp only[List.set];refine aF (bp (by simp) (tu (cn (d:= .bl false) rfl ⟨rfl,qU (w_var (v:= .loc S.length) rfl ⟨S.length,5,false,rfl,eA,rfl,⟨_,rfl,?_⟩⟩)⟩)))
  simp only[List.set];refine dW (nI (yL (j2 (w_var (v:= .loc S.length) rfl ⟨S.length,5,true,rfl,eA,rfl,⟨_,true,rfl,rfl,rfl,nI (dn (b:=true) rfl ⟨rfl,?_⟩)⟩⟩))));refine Ai (j2 (w_var (v:= .loc S.length) rfl ⟨S.length,5,false,rfl,eA,rfl,j2 (w_var (v:= .loc S.length) rfl ⟨S.length,5,true,rfl,eA,rfl,⟨_,_,true,rfl,rfl,rfl,?_⟩⟩)⟩));refine bp (by simp) (pK (cn (d:= .lst [.int (-2), .int (-1)]) rfl (jm (ax (j2 (w_var (v:= .loc S.length) rfl ⟨S.length,5,false,rfl,eA,rfl,bC ⟨[.bl false], .int 0,rfl,rfl,⟨.lst [.int (-2), .int (-1)], .int 0, .int (-2),rfl,rfl,rfl,?_⟩⟩⟩))))))
  simp only[List.set];exact q _
 .unfold nX;refine aF (bp (by simp) (cn (d:= .int (-3)) rfl ⟨_,rfl,?_⟩))
  simp only[List.set];refine aF (bp (by simp) (qU (w_var (v:= .loc S.length) rfl ⟨S.length,8,false,rfl,eA,rfl,⟨_,rfl,?_⟩⟩)))
  simp only[List.set];refine aF (bp (by simp) (tu (cn (d:= .bl false) rfl ⟨rfl,qU (w_var (v:= .loc S.length) rfl ⟨S.length,8,false,rfl,eA,rfl,⟨_,rfl,?_⟩⟩)⟩)))
  simp only[List.set];refine dW (nI (yL (j2 (w_var (v:= .loc S.length) rfl ⟨S.length,8,true,rfl,eA,rfl,⟨_,true,rfl,rfl,rfl,nI (dn (b:=true) rfl ⟨rfl,?_⟩)⟩⟩))));refine Ai (j2 (w_var (v:= .loc S.length) rfl ⟨S.length,8,true,rfl,eA,rfl,j2 (w_var (v:= .loc S.length) rfl ⟨S.length,8,false,rfl,eA,rfl,⟨_,_,true,rfl,rfl,rfl,?_⟩⟩)⟩));refine bp (by simp) (pK (cn (d:= .lst [.int (-2), .int (-1)]) rfl (jm (ax (j2 (w_var (v:= .loc S.length) rfl ⟨S.length,8,true,rfl,eA,rfl,bC ⟨[.bl true], .int 1,rfl,rfl,⟨.lst [.int (-2), .int (-1)], .int 1, .int (-1),rfl,rfl,rfl,?_⟩⟩⟩))))))
  simp only[List.set];exact q _
end
section
variable {n:Net} {S:aA} {way t:Nat} {x3 x4:Option V3} {a:Option V3}
theorem i3{c:Nat}(h:aD [.d n.d, .d (.int ((2:Nat):Int))] S= .ex c S):eS [some (.d (.int 0)),some (.d n.d),a,x3,x4] S= .ex c S:=by
 unfold eS;refine pY (gA (dn (b:=true) rfl ?_));rw[if_pos rfl];exact uP (mJ (pC (y6 (x_call (dE (ax (cn (d:=n.d) rfl (bC (wR h)))))))))
theorem mB(N:Plain n)(hS:cf S)(h:n.g.length*2<=60){QO:Ou->aA->Prop}(q:QO (.nx [some (.d (.int 0)),some (.d n.d),some (.d (.int ((n.g.length*2:Nat):Int))),x3,x4]) S):W3 (eS [some (.d (.int 0)),some (.d n.d),a,x3,x4] S) QO:=by
 unfold eS;refine dW (gA (dn (b:=true) rfl ?_));rw[if_pos rfl];refine bp (by simp) (jm (ax (pK (cV (dE (ax (cn (d:=n.d) rfl (bC (yb N hS h (uw (cn (d:= .int 1) rfl ⟨_,_,_,rfl,rfl,rfl,bC ⟨[.lst ((made n 2 false).g.map gN)], .int ((n.g.length*2:Nat):Int),rfl,?_,?_⟩⟩)))))))))))
 .rw [k7,List.length_map,pairs_len N]
 .simp only[List.set];exact q
theorem iz{c:Nat}(h:aD [.d n.d, .d (.int ((3:Nat):Int))] S= .ex c S):eS [some (.d (.int 1)),some (.d n.d),a,x3,x4] S= .ex c S:=by
 unfold eS;refine pY (gA (dn (b:=false) rfl ?_));rw[if_neg (by decide)]
 refine pY (gA (dn (b:=true) rfl ?_));rw[if_pos rfl];exact uP (mJ (pC (y6 (x_call (dE (ax (cn (d:=n.d) rfl (bC (uZ h)))))))))
theorem lG(N:Plain n)(hS:cf S)(h:n.g.length*3<=60){QO:Ou->aA->Prop}(q:QO (.nx [some (.d (.int 1)),some (.d n.d),some (.d (.int ((n.g.length*3:Nat):Int))),x3,x4]) S):W3 (eS [some (.d (.int 1)),some (.d n.d),a,x3,x4] S) QO:=by
 unfold eS;refine dW (gA (dn (b:=false) rfl ?_));rw[if_neg (by decide)]
 refine dW (gA (dn (b:=true) rfl ?_));rw[if_pos rfl];refine bp (by simp) (jm (ax (pK (cV (dE (ax (cn (d:=n.d) rfl (bC (tZ N hS h (uw (cn (d:= .int 1) rfl ⟨_,_,_,rfl,rfl,rfl,bC ⟨[.lst ((made n 3 false).g.map gN)], .int ((n.g.length*3:Nat):Int),rfl,?_,?_⟩⟩)))))))))))
 .rw [k7,List.length_map,p0 N]
 .simp only[List.set];exact q
theorem jv{c:Nat}(h:aD [.d n.d, .d (.int ((6:Nat):Int))] S= .ex c S):eS [some (.d (.int 2)),some (.d n.d),a,x3,x4] S= .ex c S:=by
 unfold eS;refine pY (gA (dn (b:=false) rfl ?_));rw[if_neg (by decide)]
 refine pY (gA (dn (b:=false) rfl ?_));rw[if_neg (by decide)]
 exact uP (mJ (pC (y6 (x_call (dE (ax (cn (d:=n.d) rfl (bC (wK h)))))))))
theorem nk(N:Plain n)(hS:cf S)(h:n.g.length*6<=60){QO:Ou->aA->Prop}(q:QO (.nx [some (.d (.int 2)),some (.d n.d),some (.d (.int ((n.g.length*6:Nat):Int))),x3,x4]) S):W3 (eS [some (.d (.int 2)),some (.d n.d),a,x3,x4] S) QO:=by
 unfold eS;refine dW (gA (dn (b:=false) rfl ?_));rw[if_neg (by decide)]
 refine dW (gA (dn (b:=false) rfl ?_));rw[if_neg (by decide)]
 refine bp (by simp) (jm (ax (pK (cV (dE (ax (cn (d:=n.d) rfl (bC (xu N hS h (uw (cn (d:= .int 1) rfl ⟨_,_,_,rfl,rfl,rfl,bC ⟨[.lst ((made n 3 true).g.map gN)], .int ((n.g.length*6:Nat):Int),rfl,?_,?_⟩⟩)))))))))))
 .rw [k7,List.length_map,sd N]
 .simp only[List.set];exact q
theorem xI(hi:n.i.length<=1000)(ho:n.o.length<=1000)(hg:n.g.length<=60)(hw:(way=0/\t=2)\/(way=1/\t=3)\/(way=2/\t=6))(hN:mS n=true->Plain n)(hS:cf S){Q:V3->aA->Prop}(q:Q (.d (.int (px n t))) S):W3 (gd [.d (.int way), .d n.d] S) Q:=by
 refine yA (fun o ho=>by obtain⟨ds,rfl⟩:=hS o ho;rfl) (uU rfl ?_)
 simp only[bM,eW,List.map,List.length,List.replicate,List.cons_append,List.nil_append,Nat.reduceAdd,Nat.reduceSub];rw[uY];refine aF (bp (by simp) (cn (d:= .int (-3)) rfl ⟨_,rfl,?_⟩))
 simp only[List.set];have fin:∀(T:aA) (b0 b1 b4:Option V3) (hT:∃T',T=S++T'),W3 (eT (xP (ai 2)) [b0,b1,some (.d (.int (px n t))),none,b4] T) fun o S1=>∃v,o= .rt v/\ek S.length v=true/\(∃T',S1=S++T')/\∃d,res S1 v=some d/\Q (.d d) S:=fun T b0 b1 b4 hT=>by
  refine fI (cn (d:= .int (px n t)) ?_ ⟨_,rfl,rfl,hT,_,by unfold res;rfl,q⟩)
  cases b0 <;> cases b1 <;> rfl
 have bad:∀(c:Nat) (r:Int),(c=5/\r= -2)\/(c=8/\r= -1)->px n t=r->eS [some (.d (.int way)),some (.d n.d),some (.d (.int (-3))),none,none] S= .ex c S->
  W3 (aQ (kB eS (fun c=>[5,8].contains c) 3 nX) (eT (xP (ai 2))) [some (.d (.int way)),some (.d n.d),some (.d (.int (-3))),none,none] S) fun o S1=>∃v,o= .rt v/\ek S.length v=true/\(∃T',S1=S++T')/\∃d,res S1 v=some d/\Q (.d d) S:=fun c r hc hr hb=>by
  refine aF (yZ hb (by rcases hc with⟨rfl,_⟩ | ⟨rfl,_⟩ <;> rfl) ?_)
  refine xb hc fun a4=>⟨_,rfl,_,rfl,?_⟩
  simp only[List.set];rw[<-hr];exact fin _ _ _ _ ⟨_,rfl⟩
 by_cases h1:mS n=true
 .by_cases h2:60 < n.g.length*t
  .have hd:px n t= -2:=by unfold px;rw [if_pos h1,if_pos h2]
   rcases hw with⟨rfl,rfl⟩ | ⟨rfl,rfl⟩ | ⟨rfl,rfl⟩
   .exact bad 5 (-2) (.inl ⟨rfl,rfl⟩) hd (i3 (m3 hi ho hg (.inl rfl) h1 h2))
   .exact bad 5 (-2) (.inl ⟨rfl,rfl⟩) hd (iz (m3 hi ho hg (.inr (.inl rfl)) h1 h2))
   .exact bad 5 (-2) (.inl ⟨rfl,rfl⟩) hd (jv (m3 hi ho hg (.inr (.inr rfl)) h1 h2))
  .have hd:px n t=((n.g.length*t:Nat):Int):=by unfold px;rw [if_pos h1,if_neg h2]
   rw[hd] at fin;rcases hw with⟨rfl,rfl⟩ | ⟨rfl,rfl⟩ | ⟨rfl,rfl⟩
   .exact aF (pV (mB (hN h1) hS (by omega) ⟨_,rfl,fin _ _ _ _ ⟨[],by simp⟩⟩))
   .exact aF (pV (lG (hN h1) hS (by omega) ⟨_,rfl,fin _ _ _ _ ⟨[],by simp⟩⟩))
   .exact aF (pV (nk (hN h1) hS (by omega) ⟨_,rfl,fin _ _ _ _ ⟨[],by simp⟩⟩))
 .have h1:mS n=false:=Bool.eq_false_iff.mpr h1;have hd:px n t= -1:=by unfold px;rw [h1];rfl
  rcases hw with⟨rfl,rfl⟩ | ⟨rfl,rfl⟩ | ⟨rfl,rfl⟩
  .exact bad 8 (-1) (.inr ⟨rfl,rfl⟩) hd (i3 (mT hi ho h1))
  .exact bad 8 (-1) (.inr ⟨rfl,rfl⟩) hd (iz (mT hi ho h1))
  .exact bad 8 (-1) (.inr ⟨rfl,rfl⟩) hd (jv (mT hi ho h1))
end
end K29
end
section
namespace K29
open PySem PySem.Spec PyProof.Rows L2 L3 NT
theorem uj{n:Net}{S:aA}{Q:V3->aA->Prop}(q:Q (.tup [.loc S.length, .loc (S.length+1), .loc (S.length+2)]) (S++[.lst (n.i.map iN), .lst (n.g.map gN), .lst (n.o.map oN)])):W3 (d_ [.d n.d] S) Q:=by
 refine uU rfl ?_;simp only[bM,gb,List.map,List.length,List.replicate,List.cons_append,List.nil_append,Nat.reduceAdd,Nat.reduceSub];unfold iM;refine aF (t9 (cn (d:=n.d) rfl ⟨_,rfl,⟨_,rfl,?_⟩⟩));refine fI (me (ax (gv (ds:=n.i.map iN) rfl (ax (gv (ds:=n.g.map gN) rfl (ax (gv (ds:=n.o.map oN) rfl (bC ⟨by show 3<=sizeLine;decide,_,rfl,?_⟩))))))))
 rw[List.append_assoc,List.append_assoc,List.length_append,List.length_append,List.length_append];exact q
theorem oJ(S:aA)(a b c:SO):(S++[a,b,c])[S.length]? =some a/\(S++[a,b,c])[S.length+1]? =some b/\(S++[a,b,c])[S.length+2]? =some c:=by
 refine⟨?_,?_,?_⟩
 .rw [List.getElem?_append_right (by omega),show S.length - S.length=0 by omega];rfl
 .rw [List.getElem?_append_right (by omega),show S.length+1 - S.length=1 by omega];rfl
 .rw [List.getElem?_append_right (by omega),show S.length+2 - S.length=2 by omega];rfl
theorem B3{T:aA}{a b c:Nat}{n:Net}(h1:T[a]? =some (.lst (n.i.map iN)))(h2:T[b]? =some (.lst (n.g.map gN)))(h3:T[c]? =some (.lst (n.o.map oN))):res T (.tup [.loc a, .loc b, .loc c])=some n.d:=by
 simp only[res,kN,h1,h2,h3,Option.bind_some,Option.map_some];rfl
theorem yU{n:Net}{S:aA}(hS:cf S){Q:V3->aA->Prop}(q:Q (.d n.d) S):W3 (gM [.d n.d] S) Q:=by
 refine yA (fun o ho=>by obtain⟨ds,rfl⟩:=hS o ho;rfl) (uj ?_)
 obtain⟨h1,h2,h3⟩:=oJ S (.lst (n.i.map iN)) (.lst (n.g.map gN)) (.lst (n.o.map oN));exact⟨by simp [ek,gx],⟨_,rfl⟩,_,B3 h1 h2 h3,q⟩
structure Sx (k:Nat) (S T:aA):Prop where
 p:nV k T
 len:S.length<=T.length
 oth:∀j,j < S.length->j≠k->T[j]? =S[j]?
section
variable {k:Nat} {S T T1:aA}
theorem Sx.ev(a:Sx k S T)(b:Ev k T T1):Sx k S T1:=⟨b.p,by rw[b.len];exact a.len,fun j h1 h2=>(b.oth j h2).trans (a.oth j h1 h2)⟩
theorem Sx.refl(p:nV k S):Sx k S S:=⟨p,Nat.le_refl _,fun _ _ _=>rfl⟩
theorem Sx.push(a:Sx k S T)(L:List D):Sx k S (T++[.lst L]):=by
 obtain⟨hL,x,y,e⟩:=a.p;have hk:=a.p.lt;refine⟨⟨fun o ho=>?_,x,y,?_⟩,?_,fun j h1 h2=>?_⟩
 .rcases List.mem_append.mp ho with q | q
  .exact hL o q
  .rw [List.mem_singleton.mp q];exact⟨_,rfl⟩
 .rw [List.getElem?_append_left hk];exact e
 .rw [List.length_append];have:=a.len;omega
 .rw [List.getElem?_append_left (by have:=a.len;omega)];exact a.oth j h1 h2
theorem Sx.set(a:Sx k S T){j:Nat}(hj:S.length<=j)(DQ:j≠k)(L:List D):Sx k S (T.set j (.lst L)):=by
 obtain⟨hL,x,y,e⟩:=a.p;refine⟨⟨fun o ho=>?_,x,y,?_⟩,?_,fun i h1 h2=>?_⟩
 .rcases List.mem_or_eq_of_mem_set ho with q | q
  .exact hL o q
  .rw [q];exact⟨_,rfl⟩
 .rw [List.getElem?_set_ne (fun z=>DQ z)];exact e
 .rw [List.length_set];exact a.len
 .rw [List.getElem?_set_ne (by omega)];exact a.oth i h1 h2
end
theorem lV{T:aA}{δ:DE}{i:Nat}{v:V3}{d:D}(e:δ[i]? =some (some v))(h:res T v=some d):ai i (bX T δ)= .ok d:=by
 unfold ai bX;rw[List.getElem?_map,e];simp only[Option.map_some,h]
theorem u7{T:aA}{a:Nat}{L:List D}(h:T[a]? =some (.lst L)):res T (.loc a)=some (.lst L):=by simp only[res,h]
def sh(at' more w:Nat):Nat:=w+more*(if at' < w then 1 else 0)
theorem yu{w more at':Nat}{f0 f1 f2:FD}{δ:ar}(h0:f0 δ= .ok (.int w))(h1:f1 δ= .ok (.int more))(h2:f2 δ= .ok (.int at'))(hm:more < 1000):e2 cL f0 (e2 je f1 (aV jZ (aq (e2 sM f0 f2) a_))) δ= .ok (.int ((sh at' more w:Nat):Int)):=by
 refine bB (a:= .int w) (b:= .int ((more*(if at' < w then 1 else 0):Nat):Int)) h0 (bB (a:= .int more) (b:= .int ((if at' < w then 1 else 0:Nat):Int)) h1 (bJ (ds:=[.bl (decide (at' < w))]) (aJ (bB h0 h2 ?_) rfl) ?_) (tH hm)) ?_
 .show R.ok (D.bl (decide ((at':Int) < (w:Int))))=_;congr 2;rw[Bool.eq_iff_iff,decide_eq_true_eq,decide_eq_true_eq];omega
 .by_cases h:at' < w
  .rw [decide_eq_true h,if_pos h];rfl
  .rw [decide_eq_false h,if_neg h];rfl
 .show R.ok (D.int ((w:Int)+((more*(if at' < w then 1 else 0):Nat):Int)))=_
  congr 2
structure NF (n:Net):Prop where
 i6:n.i.length<=6
 g60:n.g.length<=60
 o6:n.o.length<=6
 is:∀x∈n.i,cz 0 (.str x.1)
 gs:∀g∈n.g,cz 0 (.str g.k)
 os:∀x∈n.o,cz 0 (.str x.1)
 i1:1<=n.i.length
 o1:1<=n.o.length
theorem NF.fit{n:Net}(h:NF n):cz 4 n.d:=Net.fit h.is h.gs h.os
theorem Plain.nf{n:Net}(N:Plain n):NF n:=⟨N.ok.i6,N.ok.g60,N.ok.o6,N.ok.is,N.ok.gs,N.ok.os,N.ok.i1,N.ok.o1⟩
end K29
end
section
namespace K29
open PySem PySem.Spec PyProof.Rows L2 L3 NT
def tK(at' more:Nat)(g:Gt):Gt:=⟨g.k,g.w.map (sh at' more),g.s⟩
def G2(at' more:Nat)(x:Str × List Nat):Str × List Nat:=(x.1,[sh at' more (x.2.headD 0)])
def wE(k:Nat)(n:Net)(a b c:Nat)(way:Int)(a6 a7 a8 a9 a10 a11:Option V3):DE:=[some (.loc k),some (.d n.d),some (.loc a),some (.loc b),some (.loc c),some (.d (.int way)),a6,a7,a8,a9,a10,a11]
structure vp (k:Nat) (S T:aA) (n1:Net) (a b c:Nat):Prop where
 x:Sx k S T
 ha:T[a]? =some (.lst (n1.i.map iN))
 hb:T[b]? =some (.lst (n1.g.map gN))
 hc:T[c]? =some (.lst (n1.o.map oN))
 la:S.length<=a
 lb:S.length<=b
 lc:S.length<=c
 ab:a≠b
 ac:a≠c
 bc:b≠c
section
variable {k a b c:Nat} {S T T1:aA} {n n1:Net} {way:Int}
theorem vp.kk(h:vp k S T n1 a b c)(hk:k < S.length):a≠k/\b≠k/\c≠k:=by
 have h1:=h.la;have h2:=h.lb;have h3:=h.lc;exact⟨by omega,by omega,by omega⟩
theorem vp.ev(h:vp k S T n1 a b c)(hk:k < S.length)(v:Ev k T T1):vp k S T1 n1 a b c:=
 let⟨h1,h2,h3⟩:=h.kk hk
 ⟨h.x.ev v,(v.oth a h1).trans h.ha,(v.oth b h2).trans h.hb,(v.oth c h3).trans h.hc,h.la,h.lb,h.lc,h.ab,h.ac,h.bc⟩
theorem hU{T:aA}{a:Nat}{o:SO}(h:T[a]? =some o):a < T.length:=(List.getElem?_eq_some_iff.mp h).1
theorem yH{Q:V3->aA->Prop}{δ:DE}{i j:Nat}{L:List D}(hv:δ[i]? =some (some (.loc k)))(hj:δ[j]? =some (some (.loc a)))(hL:T[a]? =some (.lst L))(p:nV k T)(h1:1<=L.length)(h2:L.length<=1000)
 (h:∀(r:Nat) S1,r < L.length->Ev k T S1->Q (.d (.int r)) S1):W3 (bb az (ak (bz i) (ak (xT (aV dR (aq (ai j) a_))) aZ)) δ T) Q:=by
 refine cV (ax (w_var hv (ax (sR (d:= .int L.length) (bJ (ds:=[.lst L]) (aJ (lV hj (u7 hL)) rfl) (by rw[k7])) rfl (bC (qY p (by omega) (by omega) fun r S1 g1 g2 p1 hl ho=>?_))))))
 obtain⟨q,rfl⟩:=Int.eq_ofNat_of_zero_le g1;exact h q S1 (by omega) ⟨p1,hl,ho⟩
theorem z_{δ:DE}{j q:Nat}{L:List D}{fi:FD}{d:D}(hj:δ[j]? =some (some (.loc a)))(hL:T[a]? =some (.lst L))(hi:fi (bX T δ)= .ok (.int q))(hq:L[q]? =some d):e2 cu (ai j) fi (bX T δ)= .ok d:=
 bB (lV hj (u7 hL)) hi (jf hq)
theorem yD(hk:k < S.length)(F:NF n1)(L:vp k S T n1 a b c)(h1:∀x∈n1.o,x.2.length=1){a6 a7 a8 a9 a10 a11:Option V3}{QO:Ou->aA->Prop}
 (q:∀T1 n2 pq,NF n2->mS n2=false->n2.g.length=n1.g.length->vp k S T1 n2 a b c->QO (.nx (wE k n a b c way a6 a7 a8 a9 a10 pq)) T1) :
 W3 (aQ (bA 11 (bb az (ak (bz 0) (ak (xT (aV dR (aq (ai 4) a_))) aZ)))) (m5 (bz 4) (xP (ai 11)) (j7 (ak (xT (e2 cu (e2 cu (ai 4) (ai 11)) (eC (.int 0)))) (ak (x2 je (xT (e2 cu (e2 cu (ai 4) (ai 11)) (eC (.int 1)))) (x2 cL (xP (eC (.int 2))) (bb az (ak (bz 0) (ak (xP (eC (.int 2))) aZ))))) aZ)))) (wE k n a b c way a6 a7 a8 a9 a10 a11) T) QO:=by
 have hz:sizeLine=16777216:=sizeLine_eq;have o6:=F.o6;have o1:=F.o1;unfold wE;refine aF (bp (by simp) (yH (k:=k) (a:=c) rfl rfl L.hc L.x.p (by rw[List.length_map];exact o1) (by rw[List.length_map];omega) fun r T0 hr v=>⟨_,rfl,?_⟩))
 simp only[List.set];rw[List.length_map] at hr;have L0:=L.ev hk v;have hx:n1.o[r]? =some n1.o[r]:=List.getElem?_eq_getElem hr;have hxm:n1.o[r]∈n1.o:=List.getElem_mem hr;generalize n1.o[r]=x at hx hxm;have hD:(n1.o.map oN)[r]? =some (oN x):=by rw[List.getElem?_map,hx];rfl
 have sU:=h1 x hxm;refine qZ (me (ax (sR (d:= .str x.1) (bB (z_ (j:=4) (q:=r) rfl L0.hc (lV rfl rfl) hD) rfl rfl) rfl (ax (xp (sR (d:=wN x.2) (bB (z_ (j:=4) (q:=r) rfl L0.hc (lV rfl rfl) hD) rfl rfl) (kE _) (xp (cn (d:= .int 2) rfl (draw (k:=k) rfl L0.x.p rfl (by omega) (by omega) fun y T2 g1 g2 v2=>?_)))))))))
 obtain⟨y,rfl⟩:=Int.eq_ofNat_of_zero_le g1;have L2:=L0.ev hk v2;have hy:y=0\/y=1:=by omega
 refine⟨.int 2, .int y, .int ((2+y:Nat):Int),rfl,rfl,?_,wN x.2, .int ((2+y:Nat):Int),wN (List.replicate (2+y) x.2).flatten,rfl,rfl,?_,?_⟩
 .show R.ok (D.int ((2:Int)+(y:Int)))=_;congr 2
 .show R.ba (decide ((2:Int)<=((2+y:Nat):Int)/\((2+y:Nat):Int) < 1000/\x.2.map nN≠[]/\(x.2.map nN).length*((2+y:Nat):Int).toNat<=sizeLine)) (R.ok (D.tup (List.replicate ((2+y:Nat):Int).toNat (x.2.map nN)).flatten))=_;have yj:x.2.map nN≠[]:=fun z=>by
   have:=congrArg List.length z;rw[List.length_map,sU] at this;cases this
  have ht:((2+y:Nat):Int).toNat=2+y:=Int.toNat_natCast _;rw[ht,decide_eq_true ⟨by omega,by omega,yj,by rw[List.length_map,sU];omega⟩,R.so]
  unfold wN;rw[List.map_flatten,List.map_replicate]
 .refine bC ⟨by show 2<=sizeLine;decide,w_var (v:= .loc c) rfl (cn (d:= .int r) rfl ⟨oN (x.1,(List.replicate (2+y) x.2).flatten),c,r,n1.o.map oN,r,rfl,rfl,rfl,L2.hc,nC (by rw[List.length_map];exact hr),?_⟩)⟩
  have e:(n1.o.map oN).set r (oN (x.1,(List.replicate (2+y) x.2).flatten))=(n1.o.set r (x.1,(List.replicate (2+y) x.2).flatten)).map oN:=by rw[List.map_set]
  rw[e];refine q _ ⟨n1.i,n1.g,n1.o.set r (x.1,(List.replicate (2+y) x.2).flatten)⟩ _ ⟨F.i6,F.g60,by show(n1.o.set r _).length<=6;rw [List.length_set];exact o6,F.is,F.gs,fun z hz=>?_,F.i1,by show 1<=(n1.o.set r _).length;rw [List.length_set];exact o1⟩ ?_ rfl ⟨L2.x.set L2.lc (L2.kk hk).2.2 _,by rw[List.getElem?_set_ne (Ne.symm L2.ac)];exact L2.ha,by rw[List.getElem?_set_ne (Ne.symm L2.bc)];exact L2.hb,by rw[List.getElem?_set_self (hU L2.hc)],L2.la,L2.lb,L2.lc,L2.ab,L2.ac,L2.bc⟩
  .rcases List.mem_or_eq_of_mem_set hz with z1 | z1
   .exact F.os z z1
   .rw [z1];exact F.os x hxm
  .unfold mS;have:((n1.o.set r (x.1,(List.replicate (2+y) x.2).flatten)).all fun x=>x.2.length==1)=false:=by
    rw[List.all_eq_false];refine⟨(x.1,(List.replicate (2+y) x.2).flatten),List.mem_of_getElem? (i:=r) (by rw[List.getElem?_set_self hr]),?_⟩
    have hl:(List.replicate (2+y) x.2).flatten.length=2+y:=by rw[List.length_flatten,List.map_replicate,List.sum_replicate_nat,sU];omega
    show ¬((List.replicate (2+y) x.2).flatten.length==1)=true;rw[hl,beq_iff_eq];omega
   rw[this,Bool.and_false]
end
end K29
end
section
namespace K29
open PySem PySem.Spec PyProof.Rows L2 L3 NT
section
variable {k a b c:Nat} {S T T1:aA} {n n1:Net} {way:Int}
def qm:FZ:=(aQ (bA 6 (x2 cL (xP (eC (.int 1))) (bb az (ak (bz 0) (ak (xP (eC (.int 2))) aZ))))) (aQ (bA 7 (bb az (ak (bz 0) (ak (xT (aV dR (aq (ai 2) a_))) aZ)))) (aQ (m5 (bz 2) (xP (ai 7)) (xT (f9 (aq (e2 cu (e2 cu (ai 2) (ai 7)) (eC (.int 0))) (aq (e2 cL (eC (.int 1)) (ai 6)) a_))))) (aQ (bA 3 (gB (fu a_))) (aQ (mR (iP (di (e2 cu (ai 1) (eC (.int 1))))) (Ay 3 (nU (jw 8) (nU (jw 9) (nU (jw 10) zm)))) fq) (bA 4 (gB (dA (di (e2 cu (ai 1) (eC (.int 2)))) (j4 2 (dG (cj 0) (dG (cj 1) j5))) iJ (f9 (aq (ai 0) (aq (f9 (aq (e2 cL (e2 cu (ai 1) (eC (.int 0))) (e2 je (ai 2) (aV jZ (aq (e2 sM (e2 cu (ai 1) (eC (.int 0))) (ai 3)) a_)))) a_)) a_))) ["name","wires"] [6,7]))))))))
theorem yB(hk:k < S.length)(N:Plain n)(L:vp k S T n a b c){a6 a7 a8 a9 a10 a11:Option V3}{QO:Ou->aA->Prop}
 (q:∀T1 n2 b' c' b6 b7 b8 b9 pf pq,NF n2->mS n2=false->n2.g.length=n.g.length->(∀x∈n2.o,x.2.length=1)->vp k S T1 n2 a b' c'->QO (.nx (wE k n a b' c' way b6 b7 b8 b9 pf pq)) T1) :
 W3 (qm (wE k n a b c way a6 a7 a8 a9 a10 a11) T) QO:=by
 have hz:sizeLine=16777216:=sizeLine_eq;have F:=N.nf;have i6:=F.i6;have i1:=F.i1;have g60:=F.g60;have o6:=F.o6;unfold qm wE;refine aF (bp (by simp) (Bz (k:=k) rfl L.x.p (by omega) (by omega) fun more T0 m1 m2 v=>⟨_,rfl,?_⟩))
 simp only[List.set];have L0:=L.ev hk v;refine aF (bp (by simp) (yH (k:=k) (a:=a) rfl rfl L0.ha L0.x.p (by rw[List.length_map];exact i1) (by rw[List.length_map];omega) fun r T2 hr v2=>⟨_,rfl,?_⟩))
 simp only[List.set];rw[List.length_map] at hr;have L2:=L0.ev hk v2;have hx:n.i[r]? =some n.i[r]:=List.getElem?_eq_getElem hr;have hxm:n.i[r]∈n.i:=List.getElem_mem hr;generalize n.i[r]=x at hx hxm;have hD:(n.i.map iN)[r]? =some (iN x):=by rw[List.getElem?_map,hx];rfl
 have e:(n.i.map iN).set r (iN (x.1,1+more))=(n.i.set r (x.1,1+more)).map iN:=by rw[List.map_set]
 refine aF (qZ (sR (d:=iN (x.1,1+more)) (dS (ds:=[.str x.1, .int ((1+more:Nat):Int)]) (aJ (bB (z_ (j:=2) (q:=r) rfl L2.ha (lV rfl rfl) hD) rfl rfl) (aJ (bB (a:= .int 1) (b:= .int more) rfl (lV rfl rfl) ?_) rfl)) (by show 2<=sizeLine;decide)) rfl (w_var (v:= .loc a) rfl (cn (d:= .int r) rfl ⟨_,a,r,n.i.map iN,r,rfl,rfl,rfl,L2.ha,nC (by rw[List.length_map];exact hr),_,rfl,?_⟩))))
 .show R.ok (D.int ((1:Int)+(more:Int)))=_;congr 2
 rw[e];have X3:=L2.x.set L2.la (L2.kk hk).1 ((n.i.set r (x.1,1+more)).map iN);have hA:(T2.set a (.lst ((n.i.set r (x.1,1+more)).map iN)))[a]? =some (.lst ((n.i.set r (x.1,1+more)).map iN)):=by rw[List.getElem?_set_self (hU L2.ha)]
 generalize T2.set a (.lst ((n.i.set r (x.1,1+more)).map iN))=T3 at X3 hA;refine aF (bp (by simp) (gv (ds:=[]) rfl ⟨_,rfl,?_⟩))
 simp only[List.set];have Fx:∀L:List D,(T3++[SO.lst L])[T3.length]? =some (.lst L):=fun L=>by rw[List.getElem?_append_right (Nat.le_refl _),Nat.sub_self];rfl
 refine aF (lO (rT (ds:=n.g.map gN) rfl ?_));refine(eG (fun i δ T4=>(∃b8 b9 pf,δ=wE k n a T3.length c way (some (.d (.int more))) (some (.d (.int r))) b8 b9 pf a11)/\T4=T3++[.lst (((n.g.take i).map (tK r more)).map gN)]) ⟨⟨_,_,_,rfl⟩,rfl⟩ ?_).mono fun o T4 ⟨Fh,e4,⟨b8,b9,pf,hδ⟩,hT4⟩=>⟨Fh,e4,?_⟩
 .rintro i v δ T4 hv ⟨⟨b8,b9,pf,rfl⟩,rfl⟩;rw[List.getElem?_map,List.getElem?_map] at hv;cases hg:n.g[i]? with
  | none=>rw [hg] at hv;cases hv
  | some g=>
    rw[hg] at hv;cases hv;have FU:=N.ok.gw i g hg;have hil:=(List.getElem?_eq_some_iff.mp hg).1;refine⟨_,rfl,?_⟩;unfold fq wE;simp only[List.set];refine mf (k:=T3.length) rfl ⟨_,Fx _⟩ (cn (d:=gN (tK r more g)) (dS (ds:=[.str g.k,wN (g.w.map (sh r more)), .bl g.s]) (aJ rfl (aJ (bJ (ds:=[.lst ((g.w.map (sh r more)).map nN)]) (aJ (fX (dg (ds:=g.w.map nN) (qf rfl) (by rw[List.length_map];have:=FU.le;omega) ?_)) rfl) rfl) (aJ rfl rfl))) (by show 3<=sizeLine;decide)) ⟨_,_,rfl,Fx _,?_,_,rfl,⟨_,_,_,rfl⟩,?_⟩)
    .rw [List.map_map];exact cD _ _ fun w hw=>⟨[.val (nN w), .val (.int more), .val (.int r)],rfl,rfl,yu rfl rfl rfl (by omega)⟩
    .rw [List.length_map,List.length_map,List.length_take];omega
    .rw [List.set_append_right _ _ (Nat.le_refl _),Nat.sub_self,List.take_add_one,hg];show T3++[SO.lst (((n.g.take i).map (tK r more)).map gN++[gN (tK r more g)])]=T3++[.lst (((n.g.take i++[g]).map (tK r more)).map gN)];rw[List.map_append,List.map_append];rfl
 .subst hδ hT4;rw[List.length_map,List.length_map,List.take_length];have X5:=X3.push (((n.g).map (tK r more)).map gN);have hA5:(T3++[SO.lst (((n.g).map (tK r more)).map gN)])[a]? =some (.lst ((n.i.set r (x.1,1+more)).map iN)):=by rw[List.getElem?_append_left (hU hA)];exact hA
  have hB5:=Fx (((n.g).map (tK r more)).map gN);have hl5:(T3++[SO.lst (((n.g).map (tK r more)).map gN)]).length=T3.length+1:=by rw[List.length_append];rfl
  generalize T3++[SO.lst (((n.g).map (tK r more)).map gN)]=T5 at X5 hA5 hB5 hl5;unfold wE;refine bp (by simp) (gv (ds:=(n.o.map (G2 r more)).map oN) ?_ ?_)
  .refine dg (ds:=n.o.map oN) rfl (by rw[List.length_map];omega) ?_
   rw[List.map_map];refine cD _ _ fun y hy=>⟨[.val (.str y.1), .val (wN y.2), .val (.int more), .val (.int r)],rfl,rfl,?_⟩
   have hy1:=N.o y hy
   match hy2:y.2,hy1 with
   | [w],_=>
     show _=R.ok (oN (y.1,[sh r more (y.2.headD 0)]));rw[hy2];refine dS (ds:=[.str y.1,wN [sh r more w]]) (aJ rfl (aJ (dS (ds:=[.int ((sh r more w:Nat):Int)]) (aJ (yu (f0:=e2 cu (ai 1) (eC (.int 0))) (w:=w) (at':=r) ?_ rfl rfl (by omega)) rfl) (by show 1<=sizeLine;decide)) rfl)) (by show 2<=sizeLine;decide)
     rfl
  .simp only[List.set];have aT:=hU hA;have aS:=L2.la;have lS:=X3.len;refine q _ ⟨n.i.set r (x.1,1+more),n.g.map (tK r more),n.o.map (G2 r more)⟩ T3.length T5.length _ _ _ _ _ _ ⟨by show(n.i.set r _).length<=6;rw [List.length_set];exact i6,by show(n.g.map _).length<=60;rw [List.length_map];exact g60,by show(n.o.map _).length<=6;rw [List.length_map];exact o6,fun z hz=>?_,fun z hz=>?_,fun z hz=>?_,by show 1<=(n.i.set r _).length;rw [List.length_set];exact i1,by show 1<=(n.o.map _).length;rw [List.length_map];exact F.o1⟩ ?_ (by show(n.g.map _).length=_;rw [List.length_map]) (fun z hz=>?_) ⟨X5.push _,?_,?_,?_,aS,lS,by omega,by omega,by omega,by omega⟩
   .rcases List.mem_or_eq_of_mem_set hz with z1 | z1
    .exact F.is z z1
    .rw [z1];exact F.is x hxm
   .obtain⟨g,hg,rfl⟩:=List.mem_map.mp hz;exact F.gs g hg
   .obtain⟨y,hy,rfl⟩:=List.mem_map.mp hz;exact F.os y hy
   .unfold mS;have:((n.i.set r (x.1,1+more)).all fun x=>x.2==1)=false:=by
     rw[List.all_eq_false];refine⟨(x.1,1+more),List.mem_of_getElem? (i:=r) (by rw[List.getElem?_set_self hr]),?_⟩
     show ¬((1+more)==1)=true;rw[beq_iff_eq];omega
    rw[this,Bool.false_and]
   .obtain⟨y,hy,rfl⟩:=List.mem_map.mp hz;rfl
   .rw [List.getElem?_append_left (by omega)];exact hA5
   .rw [List.getElem?_append_left (by omega)];exact hB5
   .rw [List.getElem?_append_right (Nat.le_refl _),Nat.sub_self];rfl
end
end K29
end
section
namespace K29
open PySem PySem.Spec PyProof.Rows L2 L3 NT
theorem vt:gS=aQ (sI (bb d_ (ak (xP (ai 1)) aZ)) (Ay 3 (nU (jw 2) (nU (jw 3) (nU (jw 4) zm))))) (aQ (bA 5 (bb az (ak (bz 0) (ak (xP (eC (.int 4))) aZ)))) (aQ (kR (bP (DA (b2 qC (ai 5) (eC (.int 1))) (b2 qC (ai 5) (eC (.int 3))))) qm ij) (aQ (kR (bP (b2 sM (ai 5) (eC (.int 1)))) (aQ (bA 11 (bb az (ak (bz 0) (ak (xT (aV dR (aq (ai 4) a_))) aZ)))) (m5 (bz 4) (xP (ai 11)) (j7 (ak (xT (e2 cu (e2 cu (ai 4) (ai 11)) (eC (.int 0)))) (ak (x2 je (xT (e2 cu (e2 cu (ai 4) (ai 11)) (eC (.int 1)))) (x2 cL (xP (eC (.int 2))) (bb az (ak (bz 0) (ak (xP (eC (.int 2))) aZ))))) aZ))))) ij) (eT (p7 (ak (j7 (ak (bz 2) (ak (bz 3) (ak (bz 4) aZ)))) (ak (xP (e2 sM (ai 5) (eC (.int 0)))) aZ))))))):=rfl
section
variable {k:Nat} {S:aA} {n:Net}
theorem x_{T:aA}{n1:Net}{a b c:Nat}{w:Nat}{a6 a7 a8 a9 a10 a11:Option V3}(L:vp k S T n1 a b c){Q:V3->aA->Prop}(q:Q (.d (.lst [n1.d, .bl (decide (0 < w))])) (T.take S.length)) :
 W3 (eT (p7 (ak (j7 (ak (bz 2) (ak (bz 3) (ak (bz 4) aZ)))) (ak (xP (e2 sM (ai 5) (eC (.int 0)))) aZ))) (wE k n a b c w a6 a7 a8 a9 a10 a11) T) fun o S1=>∃v,o= .rt v/\cf S1/\ek S.length v=true/\∃d,res S1 v=some d/\Q (.d d) (S1.take S.length):=by
 have h1:=L.la;have h2:=L.lb;have h3:=L.lc;unfold wE;refine fI (uB (ax (me (ax (w_var (v:= .loc a) rfl (ax (w_var (v:= .loc b) rfl (ax (w_var (v:= .loc c) rfl (bC ⟨by show 3<=sizeLine;decide,ax (cn (d:= .bl (decide (0 < w))) (bB (a:= .int w) (b:= .int 0) ?_ rfl ?_) (bC ⟨by show 2<=sizeLine;decide,_,rfl,L.x.p.1,?_, .lst [n1.d, .bl (decide (0 < w))],?_,q⟩))⟩))))))))))
 .cases a6 <;> cases a7 <;> cases a8 <;> cases a9 <;> cases a10 <;> cases a11 <;> rfl
 .show R.ok (D.bl (decide ((0:Int) < (w:Int))))=_;congr 2;rw[Bool.eq_iff_iff,decide_eq_true_eq,decide_eq_true_eq];omega
 .show ek S.length (.lst [.tup [.loc a, .loc b, .loc c], .d _])=true;simp [ek,gx,h1,h2,h3]
 .show res T (.lst [.tup [.loc a, .loc b, .loc c], .d (.bl (decide (0 < w)))])=_;have e:=B3 L.ha L.hb L.hc;simp only[res,kN] at e ⊢;rw[e];rfl
theorem ki{T:aA}(hk:k < S.length)(X:Sx k S T):Ev k S (T.take S.length):=by
 obtain⟨hL,x,y,e⟩:=X.p;have:=X.len;refine⟨⟨hL.take _,x,y,by rw[List.getElem?_take_of_lt hk];exact e⟩,by rw[List.length_take];omega,fun j hj=>?_⟩
 by_cases hjl:j < S.length
 .rw [List.getElem?_take_of_lt hjl];exact X.oth j hjl hj
 .rw [List.getElem?_eq_none (by rw[List.length_take];omega),List.getElem?_eq_none (by omega)]
theorem wk(p:nV k S)(N:Plain n){Q:V3->aA->Prop}(q:∀(n1:Net) (b:Bool) T,NF n1->n1.g.length=n.g.length->mS n1=!b->(mS n1=true->Plain n1)->Ev k S T->Q (.d (.lst [n1.d, .bl b])) T):W3 (gc [.loc k, .d n.d] S) Q:=by
 have hk:=p.lt;unfold gc;refine tq (uU rfl ?_);simp only[bM,dw,List.map,List.length,List.replicate,List.cons_append,List.nil_append,Nat.reduceAdd,Nat.reduceSub];rw[vt];refine aF (t9 (cV (ax (cn (d:=n.d) rfl (bC (uj ⟨_,rfl,⟨_,rfl,?_⟩⟩))))));obtain⟨h1,h2,h3⟩:=oJ S (.lst (n.i.map iN)) (.lst (n.g.map gN)) (.lst (n.o.map oN));have X0:Sx k S (S++[.lst (n.i.map iN), .lst (n.g.map gN), .lst (n.o.map oN)]):=by
  have:=(((Sx.refl p).push (n.i.map iN)).push (n.g.map gN)).push (n.o.map oN);rw[List.append_assoc,List.append_assoc] at this;exact this
 have L0:vp k S (S++[.lst (n.i.map iN), .lst (n.g.map gN), .lst (n.o.map oN)]) n S.length (S.length+1) (S.length+2):=⟨X0,h1,h2,h3,by omega,by omega,by omega,by omega,by omega,by omega⟩
 generalize S++[SO.lst (n.i.map iN), .lst (n.g.map gN), .lst (n.o.map oN)]=T0 at L0;refine aF (bp (by simp) (draw (k:=k) rfl L0.x.p rfl (by omega) (by omega) fun w T1 g1 g2 v=>⟨_,rfl,?_⟩))
 obtain⟨w,rfl⟩:=Int.eq_ofNat_of_zero_le g1;simp only[List.set];have L1:=L0.ev hk v;have hw:w=0\/w=1\/w=2\/w=3:=by omega
 have pl:=g_ N;rcases hw with rfl | rfl | rfl | rfl
 .refine aF (dW (dn (b:=false) rfl ?_));rw[if_neg (by decide)]
  refine eH ⟨_,rfl,?_⟩;refine aF (dW (dn (b:=false) rfl ?_));rw[if_neg (by decide)]
  refine eH ⟨_,rfl,?_⟩;exact x_ (n:=n) (w:=0) L1 (q n false _ N.nf rfl pl (fun _=>N) (ki hk L1.x))
 .refine aF (dW (dn (b:=true) rfl ?_));rw[if_pos rfl];refine yB (way:=1) hk N L1 fun T2 n2 b' c' b6 b7 b8 b9 pf pq F2 wd hg ho L2=>⟨_,rfl,?_⟩
  refine aF (dW (dn (b:=false) ?_ ?_))
  .cases b6 <;> cases b7 <;> cases b8 <;> cases b9 <;> cases pf <;> cases pq <;> rfl
  rw[if_neg (by decide)]
  refine eH ⟨_,rfl,?_⟩;exact x_ (n:=n) (w:=1) L2 (q n2 true _ F2 hg wd (fun z=>by rw[wd] at z;cases z) (ki hk L2.x))
 .refine aF (dW (dn (b:=false) rfl ?_));rw[if_neg (by decide)]
  refine eH ⟨_,rfl,?_⟩;refine aF (dW (dn (b:=true) rfl ?_));rw[if_pos rfl];refine yD (n:=n) (way:=2) hk N.nf L1 N.o fun T2 n2 pq F2 wd hg L2=>⟨_,rfl,?_⟩
  exact x_ (n:=n) (w:=2) L2 (q n2 true _ F2 hg wd (fun z=>by rw[wd] at z;cases z) (ki hk L2.x))
 .refine aF (dW (dn (b:=true) rfl ?_));rw[if_pos rfl];refine yB (way:=3) hk N L1 fun T2 n2 b' c' b6 b7 b8 b9 pf pq F2 wd hg ho L2=>⟨_,rfl,?_⟩
  refine aF (dW (dn (b:=true) ?_ ?_))
  .cases b6 <;> cases b7 <;> cases b8 <;> cases b9 <;> cases pf <;> cases pq <;> rfl
  rw[if_pos rfl];refine yD (n:=n) (way:=3) hk F2 L2 ho fun T3 n3 pq F3 Ht Jp L3=>⟨_,rfl,?_⟩
  exact x_ (n:=n) (w:=3) L3 (q n3 true _ F3 (Jp.trans hg) Ht (fun z=>by rw[Ht] at z;cases z) (ki hk L3.x))
end
theorem BU{f g:FB}{δ:DE}{S:aA}{QB:Bool->aA->Prop}(h:W3 (f δ S) fun b S1=>b=false/\W3 (g δ S1) QB):W3 (Dw f g δ S) QB:=W3.bind (h.mono fun b S1 ⟨e,h⟩=>by subst e;exact h)
def Cm(n:Nat)(S:aA):Prop:=cf S/\S.length=n/\∀k,k < n->nV k S
theorem xQ(cs:List Int)(hc:cs.length<=63){Q:V3->aA->Prop}(h:∀(n:Nat) S1,0 < n->Cm n S1->Q (.lst ((List.range n).map .loc)) S1):W3 (e8 [.d (.lst (cs.map .int))] []) Q:=by
 have hz:sizeLine=16777216:=sizeLine_eq;unfold e8;refine uU rfl ?_;simp only[bM,eO,List.map,List.length,List.replicate,List.cons_append,List.nil_append,Nat.reduceAdd,Nat.reduceSub];unfold iQ;cases cs with
 | nil=>
   refine tQ (dW (dn (b:=true) rfl ?_));rw[if_pos rfl];refine fI (uB (ax (gv (ds:=[.int 0, .int 0]) (ny rfl (by simp;omega)) (bC ⟨by simp;omega,_,rfl,_,rfl,?_⟩))))
   refine h 1 _ (by omega) ⟨fun o ho=>?_,rfl,fun k hk=>⟨fun o ho=>?_,0,0,?_⟩⟩
   .exact⟨_,List.mem_singleton.mp ho⟩
   .exact⟨_,List.mem_singleton.mp ho⟩
   .obtain rfl:k=0:=by omega
    rfl
 | cons c cs=>
   refine aF (dW (dn (b:=false) ?_ ?_))
   .refine oa (a:= .int ((c ::cs).length:Nat)) (b:= .int 0) ?_ rfl ?_
    .exact bJ (ds:=[.lst ((c ::cs).map .int)]) rfl (by rw[k7,List.length_map])
    .have:¬(((c ::cs).length:Int)=0):=by rw[List.length_cons];omega
     show R.ok (D.bl (decide (((c ::cs).length:Int)=0)))=_;rw[decide_eq_false this]
   rw[if_neg (by decide)]
   refine eH ⟨_,rfl,fI (uA (rT (ds:=(c ::cs).map .int) ?_ ⟨by simp at hc ⊢;omega,?_⟩))⟩
   .refine Ax (vf (d:= .lst ((c ::cs).map .int)) (lo:=none) (hi:=some 63) rfl rfl rfl ?_);show R.ok (D.lst (L2.cutD _ none (some 63)))=_;rw[uE _ (by omega),List.take_of_length_le (by simp at hc ⊢;omega)]
   generalize hcc:c ::cs=cc at hc;have yh:0 < cc.length:=by rw[<-hcc];simp
   refine(lZ (fun i ys S=>ys=(List.range i).map V3.loc/\cf S/\S.length=i/\∀k,k < i->∃a c,S[k]? =some (.lst [.int a, .int c])) ⟨rfl,(by intro o ho;cases ho),rfl,fun k hk=>(by omega)⟩ ?_).mono fun ys S2 ⟨e,hL,hl,hp⟩=>⟨_,rfl,?_⟩
   .rintro i v ys S hv ⟨rfl,hL,hl,hp⟩;obtain⟨d,hd,rfl⟩:=List.mem_map.mp (List.mem_of_getElem? hv);obtain⟨x,_,rfl⟩:=List.mem_map.mp hd;refine⟨_,rfl,tT ?_⟩;rw[if_pos rfl];refine gv (ds:=[.int x, .int 0]) (ny rfl (by simp;omega)) ⟨?_,hL.push _,by simp [hl],fun k hk=>?_⟩
    .rw [List.range_succ,List.map_append,hl];rfl
    .by_cases hki:k < i
     .obtain⟨a,c,e⟩:=hp k hki;exact⟨a,c,by rw[List.getElem?_append_left (by omega)];exact e⟩
     .obtain rfl:k=i:=by omega
      refine⟨x,0,?_⟩;rw[<-hl];exact uN _ _
   .rw [List.length_map,List.length_map] at e hl hp;have hm:j1 ys= .lst ((List.range cc.length).map .loc):=by
     rw[e];obtain⟨m,hm⟩:∃m,cc.length=m+1:=⟨cc.length - 1,by omega⟩
     rw[hm,List.range_succ_eq_map,List.map_cons];rfl
    rw[hm];exact h cc.length S2 yh ⟨hL,hl,fun k hk=>⟨hL,hp k hk⟩⟩
end K29
end
section
namespace K29
open PySem PySem.Spec PyProof.Rows L2 L3 NT
theorem tm{S:aA}{k:Nat}{sc:V3}{a2 a3 a4 a5 a6 a7 a8:Option V3}(p:nV k S){QO:Ou->aA->Prop}(q:∀T b2 b3 b4 b5 b6 b7 b8,Ev k S T->QO (.nx [some sc,some (.loc k),b2,b3,b4,b5,b6,b7,b8]) T) :
 W3 (nu [some sc,some (.loc k),a2,a3,a4,a5,a6,a7,a8] S) QO:=by
 have hz:sizeLine=16777216:=sizeLine_eq;unfold nu;refine aF (bp (by simp) (draw (k:=k) rfl p (by cases sc <;> cases a2 <;> cases a3 <;> cases a4 <;> cases a5 <;> cases a6 <;> cases a7 <;> cases a8 <;> rfl) (by omega) (by omega) fun way S1 g1 g2 v1=>⟨_,rfl,?_⟩))
 simp only[List.set];obtain⟨way,rfl⟩:=Int.eq_ofNat_of_zero_le g1;obtain⟨t,hw,ht⟩:∃t:Nat,((way=0/\t=2)\/(way=1/\t=3)\/(way=2/\t=6))/\cu (.lst [.int 2, .int 3, .int 6]) (.int way)= .ok (.int t):=by
  have:way=0\/way=1\/way=2:=by omega
  rcases this with rfl | rfl | rfl
  .exact⟨2, .inl ⟨rfl,rfl⟩,rfl⟩
  .exact⟨3, .inr (.inl ⟨rfl,rfl⟩),rfl⟩
  .exact⟨6, .inr (.inr ⟨rfl,rfl⟩),rfl⟩
 have t0:t=2\/t=3\/t=6:=by omega
 refine aF (bp (by simp) (cn (d:= .int t) (bB (a:= .lst [.int 2, .int 3, .int 6]) (b:= .int way) rfl rfl ht) ⟨_,rfl,?_⟩))
 simp only[List.set];have hdv:∃m0:Nat,m0<=30/\jY (.int 60) (.int t)= .ok (.int m0):=by
  rcases t0 with rfl | rfl | rfl
  .exact⟨30,by omega,rfl⟩
  .exact⟨20,by omega,rfl⟩
  .exact⟨10,by omega,rfl⟩
 obtain⟨m0,Kw,Hm⟩:=hdv;refine aF (bp (by simp) (pK (uB (ax (cn (d:= .int m0) (bB rfl rfl Hm) (ax (cn (d:= .int ((m0+1:Nat):Int)) (bB (a:= .int m0) (b:= .int 1) (bB rfl rfl Hm) rfl rfl) (ax (draw (k:=k) rfl v1.p rfl (by omega) (by omega) fun x S2 x1 x2 v2=>bC ⟨by show 3<=sizeLine;decide,?_⟩)))))))))
 obtain⟨x,rfl⟩:=Int.eq_ofNat_of_zero_le x1;refine draw (k:=k) rfl v2.p rfl (by omega) (by omega) fun y S3 y1 y2 v3=>?_
 obtain⟨y,rfl⟩:=Int.eq_ofNat_of_zero_le y1;obtain⟨m,hm,em⟩:∃m:Nat,m<=60/\cu (.lst [.int m0, .int ((m0+1:Nat):Int), .int x]) (.int y)= .ok (.int m):=by
  have:y=0\/y=1\/y=2:=by omega
  rcases this with rfl | rfl | rfl
  .exact⟨m0,by omega,rfl⟩
  .exact⟨m0+1,by omega,rfl⟩
  .exact⟨x,by omega,rfl⟩
 refine⟨.lst [.int m0, .int ((m0+1:Nat):Int), .int x], .int y, .int m,rfl,rfl,em,_,rfl,?_⟩;simp only[List.set];refine aF (t9 (cV (ax (w_var (v:= .loc k) rfl (ax (cV (ax (w_var (v:= .loc k) rfl (ax (cn (d:= .int 6) rfl (ax (cn (d:= .int m) rfl (bC (tI v3.p hm fun n S4 N hg v4=>bC ?_))))))))))))))
 refine wk v4.p N fun n1 b S5 F1 JP A6 fP v5=>⟨_,rfl,_,rfl,?_⟩
 have hL:n1.g.length=m:=JP.trans hg;refine aF (bp (by simp) (cn (d:= .int ((m*t:Nat):Int)) (bB (a:= .int m) (b:= .int t) rfl rfl (tH (by omega))) ⟨_,rfl,?_⟩))
 simp only[List.set];have hb:m*t<=60*6:=Nat.mul_le_mul hm (by omega)
 have fin:∀(u:Int),u=px n1 t->W3 (aQ (bA 8 (bb gM (ak (xP (ai 5)) aZ))) (kR (Dw (Bj v7 (bb gd (ak (xP (ai 2)) (ak (xP (ai 8)) aZ))) (xP (ai 7))) (bP (b2 v7 (ai 8) (ai 5)))) (eT (xP (eC (.bl false)))) ij)
  [some sc,some (.loc k),some (.d (.int way)),some (.d (.int t)),some (.d (.int m)),some (.d n1.d),some (.d (.bl b)),some (.d (.int u)),a8] S5) QO:=fun u hu=>by
  refine aF (bp (by simp) (cV (ax (cn (d:=n1.d) rfl (bC (yU v5.p.1 ⟨_,rfl,?_⟩))))))
  simp only[List.set];refine dW (BU (Ai (cV (ax (cn (d:= .int way) rfl (ax (cn (d:=n1.d) rfl (bC (xI (n:=n1) (t:=t) (by have:=F1.i6;omega) (by have:=F1.o6;omega) F1.g60 hw fP v5.p.1 (cn (d:= .int u) rfl ⟨_,_,false,rfl,rfl,?_,rfl,?_⟩))))))))))
  .rw [hu];show R.ok (D.bl _)=_;congr 2;show(!(px n1 t==px n1 t))=false;rw[beq_self_eq_true];rfl
  refine dn (b:=false) (oa (a:=n1.d) (b:=n1.d) rfl rfl (Net.ne F1.fit)) ?_;rw[if_neg (by decide)]
  exact eH (q _ _ _ _ _ _ _ _ ((((v1.trans v2).trans v3).trans v4).trans v5))
 refine aF (dW (dn (b:=b) rfl ?_));cases b with
 | true=>
   rw[if_pos rfl];refine bp (by simp) (cn (d:= .int (-1)) rfl ⟨_,rfl,?_⟩)
   simp only[List.set];refine fin (-1) ?_;unfold px;rw[A6];rfl
 | false=>
   rw[if_neg (by decide)]
   by_cases h60:60 < m*t
   .refine dW (dn (b:=true) (oa (a:= .int ((m*t:Nat):Int)) (b:= .int 60) rfl rfl ?_) ?_)
    .show R.ok (D.bl (decide ((60:Int) < ((m*t:Nat):Int))))=_;rw[decide_eq_true (by omega)]
    rw[if_pos rfl];refine bp (by simp) (cn (d:= .int (-2)) rfl ⟨_,rfl,?_⟩)
    simp only[List.set];refine fin (-2) ?_;unfold px;rw[A6,hL,if_pos (by decide),if_pos h60]
   .refine dW (dn (b:=false) (oa (a:= .int ((m*t:Nat):Int)) (b:= .int 60) rfl rfl ?_) ?_)
    .show R.ok (D.bl (decide ((60:Int) < ((m*t:Nat):Int))))=_;rw[decide_eq_false (by omega)]
    rw[if_neg (by decide)]
    refine eH ⟨_,rfl,?_⟩;refine fin ((m*t:Nat):Int) ?_;unfold px;rw[A6,hL,if_pos (by decide),if_neg h60]
theorem uK(ns:List Int)(hn:ns.length<=63):qQ [.lst (ns.map D.int)]= .ok (.bl true):=by
 have hz:sizeLine=16777216:=sizeLine_eq;have key:W3 (mm kQ l4 [.d (.lst (ns.map .int))] []) fun v S1=>v= .d (.bl true)/\S1=[]:=by
  refine tq (uU rfl ?_);simp only[bM,kQ,List.map,List.length,List.replicate,List.cons_append,List.nil_append,Nat.reduceAdd,Nat.reduceSub];unfold l4;refine aF (lO (xo (cV (ax (cn (d:= .lst ((ns.take 15).map .int)) ?_ (bC (xQ _ ?_ fun n S1 KC hP=>⟨_,rfl,?_⟩)))))))
  .refine vf (d:= .lst (ns.map .int)) (lo:=none) (hi:=some 15) rfl rfl rfl ?_;show R.ok (D.lst (L2.cutD _ none (some 15)))=_;rw[uE _ (by omega),List.map_take]
   rfl
  .rw [List.length_take];omega
  refine(eG (fun i δ S2=>(∃x b2 b3 b4 b5 b6 b7 b8,δ=[some (.d (.lst (ns.map .int))),x,b2,b3,b4,b5,b6,b7,b8])/\Cm n S2) ⟨⟨_,_,_,_,_,_,_,_,rfl⟩,hP⟩ ?_).mono fun o S2 ⟨fG,e,⟨x,b2,b3,b4,b5,b6,b7,b8,hδ⟩,hP2⟩=>⟨fG,e,?_⟩
  .rintro i v δ S2 hv ⟨⟨x,b2,b3,b4,b5,b6,b7,b8,rfl⟩,hP2⟩;obtain⟨k,hk,rfl⟩:=List.mem_map.mp (List.mem_of_getElem? hv);rw[List.mem_range] at hk;refine⟨_,rfl,?_⟩;refine tm (hP2.2.2 k hk) fun T c2 c3 c4 c5 c6 c7 c8 v5=>⟨_,rfl,⟨_,_,_,_,_,_,_,_,rfl⟩,v5.p.1,v5.len.trans hP2.2.1,fun j hj=>?_⟩
   by_cases DQ:j=k
   .subst DQ;exact v5.p
   .obtain⟨_,a,c,e⟩:=hP2.2.2 j hj;exact⟨v5.p.1,a,c,by rw[v5.oth j DQ];exact e⟩
  .subst hδ;refine fI (cn (d:= .bl true) rfl ⟨_,rfl,hP2.1,by unfold ek;rfl, .bl true,by unfold res;rfl,rfl,?_⟩)
   rfl
 obtain⟨v,S1,e,rfl,rfl⟩:=key;unfold qQ DC;simp only[List.map_cons,List.map_nil];rw[e];rfl
end K29
end
open PySem PySem.W PyProof.Rows
set_option maxRecDepth 100000 in
set_option maxHeartbeats 0 in
theorem PySem.Challenge.cw_bearfaults_k29_neither_plain_nor_full_holds : PySem.Challenge.rw_bearfaults_k29_neither_plain_nor_full.Holds := by
 w_on;o_law;k_head;(case hw=>w_witness2)
 k_fill
 refine L2.BO (l:=PySem.Challenge.rw_bearfaults_k29_neither_plain_nor_full) (n:=63) (k:=5) (x:="script") (g:=K29.qQ) rfl (by decide) rfl ⟨rfl,by decide,by decide⟩ (fun w h Y=>PySem.W.kIn_of Y) ?F K29.uK
 case F=>
  intro w mg fa h KX G De
  have gh:L2.Def (L2.ia KX) mg "has_widths" K29.dO:=by
   dsimp only[L2.ia]
   refine' L2.dF KX G ?a ?l ?c ?k
   (case a=>k_is);(case l=>k_is);(case c=>k_is);(case k=>k_is)
  have fH:L2.Def (L2.ia KX) mg "check_makes" K29.dm:=by
   dsimp only[L2.ia]
   refine' L2.dF KX G ?a ?l ?c ?k
   (case a=>k_is);(case l=>k_is);(case c=>k_is);(case k=>k_is)
  have gm:L2.Def (L2.ia KX) mg "next_wires" K29.dQ:=by
   dsimp only[L2.ia]
   refine' L2.dF KX G ?a ?l ?c ?k
   (case a=>k_is);(case l=>k_is);(case c=>k_is);(case k=>k_is)
  have lg:L2.Def (L2.ia KX) mg "copied" K29.gK:=by
   dsimp only[L2.ia]
   refine' L2.dF KX G ?a ?l ?c ?k
   (case a=>k_is);(case l=>k_is);(case c=>k_is);(case k=>k_is)
  have gY:L2.Def (L2.ia KX) mg "in_threes" K29.ef:=by
   dsimp only[L2.ia]
   refine' L2.dF KX G ?a ?l ?c ?k
   (case a=>k_is);(case l=>k_is);(case c=>k_is);(case k=>k_is)
  have iU:L2.Def (L2.ia KX) mg "in_pairs" K29.eR:=by
   dsimp only[L2.ia]
   refine' L2.dF KX G ?a ?l ?c ?k
   (case a=>k_is);(case l=>k_is);(case c=>k_is);(case k=>k_is)
  have gg:L2.Def (L2.ia KX) mg "with_votes" K29.dM:=by
   dsimp only[L2.ia]
   refine' L2.dF KX G ?a ?l ?c ?k
   (case a=>k_is);(case l=>k_is);(case c=>k_is);(case k=>k_is)
  have iT:L2.Def (L2.ia KX) mg "_law_next" K29.eI:=by
   dsimp only[L2.ia]
   refine' L2.dF KX G ?a ?l ?c ?k
   (case a=>k_is);(case l=>k_is);(case c=>k_is);(case k=>k_is)
  have iV:L2.Def (L2.ia KX) mg "_law_pots" K29.eM:=by
   dsimp only[L2.ia]
   refine' L2.dF KX G ?a ?l ?c ?k
   (case a=>k_is);(case l=>k_is);(case c=>k_is);(case k=>k_is)
  have g7:L2.Def (L2.ia KX) mg "_law_plain" K29.ec:=by
   dsimp only[L2.ia]
   refine' L2.dF KX G ?a ?l ?c ?k
   (case a=>k_is);(case l=>k_is);(case c=>k_is);(case k=>k_is)
  have iS:L2.Def (L2.ia KX) mg "_law_copy" K29.eL:=by
   dsimp only[L2.ia]
   refine' L2.dF KX G ?a ?l ?c ?k
   (case a=>k_is);(case l=>k_is);(case c=>k_is);(case k=>k_is)
  have g6:L2.Def (L2.ia KX) mg "_law_asked" K29.er:=by
   dsimp only[L2.ia]
   refine' L2.dF KX G ?a ?l ?c ?k
   (case a=>k_is);(case l=>k_is);(case c=>k_is);(case k=>k_is)
  have g8:L2.Def (L2.ia KX) mg "_law_wider" K29.en:=by
   dsimp only[L2.ia]
   refine' L2.dF KX G ?a ?l ?c ?k
   (case a=>k_is);(case l=>k_is);(case c=>k_is);(case k=>k_is)
  have D_law:L2.Def (L2.ia KX) mg "law" K29.rA:=by
   dsimp only[L2.ia]
   refine' L2.dF KX G ?a ?l ?c ?k
   (case a=>k_is);(case l=>k_is);(case c=>k_is);(case k=>k_is)
  have nQ:L2.Glob (L2.ia KX) mg "MOST_GATES" K29.c0:=by
   dsimp only[L2.ia]
   refine' L2.uT KX G ?a
   (case a=>k_is)
  obtain⟨cl,CF⟩:∃cl,K29.Cf (L2.ia KX) mg cl:=by
   dsimp only[L2.ia]
   refine' K29.BI KX G ?FN ?F_ ?FP ?FQ ?FI ?FH ?Fg ?FK ?FV ?FL ?AX ?AZ ?AR ?A1 ?F7 ?Fy ?Gb ?Fi ?Fv ?FF ?Fo ?F6 ?Ga ?FJ ?F8 ?Gh ?Gg ?Fc ?DR ?DN ?aC ?aK ?aO ?aY ?cH ?dv ?fF ?cW ?d5 ?gZ ?d6 ?gq ?nS ?cI ?du
   (case FN=>k_is)
   (case F_=>k_is)
   (case FP=>k_is)
   (case FQ=>k_is)
   (case FI=>k_is)
   (case FH=>k_is)
   (case Fg=>k_is)
   (case FK=>k_is)
   (case FV=>k_is)
   (case FL=>k_is)
   (case AX=>k_is)
   (case AZ=>k_is)
   (case AR=>k_is)
   (case A1=>k_is)
   (case F7=>kernel_rfl)
   (case Fy=>k_is)
   (case Gb=>k_is)
   (case Fi=>k_is)
   (case Fv=>k_is)
   (case FF=>k_is)
   (case Fo=>kernel_rfl)
   (case F6=>kernel_rfl)
   (case Ga=>k_is)
   (case FJ=>k_is)
   (case F8=>k_is)
   (case Gh=>k_is)
   (case Gg=>k_is)
   (case Fc=>kernel_rfl)
   (case DR=>k_is)
   (case DN=>k_is)
   (case aC=>first | kit_is | kernel_rfl)
   (case aK=>first | kit_is | kernel_rfl)
   (case aO=>first | kit_is | kernel_rfl)
   (case aY=>first | kit_is | kernel_rfl)
   (case cH=>first | kit_is | kernel_rfl)
   (case dv=>first | kit_is | kernel_rfl)
   (case fF=>first | kit_is | kernel_rfl)
   (case cW=>first | kit_is | kernel_rfl)
   (case d5=>first | kit_is | kernel_rfl)
   (case gZ=>first | kit_is | kernel_rfl)
   (case d6=>first | kit_is | kernel_rfl)
   (case gq=>first | kit_is | kernel_rfl)
   (case nS=>first | kit_is | kernel_rfl)
   (case cI=>kernel_rfl)
   (case du=>kernel_rfl)
  have T:K29.Tp (L2.ia KX) mg cl:=by
   dsimp only[L2.ia]
   refine' ⟨PySem.W.mg_none_of KX G ?z_all,PySem.W.mg_none_of KX G ?z_len,PySem.W.mg_none_of KX G ?z_range,PySem.W.mg_none_of KX G ?z_tuple,PySem.W.mg_none_of KX G ?z_min,PySem.W.mg_none_of KX G ?z_list,PySem.W.mg_none_of KX G ?z_isinstance,PySem.W.mg_none_of KX G ?z_ValueError,PySem.W.mg_none_of KX G ?z_int,nQ,CF.M_FaultError,CF.M_TooLong,CF.M_NoForm,CF.M_NoPlace,CF.M_Twice,CF.M_Full,CF.M_NoWire,CF.M_Open,CF.M_NotPlain,CF.M_NotThree,CF.M_NotSound,CF.M_NoFit,CF.M_NoShape,CF.M_NoneYet,CF.X_Full,CF.X_NotPlain,CF.J_NotPlain_NoFit_NoForm_NoneYet_NoPlace_NoShape_NotSound,CF.J_Full_NoFit_NoForm_NoneYet_NoPlace_NoShape_NotSound,CF.J_NotPlain_NotThree_NoWire_Open_TooLong_Twice,CF.J_Full_NotThree_NoWire_Open_TooLong_Twice,CF.I_NotPlain_ValueError,CF.I_Full_ValueError,CF.O_ValueError,CF.I_NotPlain_NotPlain,CF.I_Full_NotPlain,CF.O_NotPlain,CF.I_NotPlain_Full,CF.I_Full_Full,CF.O_Full,CF.E_NotPlain_FaultError,CF.E_Full_FaultError⟩
   (case z_all=>k_is);(case z_len=>k_is);(case z_range=>k_is);(case z_tuple=>k_is);(case z_min=>k_is);(case z_list=>k_is);(case z_isinstance=>k_is);(case z_ValueError=>k_is);(case z_int=>k_is)
  obtain⟨fl,fd,Fl,hl⟩:=D_law
  have e0:=De.symm.trans hl
  cases e0
  refine' ⟨fd,?b,fun base kb nb=>K29.zp T gh fH gm lg gY iU gg iT iV g7 iS g6 g8 Fl⟩
  obtain⟨_,_,_,_,_,_,_,_,_,e,_,_⟩:=Fl.ex
  subst e
  exact fun s u=> .of_eq rfl
