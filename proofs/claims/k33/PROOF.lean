import PyProof.Rows.All
import Wide.All
import OpenK.AllK
import Wide.FinOn
import Lean
import PyProof.EqAt
import PyProof.EqKinds
import PyProof.TupleCall
import PyProof.Rows.StrJoin2
import PyProof.TupleOfGen
import PyProof.ListRange
import PyProof.Draws
import PyProof.Rows.StrClose3
import KE.KSortedM
import PyProof.Rows.SortWalk
import PyProof.WalkInts
import PyProof.Rows.Range3
import PyProof.ZipIter
import PyProof.ConsumeWalk
import PyProof.Rows.SeqMore
import KE.KRevIter
import KE.KRevSl
import KE.KUnpack
import KE.KDictSum
import KE.KTupSum
import KE.KSortTup
import PySem.Challenge.RW_bearfaults_k33_any_nets_keep_or_lose
noncomputable section
set_option bootstrap.genMatcherCode false
section
open PySem
abbrev Rn:=List (Addr×Obj)
abbrev Ro:=Value->Shared->Prop
abbrev Rp:=List (Str×Nat)
abbrev Rq:=List (Str×List Nat)
abbrev Rr:=List (List Nat)
abbrev Rt:=Str->Option Value
abbrev Ru:=Nat->Addr
end
def PySem.W.Fast.tw11812447211335262935:=0
def PySem.W.Fast.tw9578741058172903809:=0
def PySem.W.Fast.tw10592406773158407815:=0
def PySem.W.Fast.tw8025689837524040274:=0
def PySem.W.Fast.tw5506358488581515688:=0
def PySem.W.Fast.tw4559385181366954149:=0
def PySem.W.Fast.tw3909080870706822533:=0
def PySem.W.Fast.tw16322438943886965531:=0
def PySem.W.Fast.tw3443341447275045130:=0
def PySem.W.Fast.tw14691548041327974038:=0
def PySem.W.Fast.tw12628995576643762590:=0
def PySem.W.Fast.tw3862623214952491964:=0
def PySem.W.Fast.tw16110460143498442280:=0
def PySem.W.Fast.tw14810661974373193361:=0
def PySem.W.Fast.tw16482020776356138838:=0
def PySem.W.Fast.tw9429384103778018603:=0
def PySem.W.Fast.tw2918478316828018601:=0
def PySem.W.Fast.tw10096233052877655095:=0
def PySem.W.Fast.tw13522127555400965891:=0
def PySem.W.Fast.tw14791259799196778817:=0
def PySem.W.Fast.tw6620908015085478749:=0
def PySem.W.Fast.tw15418148571661440001:=0
def PySem.W.Fast.tw14716340560388761849:=0
def PySem.W.Fast.tw1500483036791641582:=0
def PySem.W.Fast.tw4620078915056845077:=0
def PySem.W.Fast.tw12759214258993707207:=0
def PySem.W.Fast.tw16008853781125409471:=0
def PySem.W.Fast.tw6326096001844143225:=0
def PySem.W.Fast.tw8301350212007828894:=0
def PySem.W.Fast.tw5172165521849131144:=0
def PySem.W.Fast.tw6940242390367503372:=0
def PySem.W.Fast.tw8835008740715884450:=0
def PySem.W.Fast.tw2259006180238853857:=0
def PySem.W.Fast.tw3253763608443008611:=0
def PySem.W.Fast.tw347439596856006114:=0
def PySem.W.Fast.tw9789016783726562756:=0
def PySem.W.Fast.tw3374933929487995907:=0
def PySem.W.Fast.tw3862783978692859885:=0
def PySem.W.Fast.tw9557892915641740276:=0
def PySem.W.Fast.tw4017827342331841824:=0
set_option Elab.async false
set_option linter.all false
set_option maxRecDepth 100000
set_option maxHeartbeats 4000000
section
namespace L2
open PySem PySem.Spec PyProof.Rows
abbrev Key:=Sum Int Str
def rp:Key->Value->Bool
 | .inl k,v=>Value.isInt k v
 | .inr x,v=>Value.isStrOf x v
def K4(w:World):Key->Int
 | .inl k=>hashInt k
 | .inr x=>hashStr w x
theorem cT:∀{k:Key} {v:Value},rp k v=true->(∃i t,k=Sum.inl i/\v=Value.int i t)\/(∃x t,k=Sum.inr x/\v=Value.str x t)
 | .inl i,v,h=>by
   obtain⟨t,e⟩:=Value.isInt_shape (k:=i) (v:=v) h;exact .inl ⟨i,t,rfl,e⟩
 | .inr x,v,h=>by
   obtain⟨t,e⟩:=Value.isStrOf_shape (x:=x) (v:=v) h;exact .inr ⟨x,t,rfl,e⟩
theorem yI(i:Int)(t:Tok):rp (.inl i) (.int i t)=true:=by simp [rp,Value.isInt]
theorem zx(x:Str)(t:Tok):rp (.inr x) (.str x t)=true:=by simp [rp,Value.isStrOf]
theorem FR(a b:Int):decide ((Sum.inl a:Key)=Sum.inl b)=(a==b):=by
 by_cases e:a=b
 .subst e;simp
 .have h:¬(Sum.inl a:Key)=Sum.inl b:=fun q=>e (Sum.inl.inj q)
  rw[decide_eq_false h];exact(beq_eq_false_iff_ne.mpr e).symm
theorem He(a b:Str):decide ((Sum.inr a:Key)=Sum.inr b)=decide (a=b):=by
 by_cases e:a=b
 .subst e;simp
 .have h:¬(Sum.inr a:Key)=Sum.inr b:=fun q=>e (Sum.inr.inj q)
  rw[decide_eq_false h,decide_eq_false e]
theorem G9(a:Int)(b:Str):decide ((Sum.inl a:Key)=Sum.inr b)=false:=decide_eq_false (fun q=>nomatch q)
theorem Hh(a:Str)(b:Int):decide ((Sum.inr a:Key)=Sum.inl b)=false:=decide_eq_false (fun q=>nomatch q)
def cU(prog:Program)(w:World):PySem.KeyKind prog w Key where
 is:=rp
 hash:=K4 w
 inj:=fun v a b ha hb=>by
  rcases cT ha with⟨i,t,rfl,rfl⟩ | ⟨x,t,rfl,rfl⟩
  .rcases cT hb with⟨j,u,rfl,e⟩ | ⟨y,u,rfl,e⟩
   .injection e with e1 _;rw [e1]
   .exact nomatch e
  .rcases cT hb with⟨j,u,rfl,e⟩ | ⟨y,u,rfl,e⟩
   .exact nomatch e
   .injection e with e1 _;rw [e1]
 byValue:=fun k v h=>by
  rcases cT h with⟨i,t,rfl,rfl⟩ | ⟨x,t,rfl,rfl⟩ <;> rfl
 pyHash:=fun hv h=>by
  rcases cT hv with⟨i,t,rfl,rfl⟩ | ⟨x,t,rfl,rfl⟩
  .exact wpAny_pyHash_int h
  .exact wpAny_pyHash_str h
 eqBool:=fun hu hv h=>by
  rcases cT hu with⟨i,t,rfl,rfl⟩ | ⟨x,t,rfl,rfl⟩
  .rcases cT hv with⟨j,u,rfl,rfl⟩ | ⟨y,u,rfl,rfl⟩
   .rw [FR] at h;exact wpAny_eqBool_int h
   .rw [G9] at h;exact SeqAt.EqAt.int_str i t y u _ _ _ _ h
  .rcases cT hv with⟨j,u,rfl,rfl⟩ | ⟨y,u,rfl,rfl⟩
   .rw [Hh] at h;exact SeqAt.EqAt.str_int x t j u _ _ _ _ h
   .rw [He] at h;exact wpAny_eqBool_str h
 «strs»:=fun k x t v h=>by
  rcases cT h with⟨i,u,rfl,e⟩ | ⟨y,u,rfl,e⟩
  .exact nomatch e
  .injection e with e1 _
   subst e1;cases v <;> rfl
theorem uF(prog:Program)(w:World)(i:Int)(t:Tok):(cU prog w).is (.inl i) (.int i t)=true:=yI i t
theorem vb(prog:Program)(w:World)(x:Str)(t:Tok):(cU prog w).is (.inr x) (.str x t)=true:=zx x t
inductive V where
 | cz | bl (b:Bool) | int (i:Int) | str (x:Str) | byt (b:Array UInt8) | flt (b:UInt64) | ref (a:Addr) | ty (n:String)
 deriving DecidableEq
def RelV:V->Value->Prop
 | .cz,u=>u=Value.none
 | .bl b,u=>u=Value.bool b
 | .int i,u=>∃t,u=Value.int i t
 | .str x,u=>∃t,u=Value.str x t
 | .byt b,u=>∃t,u=Value.bytes b t
 | .flt b,u=>∃t,u=Value.float b t
 | .ref a,u=>u=Value.ref a
 | .ty n,u=>u=Value.type n
abbrev Vals:List V->List Value->Prop:=Paired RelV
theorem Vals.length{xs:List V}{us:List Value}(r:Vals xs us):xs.length=us.length:=Paired.length r
theorem Vals.get:∀{xs:List V} {us:List Value} {i:Nat} {x:V},Vals xs us->xs[i]? =some x->∃u,us[i]? =some u/\RelV x u
 | _,_,_,_, .nil,e=>by simp at e
 | _,_,0,_, .cons r _,e=>by simp at e;subst e;exact⟨_,rfl,r⟩
 | _,_,i+1,x, .cons _ t,e=>by
   obtain⟨u,h1,h2⟩:=Vals.get (i:=i) (x:=x) t (by simpa using e)
   exact⟨u,by simpa using h1,h2⟩
theorem Vals.append:∀{xs ys:List V} {us ws:List Value},Vals xs us->Vals ys ws->Vals (xs++ys) (us++ws)
 | _,_,_,_, .nil,s=>s
 | _,_,_,_, .cons r t,s=> .cons r (Vals.append t s)
theorem Vals.take:∀{xs:List V} {us:List Value} (n:Nat),Vals xs us->Vals (xs.take n) (us.take n)
 | _,_,0,_=> .nil
 | _,_,_+1, .nil=> .nil
 | _,_,n+1, .cons r t=> .cons r (Vals.take n t)
theorem Vals.drop:∀{xs:List V} {us:List Value} (n:Nat),Vals xs us->Vals (xs.drop n) (us.drop n)
 | _,_,0,r=>r
 | _,_,_+1, .nil=> .nil
 | _,_,n+1, .cons _ t=>Vals.drop n t
def nc:Option V->Option Value->Prop
 | some v,some u=>RelV v u
 | none,none=>True
 | _,_=>False
def KV{κ:Type}:List (κ × V)->List (κ × Value)->Prop:=Paired fun(p:κ × V) (q:κ × Value)=>p.1=q.1/\RelV p.2 q.2
def kV:Key->V
 | .inl i=> .int i
 | .inr x=> .str x
inductive HO where
 | lst (xs:List V)
 | tup (xs:List V)
 | dK (aP:List (Key × V)) | dT (aP:List (List Key × V))
 | set (S:Int->Bool) (n:Nat)
 | ins (C dx:Addr) (fs:List (Str × V))
 | own (x:Addr)
 | xd (fs:List (Str × V))
 | met (f x:Addr)
 | rng (lo hi:Int)
 | jk (o:Obj) (u:HO)
 | tbl (ps:Array Value)
 | ext (φ:Heap->Prop)
abbrev Hp:=Addr->Option HO
def upd(H:Hp)(a:Addr)(o:HO):Hp:=fun b=>if b=a then some o else H b
theorem aV{a:Addr}{o:HO}:upd H a o a=some o:=by unfold upd;rw [if_pos rfl]
theorem aS{H:Hp}{a b:Addr}{o:HO}(h:b≠a):upd H a o b=H b:=by unfold upd;rw [if_neg h]
theorem Dl{a:Addr}{o u:HO}:upd (upd H a o) a u=upd H a u:=by
 funext b;unfold upd;split <;> rfl
theorem cg{H:Hp}{a b:Addr}{o:HO}(h:H a=some o)(h':H b=none):a≠b:=by
 intro e;subst e;rw [h] at h';cases h'
section
variable (P:Program) (w:World)
def ef(H:Hp)(h:Heap)(a:Addr):HO->Prop
 | .lst xs=>xs.length<=sizeLine/\∃(its:List Value) (n:Nat),Vals xs its/\h.get? a=some {cls:= .type "list",data:= .seq its.toArray n}
 | .tup xs=>xs.length<=sizeLine/\∃its:List Value,Vals xs its/\IsTup h a its.toArray
 | .dK aP=>aP.length<=sizeLine/\(a==sysModules)=false/\∃vs,KV aP vs/\h.DictOf (cU P w) a vs
 | .dT aP=>aP.length<=sizeLine/\(a==sysModules)=false/\∃xs:List (List Key × Addr × Value),
    Paired (fun(p:List Key × V) (q:List Key × Addr × Value)=>p.1=q.1/\H q.2.1=some (.tup (p.1.map kV))/\RelV p.2 q.2.2) aP xs/\
    ∃o es ep,h.get? a=some o/\o.ExactDict/\o.data= .dict es ep/\es.toList=xs.map (entryOfKey (tupleKind (cU P w)))/\(xs.map (·.1)).Nodup
 | .set S n=>h.SetOf (intKind P w) a S n
 | .ins C dx fs=>H dx=some (.own a)/\fs.length<=1000/\dx≠a/\h.get? a=some (PySem.W.instObj C dx)/\
    ∃mA,h.Ns1 dx mA/\(∀f,nc (fs.lookup f) (mA f))/\PySem.Within mA (fs.map (·.1))
 | .own _=>∃o,h.get? a=some o
 | .xd fs=>∃mA,h.Ns1 a mA/\∀f,nc (fs.lookup f) (mA f)
 | .rng lo hi=>∃t u v,h.get? a=some {cls:= .type "range",data:= .fields #[.int lo t, .int hi u, .int 1 v]}
 | .jk o u=>h.get? a=some o/\ef H h a u
 | .tbl ps=>h.get? a=some {cls:= .none,data:= .fields ps}
 | .met f x=>h.get? a=some (PySem.W.methodObj (.ref f) (.ref x))
 | .ext φ=>φ h/\(∃o,h.get? a=some o)/\∀h1 h2:Heap,φ h1->(∀o,h1.get? a=some o->h2.get? a=some o)->φ h2
def lQ(H:Hp)(h:Heap):Prop:=∀a o,H a=some o->ef P w H h a o
end
section
variable {P:Program} {w:World} {H H':Hp} {h h':Heap} {a:Addr} {o:HO}
theorem ef.lt(x:ef P w H h a o):a < h.objs.size:=by
 cases o with
 | lst xs=>obtain⟨_,_,_,_,e⟩:=x;exact Heap.lt_size e
 | tup xs=>obtain⟨_,_,_,p⟩:=x;exact p.lt
 | dK aP=>obtain⟨_,_,_,_,o,_,_,e,_⟩:=x;exact Heap.lt_size e
 | dT aP=>obtain⟨_,_,_,_,o,_,_,e,_⟩:=x;exact Heap.lt_size e
 | set S n=>obtain⟨o,_,_,_,e,_⟩:=x;exact Heap.lt_size e
 | ins C dx fs=>obtain⟨_,_,_,e,_⟩:=x;exact Heap.lt_size e
 | own y=>obtain⟨_,e⟩:=x;exact Heap.lt_size e
 | xd fs=>obtain⟨_,⟨_,_,_,e,_⟩,_⟩:=x;exact Heap.lt_size e
 | rng lo hi=>obtain⟨_,_,_,e⟩:=x;exact Heap.lt_size e
 | jk ob u=>obtain⟨e,_⟩:=x;exact Heap.lt_size e
 | tbl ps=>exact Heap.lt_size (show h.get? a=some _ from x)
 | met f y=>exact Heap.lt_size (show h.get? a=some _ from x)
 | ext φ=>obtain⟨_,⟨_,e⟩,_⟩:=x;exact Heap.lt_size e
theorem Paired.JJ{α β:Type}{F G:α->β->Prop}:∀{JL:List α} {JQ:List β},Paired F JL JQ->(∀a b,F a b->G a b)->Paired G JL JQ
 | _,_, .nil,_=> .nil
 | _,_, .cons r t,f=> .cons (f _ _ r) (Paired.JJ t f)
theorem ef.tQ(x:ef P w H h a o)(k:∀b u,(b=a\/H b=some (.own a))->h.get? b=some u->h'.get? b=some u)
 (ho:∀b,H b=some (.own a)->H' b=some (.own a)) (ht:∀b xs,H b=some (.tup xs)->H' b=some (.tup xs)):ef P w H' h' a o:=by
 induction o with
 | lst xs=>obtain⟨z,its,n,r,e⟩:=x;exact⟨z,its,n,r,k _ _ (.inl rfl) e⟩
 | tup xs=>obtain⟨z,its,r,ob,e,c⟩:=x;exact⟨z,its,r,ob,k _ _ (.inl rfl) e,c⟩
 | dK aP=>obtain⟨z,y,vs,r,ob,es,ep,e,c⟩:=x;exact⟨z,y,vs,r,ob,es,ep,k _ _ (.inl rfl) e,c⟩
 | dT aP=>
   obtain⟨z,y,xs,r,ob,es,ep,e,c⟩:=x;exact⟨z,y,xs,Paired.JJ r fun p q z=>⟨z.1,ht _ _ z.2.1,z.2.2⟩,ob,es,ep,k _ _ (.inl rfl) e,c⟩
 | set S n=>obtain⟨ob,es,ep,t,e,c⟩:=x;exact⟨ob,es,ep,t,k _ _ (.inl rfl) e,c⟩
 | ins C dx fs=>
   obtain⟨d,z,ne,e,mA,⟨od,es,ep,e2,c⟩,r⟩:=x;exact⟨ho _ d,z,ne,k _ _ (.inl rfl) e,mA,⟨od,es,ep,k _ _ (.inr d) e2,c⟩,r⟩
 | own y=>obtain⟨ob,e⟩:=x;exact⟨ob,k _ _ (.inl rfl) e⟩
 | xd fs=>obtain⟨mA,⟨od,es,ep,e,c⟩,r⟩:=x;exact⟨mA,⟨od,es,ep,k _ _ (.inl rfl) e,c⟩,r⟩
 | rng lo hi=>obtain⟨t,u,v,e⟩:=x;exact⟨t,u,v,k _ _ (.inl rfl) e⟩
 | jk ob u ih=>obtain⟨e,q⟩:=x;exact⟨k _ _ (.inl rfl) e,ih q⟩
 | tbl ps=>
   have e:h.get? a=some {cls:= .none,data:= .fields ps}:=x;show h'.get? a=some {cls:= .none,data:= .fields ps};exact k a _ (.inl rfl) e
 | met f y=>
   have e:h.get? a=some (PySem.W.methodObj (.ref f) (.ref y)):=x;show h'.get? a=some (PySem.W.methodObj (.ref f) (.ref y));exact k a _ (.inl rfl) e
 | ext φ=>obtain⟨p,⟨o,e⟩,st⟩:=x;exact⟨st _ _ p fun o q=>k _ _ (.inl rfl) q,⟨o,k _ _ (.inl rfl) e⟩,st⟩
theorem lQ.lt(x:lQ P w H h)(e:H a=some o):a < h.objs.size:=(x a o e).lt
theorem lQ.fresh(x:lQ P w H h)(e:h.objs.size<=a):H a=none:=by
 cases q:H a with
 | none=>rfl
 | some u=>exact absurd (Nat.lt_of_lt_of_le (x.lt q) e) (Nat.lt_irrefl _)
theorem lQ.kept(x:lQ P w H h)(k:∀b u,h.get? b=some u->h'.get? b=some u):lQ P w H h':=fun a o e=>
 (x a o e).tQ (fun b u _ q=>k b u q) (fun _ q=>q) fun _ _ q=>q
theorem lQ.laid(x:lQ P w H h)(k:∀b u,h.get? b=some u->h'.get? b=some u)(hp:h.objs.size<=a)(new:ef P w (upd H a o) h' a o):lQ P w (upd H a o) h':=fun b u e=>by
 have hn:=x.fresh hp;by_cases hb:b=a
 .subst hb;rw [aV] at e;cases e;exact new
 .rw [aS hb] at e;exact(x b u e).tQ (fun c v _ q=>k c v q) (fun c q=>by rw[aS (cg q hn)];exact q) fun c xs q=>by rw[aS (cg q hn)];exact q
end
def Rd(H:Hp)(a:Addr)(u:HO):Prop:=H a=some u\/∃o,H a=some (.jk o u)
theorem Rd.ok{a:Addr}{u:HO}(r:Rd H a u)(x:lQ P w H h):ef P w H h a u:=by
 rcases r with r | ⟨o,r⟩
 .exact x a u r
 .obtain⟨_,q⟩:=x a _ r;exact q
def Il:Option HO->Prop
 | some (.lst _)=>True
 | some (.dK _)=>True
 | some (.dT _)=>True
 | some (.set _ _)=>True
 | some (.ins _ _ _)=>True
 | some (.ext _)=>True
 | _=>False
section
variable {P:Program} {w:World} {H:Hp} {h h':Heap} {x e:Addr} {o':HO}
theorem lQ.write(ok:lQ P w H h)(mu:Il (H x))(he:e=x\/H e=some (.own x))(k:∀b u,b≠e->h.get? b=some u->h'.get? b=some u)(CO:∃u,h'.get? e=some u)
 (new:ef P w (upd H x o') h' x o'):lQ P w (upd H x o') h':=fun b u q=>by
 have nown:∀c y,H c=some (.own y)->c≠x:=fun c y r z=>by subst z;rw [r] at mu;exact mu
 have ntup:∀c xs,H c=some (.tup xs)->c≠x:=fun c xs r z=>by subst z;rw [r] at mu;exact mu
 by_cases hb:b=x
 .subst hb;rw [aV] at q;cases q;exact new
 .rw [aS hb] at q;by_cases hbe:b=e
  .have q':H b=some (.own x):=by
    rcases he with z | z
    .exact absurd (hbe.trans z) hb
    .rw [hbe];exact z
   rw[q] at q';cases q';obtain⟨v,hv⟩:=CO;exact⟨v,by rw[hbe];exact hv⟩
  .refine(ok b u q).tQ (fun c v hc r=>k c v ?_ r) (fun c r=>by rw[aS (nown c b r)];exact r) fun c xs r=>by rw[aS (ntup c xs r)];exact r
   rcases hc with rfl | hc
   .exact hbe
   .rintro rfl;rcases he with z | z
    .exact nown c b hc z
    .rw [hc] at z;cases z;exact hb rfl
end
structure Un (fs ex:List Addr) (H H':Hp) (h h':Heap):Prop where
 keep:∀b o,h.get? b=some o->H b=none->b ∉ fs->b ∉ ex->h'.get? b=some o
 slot:∀b o,h.get? b=some o->H b=none->b∈fs->b ∉ ex->∃sl,h'.get? b=some {o with slots:=sl}
 free:∀b o,h.get? b=some o->H b=none->b ∉ ex->H' b=none
 there:∀b o,h.get? b=some o->b ∉ ex->∃o',h'.get? b=some o'
 tups:∀b xs,H b=some (.tup xs)->H' b=some (.tup xs)
 frzs:∀b o u,H b=some (.jk o u)->H' b=some (.jk o u)
 tbls:∀b ps,H b=some (.tbl ps)->∃more,H' b=some (.tbl (ps++more))
section
variable {fs HV ex Rb:List Addr} {H H1 H2:Hp} {h h1 h2 h':Heap} {a x e:Addr} {o:HO}
theorem Un.any(u:Un fs ex H H1 h h1){b:Addr}{ob:Obj}(q:h.get? b=some ob)(n:H b=none)(hx:b ∉ ex):∃sl,h1.get? b=some {ob with slots:=sl}:=by
 by_cases hb:b∈fs
 .exact u.slot b ob q n hb hx
 .exact⟨ob.slots,u.keep b ob q n hb hx⟩
theorem Un.kept(k:∀b u,h.get? b=some u->h'.get? b=some u):Un fs ex H H h h':=
 ⟨fun b ob q _ _ _=>k b ob q,fun b ob q _ _ _=>⟨ob.slots,k b ob q⟩,fun _ _ _ n _=>n,fun b ob q _=>⟨ob,k b ob q⟩,fun _ _ q=>q,fun _ _ _ q=>q,fun _ ps q=>⟨#[],by rw[q];simp⟩⟩
theorem Un.refl:Un fs ex H H h h:=Un.kept fun _ _ q=>q
theorem Un.laid(k:∀b u,h.get? b=some u->h'.get? b=some u)(hp:h.objs.size<=a)(hn:H a=none):Un fs ex H (upd H a o) h h' where
 keep:=fun b u q _ _ _=>k b u q
 slot:=fun b u q _ _ _=>⟨u.slots,k b u q⟩
 free:=fun b u q n _=>by rw[aS (Nat.ne_of_lt (Nat.lt_of_lt_of_le (Heap.lt_size q) hp))];exact n
 there:=fun b u q _=>⟨u,k b u q⟩
 tups:=fun b xs q=>by rw[aS (cg q hn)];exact q
 frzs:=fun b u xs q=>by rw[aS (cg q hn)];exact q
 tbls:=fun b ps q=>⟨#[],by rw[aS (cg q hn),q];simp⟩
theorem Un.write(mu:Il (H x))(he:e=x\/H e=some (.own x))(k:∀b u,b≠e->h.get? b=some u->h'.get? b=some u)(CO:∃u,h'.get? e=some u):Un fs ex H (upd H x o) h h':=by
 have hx:∀b,H b=none->b≠x:=fun b n z=>by subst z;rw [n] at mu;exact mu
 have hb:∀b,H b=none->b≠e:=fun b n z=>by
  subst z;rcases he with r | r
  .exact hx b n r
  .rw [n] at r;cases r
 have hm:∀b u,H b=some u->¬Il (some u)->b≠x:=fun b u q nm z=>by subst z;rw [q] at mu;exact nm mu
 refine⟨fun b u q n _ _=>k b u (hb b n) q,fun b u q n _ _=>⟨u.slots,k b u (hb b n) q⟩,fun b u q n _=>by rw[aS (hx b n)];exact n,fun b u q _=>?_,
  fun b xs q=>by rw[aS (hm b _ q fun z=>z)];exact q,fun b u xs q=>by rw[aS (hm b _ q fun z=>z)];exact q,fun b ps q=>⟨#[],by rw[aS (hm b _ q fun z=>z),q];simp⟩⟩
 by_cases hbe:b=e
 .subst hbe;exact CO
 .exact⟨u,k b u hbe q⟩
end
def Kh(h:Heap)(H:Hp):List Addr:=(List.range h.objs.size).filter fun a=>(H a).isSome
def sI(h:Heap)(H:Hp):Heap:=PySem.W.hideAll h (Kh h H)
theorem y_(h:Heap)(H:Hp):(sI h H).objs.size=h.objs.size:=PySem.W.hideAll_size _ _
theorem BP{h:Heap}{H:Hp}{b:Addr}{o:Obj}(e:h.get? b=some o)(n:H b=none):(sI h H).get? b=some o:=
 PySem.W.hideAll_get _ e fun hm=>by
  have q:(H b).isSome=true:=(List.mem_filter.mp hm).2;rw[n] at q;simp at q
theorem DD{h:Heap}{H:Hp}{b:Addr}{o:Obj}(e:(sI h H).get? b=some o):h.get? b=some o/\H b=none:=by
 have e':h.get? b=some o:=PySem.W.of_hideAll (Kh h H) e;refine⟨e',?_⟩;cases q:H b with
 | none=>rfl
 | some x=>
   have hm:b∈Kh h H:=List.mem_filter.mpr ⟨List.mem_range.mpr (Heap.lt_size e'),by simp [q]⟩
   have z:(sI h H).get? b=none:=PySem.W.hideAll_none (Kh h H) hm;rw[z] at e;cases e
def DQ(g h:Heap)(L:Addr):Rn:=(List.range h.objs.size).filterMap fun a=>if a=L\/(g.get? a).isSome=true then none else(h.get? a).map fun o=>(a,o)
def rest(g h:Heap)(L d:Addr):Rn:=(DQ g h L).filter fun p=>decide (p.1≠d)
structure Mod (K:W.Frag) (mg:Rt) (base:Heap):Prop where
 kin:K.In base
 glob:base.Ns mainGlobals mg
 blt:∃mb,base.Ns builtinsNs mb/\∀x:Str,x≠"__name__"->mb x=bootBuiltins x
 nolimit:base.NoLimit
structure Cx where
 prog:Program
 w:World
 K:W.Frag
 mg:Rt
 base:Heap
 A:Around
 N:List Str
 s₀:Shared
 H₀:Hp
 env:Env
 outer:List Env
 stack:List Env
 ex:List Addr
 fn:Str->Bool
 calm:Bool
 pn:Rn
 xe:Ro
def zL(l:List Env):List Addr:=l.filterMap (·.frame)
abbrev Cx.fs(X:Cx):List Addr:=zL X.outer
def Cz(sc:Scope)(x:Str):Prop:=sc.names.lookup x=some .local\/sc.names.lookup x=some .cell\/sc.names.lookup x=some .free
def Loc(sc:Scope)(x:Str):Prop:=sc.names.lookup x=some .local\/sc.names.lookup x=some .cell
def Look(env:Env)(h:Heap)(m:Rt)(x:Str)(u:Value):Prop:=
 (env.kindOf x=some .local/\m x=some u)\/((env.kindOf x=some .cell\/env.kindOf x=some .free)/\∃c,env.cells.lookup x=some c/\h.IsCell c (some u))
structure Cx.Ok (X:Cx):Prop where
 mod:Mod X.K X.mg X.base
 kind:X.env.scope.kind= .function
 glob:X.env.globals=mainGlobals
 blt:X.env.builtins=builtinsNs
 above:X.s₀.heap.objs.size<=X.env.locals
 inj:∀x y c,X.env.cells.lookup x=some c->X.env.cells.lookup y=some c->x=y
 has:∀x,(X.env.kindOf x=some .cell\/X.env.kindOf x=some .free)->∃c,X.env.cells.lookup x=some c
 cab:∀x c,X.fn x=true->X.env.cells.lookup x=some c->X.s₀.heap.objs.size<=c
 hd:X.calm=true->X.A.handled=none
 frames:X.A.frames=some X.stack
 stk:X.stack=X.outer\/(X.stack=X.env ::X.outer/\X.env.frame=some X.env.locals)
 exf:∀b∈X.ex,b≠X.env.locals/\∀x c,X.env.cells.lookup x=some c->c≠b
 bs:∀b o,X.base.get? b=some o->X.s₀.heap.get? b=some o/\X.H₀ b=none
 bsz:X.base.objs.size<=X.s₀.heap.objs.size
 noex:∀b o,X.base.get? b=some o->b ∉ X.ex
 exfs:∀b∈X.ex,b ∉ X.fs
 o5:X.s₀.heap.FunFrames X.base X.outer
 frf:∀b∈X.fs,X.H₀ b=none
structure Inv (X:Cx) (pins:Rn) (σ:List (Option V)) (H:Hp) (s:Shared):Prop where
 ok:X.Ok
 os:s.os=X.s₀.os
 bare:AllBare s.gens
 base:Un X.fs X.ex X.H₀ H X.s₀.heap s.heap
 loc:∃m,s.heap.Ns X.env.locals m/\∀(i:Nat) (x:Str) (v:V),X.N[i]? =some x->σ[i]? =some (some v)->Cz X.env.scope x->∃u,RelV v u/\Look X.env s.heap m x u
 cell:∀x c,X.env.cells.lookup x=some c->∃v,s.heap.IsCell c v
 free:H X.env.locals=none
 freeC:∀x c,X.env.cells.lookup x=some c->H c=none
 pin:∀p∈X.pn++pins,s.heap.get? p.1=some p.2/\H p.1=none/\p.1≠X.env.locals/\p.1 ∉ X.fs/\∀v,p.2.data≠ .cell v
 hok:lQ X.prog X.w H s.heap
 len:σ.length=X.N.length
section
variable {X:Cx} {pins:Rn} {σ:List (Option V)} {H H':Hp} {s:Shared} {h':Heap}
theorem Cx.Ok.Ly(ok:X.Ok){b:Addr}{o:Obj}(e:X.base.get? b=some o):b ∉ X.fs:=fun hb=>by
 have:=(ok.o5.mem hb).1;rw[e] at this;cases this
theorem Inv.bs(I:Inv X pins σ H s):∀b o,X.base.get? b=some o->s.heap.get? b=some o/\H b=none:=fun b o e=>
 ⟨I.base.keep b o (I.ok.bs b o e).1 (I.ok.bs b o e).2 (I.ok.Ly e) (I.ok.noex b o e),I.base.free b o (I.ok.bs b o e).1 (I.ok.bs b o e).2 (I.ok.noex b o e)⟩
theorem Inv.bk(I:Inv X pins σ H s):∀b o,X.base.get? b=some o->s.heap.get? b=some o:=fun b o e=>(I.bs b o e).1
theorem Inv.mod(I:Inv X pins σ H s):Mod X.K X.mg X.base:=I.ok.mod
theorem Inv.xD(I:Inv X pins σ H s):X.K.In s.heap:=I.ok.mod.kin.keeps I.bk
theorem Inv.lt(I:Inv X pins σ H s):X.env.locals < s.heap.objs.size:=let⟨_,hn,_⟩:=I.loc;hn.lt
theorem Inv.sz(I:Inv X pins σ H s):X.s₀.heap.objs.size<=s.heap.objs.size:=Nat.le_trans I.ok.above (Nat.le_of_lt I.lt)
theorem Inv.Lh(I:Inv X pins σ H s){a:Addr}(h:s.heap.objs.size<=a):a ∉ X.fs:=fun hb=>by
 obtain⟨_,o,ho,_⟩:=I.ok.o5.mem hb;exact absurd (Nat.lt_of_lt_of_le (Heap.lt_size ho) (Nat.le_trans I.sz h)) (Nat.lt_irrefl _)
theorem Inv.Gx(I:Inv X pins σ H s):∀x c,X.env.cells.lookup x=some c->c≠X.env.locals:=fun x c e z=>by
 obtain⟨v,o,ho,hd⟩:=I.cell x c e;obtain⟨m,⟨o',es,ep,Hz,LZ,_⟩,_⟩:=I.loc;rw[z,Hz] at ho;cases ho;rw [LZ] at hd;cases hd
theorem Inv.o5(I:Inv X pins σ H s):s.heap.FunFrames X.base X.outer:=by
 have all:∀(l:List Env),(∀b∈zL l,b∈X.fs)->X.s₀.heap.FunFrames X.base l->s.heap.FunFrames X.base l:=by
  intro l
  induction l with
  | nil=>intro _ _;trivial
  | cons env r ih=>
    intro hs hl;obtain⟨hk,⟨L,o,hf,hn,ho,hd⟩,hr⟩:=hl;have hL:L∈X.fs:=hs L (by unfold zL;rw [List.filterMap_cons,hf];exact List.mem_cons_self)
    obtain⟨sl,e⟩:=I.base.slot L o ho (I.ok.frf L hL) hL fun z=>I.ok.exfs L z hL
    exact⟨hk,⟨L,_,hf,hn,e,hd⟩,ih (fun b hb=>hs b (by unfold zL;rw [List.filterMap_cons,hf];exact List.mem_cons_of_mem _ hb)) hr⟩
 exact all X.outer (fun _ hb=>hb) I.ok.o5
theorem Inv.stack(I:Inv X pins σ H s):s.heap.FunFrames X.base X.stack:=by
 rcases I.ok.stk with e | ⟨e,hf⟩
 .rw [e];exact I.o5
 .rw [e];obtain⟨m,hn,_⟩:=I.loc;refine .cons (by rw[I.ok.kind];decide) hf hn ?_ I.o5
  exact Heap.get?_none_of_le (Nat.le_trans I.ok.bsz I.ok.above)
theorem Inv.wM(I:Inv X pins σ H s):∀b∈zL X.stack,b∈X.env.locals ::X.fs:=fun b hb=>by
 rcases I.ok.stk with e | ⟨e,hf⟩
 .rw [e] at hb;exact List.mem_cons_of_mem _ hb
 .rw [e] at hb;unfold zL at hb;rw[List.filterMap_cons,hf] at hb;exact hb
theorem Inv.xH(I:Inv X pins σ H s):∀b∈zL X.stack,H b=none:=fun b hb=>by
 rcases List.mem_cons.mp (I.wM b hb) with e | hb
 .rw [e];exact I.free
 .obtain⟨_,o,ho,_⟩:=I.ok.o5.mem hb;exact I.base.free b o ho (I.ok.frf b hb) fun z=>I.ok.exfs b z hb
theorem Inv.step{g':Array GenState}{t':Nat}{d':Drawn}{ch:List Addr}(I:Inv X pins σ H s)
 (zN:∀b∈ch,(b∈X.ex\/X.s₀.heap.objs.size<=b)/\b≠X.env.locals/\(∀x c,X.env.cells.lookup x=some c->c≠b)/\∀p∈X.pn++pins,p.1≠b)
 (keep:∀b o,b≠X.env.locals->b ∉ X.fs->b ∉ ch->s.heap.get? b=some o->H b=none->h'.get? b=some o)
 (slot:∀b o,b≠X.env.locals->b∈X.fs->b ∉ ch->s.heap.get? b=some o->H b=none->∃sl,h'.get? b=some {o with slots:=sl}) (free:∀b o,b ∉ ch->s.heap.get? b=some o->H b=none->H' b=none)
 (there:∀b o,b ∉ ch->s.heap.get? b=some o->∃o',h'.get? b=some o')
 (tups:∀b xs,H b=some (.tup xs)->H' b=some (.tup xs)) (frzs:∀b o u,H b=some (.jk o u)->H' b=some (.jk o u)) (tbls:∀b ps,H b=some (.tbl ps)->∃more,H' b=some (.tbl (ps++more)))
 (ns:∀m,s.heap.Ns X.env.locals m->h'.Ns X.env.locals m) (hok:lQ X.prog X.w H' h') (hg:AllBare g') :
 Inv X pins σ H' {s with heap:=h',gens:=g',drawn:=d',toks:=t'}:=by
 have neL:∀b o,X.s₀.heap.get? b=some o->b≠X.env.locals:=fun b o e=>Nat.ne_of_lt (Nat.lt_of_lt_of_le (Heap.lt_size e) I.ok.above)
 have neC:∀b o,X.s₀.heap.get? b=some o->b ∉ X.ex->b ∉ ch:=fun b o e hx hb=>by
  rcases(zN b hb).1 with z | z
  .exact hx z
  .exact absurd (Nat.lt_of_lt_of_le (Heap.lt_size e) z) (Nat.lt_irrefl _)
 have cellK:∀x c,X.env.cells.lookup x=some c->∀v,s.heap.IsCell c v->h'.IsCell c v:=fun x c e v ⟨o,ho,hd⟩=>by
  have nch:c ∉ ch:=fun z=>(zN c z).2.2.1 x c e rfl
  by_cases hc:c∈X.fs
  .obtain⟨sl,q⟩:=slot c o (I.Gx x c e) hc nch ho (I.freeC x c e);exact⟨_,q,hd⟩
  .exact⟨o,keep c o (I.Gx x c e) hc nch ho (I.freeC x c e),hd⟩
 refine⟨I.ok,I.os,hg,⟨fun b o e n hb hx=>?_,fun b o e n hb hx=>?_,fun b o e n hx=>?_,fun b o e hx=>?_,fun b xs e=>tups b xs (I.base.tups b xs e),fun b o xs e=>frzs b o xs (I.base.frzs b o xs e),fun b ps e=>?_⟩,?_,fun x c e=>?_,?_,fun x c e=>?_,fun p hp=>?_,hok,I.len⟩
 .exact keep b o (neL b o e) hb (neC b o e hx) (I.base.keep b o e n hb hx) (I.base.free b o e n hx)
 .obtain⟨sl,e1⟩:=I.base.slot b o e n hb hx;obtain⟨P6,e2⟩:=slot b _ (neL b o e) hb (neC b o e hx) e1 (I.base.free b o e n hx);exact⟨P6,e2⟩
 .obtain⟨o',e1⟩:=I.base.there b o e hx;exact free b o' (neC b o e hx) e1 (I.base.free b o e n hx)
 .obtain⟨o',e1⟩:=I.base.there b o e hx;exact there b o' (neC b o e hx) e1
 .obtain⟨m1,e1⟩:=I.base.tbls b ps e;obtain⟨m2,e2⟩:=tbls b _ e1;exact⟨m1++m2,by rw[e2,Array.append_assoc]⟩
 .obtain⟨m,hn,hl⟩:=I.loc;refine⟨m,ns m hn,fun i x v e1 e2 e3=>?_⟩
  obtain⟨u,r,l⟩:=hl i x v e1 e2 e3;refine⟨u,r,?_⟩;rcases l with l | ⟨k,c,e,z⟩
  .exact .inl l
  .exact .inr ⟨k,c,e,cellK x c e _ z⟩
 .obtain⟨v,z⟩:=I.cell x c e;exact⟨v,cellK x c e v z⟩
 .obtain⟨m,⟨o,_,_,ho,_⟩,_⟩:=I.loc;exact free _ o (fun z=>(zN _ z).2.1 rfl) ho I.free
 .obtain⟨v,o,ho,hd⟩:=I.cell x c e;exact free c o (fun z=>(zN c z).2.2.1 x c e rfl) ho (I.freeC x c e)
 .obtain⟨e,n,ne,nf,d⟩:=I.pin p hp;have nch:p.1 ∉ ch:=fun z=>(zN p.1 z).2.2.2 p hp rfl
  exact⟨keep p.1 p.2 ne nf nch e n,free p.1 p.2 nch e n,ne,nf,d⟩
theorem Inv.un{t':Nat}(I:Inv X pins σ H s)(u:Un X.fs [] H H' s.heap h')(hok:lQ X.prog X.w H' h'):Inv X pins σ H' {s with heap:=h',toks:=t'}:=by
 obtain⟨m,⟨o,es,ep,ho,r⟩,_⟩:=id I.loc;obtain⟨sl,hL⟩:=u.any ho I.free (by simp)
 exact I.step (g':=s.gens) (d':=s.drawn) (ch:=[]) (fun _ z=>nomatch z) (fun b o _ hb _ e n=>u.keep b o e n hb (by simp)) (fun b o _ hb _ e n=>u.slot b o e n hb (by simp)) (fun b o _ e n=>u.free b o e n (by simp)) (fun b o _ e=>u.there b o e (by simp)) u.tups u.frzs u.tbls (fun m' hm=>by
  obtain⟨o',Ma,LM,Hz,r'⟩:=hm;rw[ho] at Hz;cases Hz;exact⟨_,Ma,LM,hL,r'⟩) hok I.bare
theorem Inv.call{g':Array GenState}{t':Nat}{d':Drawn}{ch:List Addr}(I:Inv X pins σ H s)(u:Un (zL X.stack) ch H H' s.heap h')(hok:lQ X.prog X.w H' h')(hg:AllBare g')
 (zN:∀b∈ch,(b∈X.ex\/X.s₀.heap.objs.size<=b)/\b≠X.env.locals/\(∀x c,X.env.cells.lookup x=some c->c≠b)/\∀p∈X.pn++pins,p.1≠b) :
 Inv X pins σ H' {s with heap:=h',gens:=g',drawn:=d',toks:=t'}:=by
 obtain⟨m,⟨o,es,ep,ho,r⟩,_⟩:=id I.loc;obtain⟨sl,hL⟩:=u.any ho I.free fun z=>(zN _ z).2.1 rfl
 exact I.step (ch:=ch) zN (fun b o hL hb hc e n=>u.keep b o e n (fun z=>(List.mem_cons.mp (I.wM b z)).elim hL hb) hc) (fun b o _ _ hc e n=>u.any e n hc) (fun b o hc e n=>u.free b o e n hc) (fun b o hc e=>u.there b o e hc) u.tups u.frzs u.tbls (fun m' hm=>by
  obtain⟨o',Ma,LM,Hz,r'⟩:=hm;rw[ho] at Hz;cases Hz;exact⟨_,Ma,LM,hL,r'⟩) hok hg
theorem Inv.turned{t':Nat}{it:Addr}(I:Inv X pins σ H s)(k:∀b o,b≠it->s.heap.get? b=some o->h'.get? b=some o)(hn:H it=none)(hL:it≠X.env.locals)
 (h1:it∈X.ex\/X.s₀.heap.objs.size<=it) (h2:∀x c,X.env.cells.lookup x=some c->c≠it) (h3:∀p∈X.pn++pins,p.1≠it):Inv X pins σ H {s with heap:=h',toks:=t'}:=by
 have nit:∀b u,H b=some u->b≠it:=fun b u e z=>by rw[z,hn] at e;cases e
 refine I.step (g':=s.gens) (d':=s.drawn) (ch:=[it]) (fun b hb=>?_) (fun b o _ _ hc e _=>k b o (fun z=>hc (by simp [z])) e) (fun b o _ _ hc e _=>⟨o.slots,k b o (fun z=>hc (by simp [z])) e⟩) (fun _ _ _ _ n=>n)
  (fun b o hc e=>⟨o,k b o (fun z=>hc (by simp [z])) e⟩) (fun _ _ e=>e) (fun _ _ _ e=>e) (fun b ps e=>⟨#[],by rw[e];simp⟩) (fun m hm=>?_) (fun b u e=>?_) I.bare
 .have e:b=it:=by simpa using hb
  subst e;exact⟨h1,hL,h2,h3⟩
 .obtain⟨o,es,ep,ho,r⟩:=hm;exact⟨o,es,ep,k _ o (Ne.symm hL) ho,r⟩
 .refine(I.hok b u e).tQ (fun c v hc q=>k c v ?_ q) (fun _ q=>q) fun _ _ q=>q
  rcases hc with z | z
  .rw [z];exact nit b u e
  .exact nit c _ z
theorem Inv.tok(I:Inv X pins σ H s)(t:Nat):Inv X pins σ H {s with toks:=t}:=I.un (h':=s.heap) (t':=t) Un.refl I.hok
theorem Inv.kept{t':Nat}(I:Inv X pins σ H s)(k:∀b u,s.heap.get? b=some u->h'.get? b=some u):Inv X pins σ H {s with heap:=h',toks:=t'}:=I.un (Un.kept k) (I.hok.kept k)
theorem Inv.laid{a:Addr}{o:HO}{t':Nat}(I:Inv X pins σ H s)(k:∀b u,s.heap.get? b=some u->h'.get? b=some u)(hp:s.heap.objs.size<=a)(new:ef X.prog X.w (upd H a o) h' a o) :
 Inv X pins σ (upd H a o) {s with heap:=h',toks:=t'}:=I.un (Un.laid k hp (I.hok.fresh hp)) (I.hok.laid k hp new)
theorem Inv.write{x e:Addr}{o:HO}{t':Nat}(I:Inv X pins σ H s)(mu:Il (H x))(he:e=x\/H e=some (.own x))(k:∀b u,b≠e->s.heap.get? b=some u->h'.get? b=some u)(CO:∃u,h'.get? e=some u)
 (new:ef X.prog X.w (upd H x o) h' x o):Inv X pins σ (upd H x o) {s with heap:=h',toks:=t'}:=I.un (Un.write mu he k CO) (I.hok.write mu he k CO new)
theorem Inv.ye{Fi:Rn}(I:Inv X pins σ H s)(h:∀p∈Fi,s.heap.get? p.1=some p.2/\H p.1=none/\p.1≠X.env.locals/\p.1 ∉ X.fs/\∀v,p.2.data≠ .cell v):Inv X Fi σ H s:=
 ⟨I.ok,I.os,I.bare,I.base,I.loc,I.cell,I.free,I.freeC,fun p hp=>(List.mem_append.mp hp).elim (fun z=>I.pin p (List.mem_append_left _ z)) (h p),I.hok,I.len⟩
theorem u0{N:List Str}(hN:N.Nodup){i j:Nat}(a:N[i]? =some x)(b:N[j]? =some x):i=j:=by
 obtain⟨h1,e1⟩:=List.getElem?_eq_some_iff.mp a;obtain⟨h2,e2⟩:=List.getElem?_eq_some_iff.mp b;exact(List.getElem_inj hN).mp (e1.trans e2.symm)
theorem rL{M:Model}{A:Around}{E:Ro}{i:Nat}{x:Str}{v:V}{u:Value}{Q:Unit->Shared->Prop}(I:Inv X pins σ H s)(hN:X.N.Nodup)(hi:X.N[i]? =some x)(hx:Loc X.env.scope x)(r:RelV v u)
 (h:∀s',Inv X pins (σ.set i (some v)) H s'->(∃a,Heap.SameBut a s.heap s'.heap/\(a=X.env.locals\/X.env.cells.lookup x=some a))->Q () s') (hf:X.fn x=true\/X.env.scope.names.lookup x=some .local:=by first | exact .inl rfl | exact .inr rfl | assumption):wpAny M A (storeName X.env x u) Q E s:=by
 obtain⟨m,hn,hl⟩:=id I.loc;have hcls:(X.env.scope.kind== .class || (X.env.scope.kind== .module && X.env.locals !=X.env.globals))=false:=by rw[I.ok.kind];rfl
 have hiσ:i < σ.length:=by rw[I.len];exact(List.getElem?_eq_some_iff.mp hi).1
 have Gx:=I.Gx;have tracked:∀{a:Addr} {h':Heap},(∃o,s.heap.get? a=some o/\H a=none)->Heap.SameBut a s.heap h'->lQ X.prog X.w H h':=fun {a h'} ha hs b ob e=>by
  obtain⟨_,_,hfree⟩:=ha;refine(I.hok b ob e).tQ (fun c w' hc q=>(hs.2 c ?_).trans q) (fun _ q=>q) fun _ _ q=>q
  rintro rfl;rcases hc with rfl | hc
  .rw [hfree] at e;cases e
  .rw [hfree] at hc;cases hc
 rcases hx with hk | hk
 .refine wpAny_storeName_local hk hn (fun h' Mm hs=>?_) hcls
  obtain⟨oL,_,_,hoL,_⟩:=id hn;refine h _ ⟨I.ok,I.os,I.bare,⟨fun b o e n hb hx=>?_,fun b o e n hb hx=>?_,I.base.free,fun b o e hx=>?_,I.base.tups,I.base.frzs,I.base.tbls⟩,⟨_,Mm,fun j y v' e1 e2 e3=>?_⟩,fun y c e=>?_,I.free,I.freeC,fun p hp=>?_,tracked ⟨oL,hoL,I.free⟩ hs,by simpa using I.len⟩ ⟨_,hs, .inl rfl⟩
  .exact(hs.2 b (Nat.ne_of_lt (Nat.lt_of_lt_of_le (Heap.lt_size e) I.ok.above))).trans (I.base.keep b o e n hb hx)
  .obtain⟨sl,e1⟩:=I.base.slot b o e n hb hx;exact⟨sl,(hs.2 b (Nat.ne_of_lt (Nat.lt_of_lt_of_le (Heap.lt_size e) I.ok.above))).trans e1⟩
  .obtain⟨o',e1⟩:=I.base.there b o e hx;exact⟨o',(hs.2 b (Nat.ne_of_lt (Nat.lt_of_lt_of_le (Heap.lt_size e) I.ok.above))).trans e1⟩
  .by_cases hj:j=i
   .subst hj;rw[hi] at e1;cases e1;rw[List.getElem?_set_self hiσ] at e2;cases e2;exact⟨u,r, .inl ⟨hk,by simp⟩⟩
   .rw [List.getElem?_set_ne (Ne.symm hj)] at e2;obtain⟨u',r',q⟩:=hl j y v' e1 e2 e3;refine⟨u',r',?_⟩;rcases q with⟨k,e⟩ | ⟨k,c,e,z⟩
    .refine .inl ⟨k,?_⟩;have:y≠x:=fun e=>hj (u0 hN e1 (e▸hi))
     simp [this,e]
    .exact .inr ⟨k,c,e,z.sameBut hs (Gx y c e)⟩
  .obtain⟨w',z⟩:=I.cell y c e;exact⟨w',z.sameBut hs (Gx y c e)⟩
  .obtain⟨e,n,ne,nf,d⟩:=I.pin p hp;exact⟨(hs.2 p.1 ne).trans e,n,ne,nf,d⟩
 .have hfn:X.fn x=true:=by
   rcases hf with z | z
   .exact z
   .rw [z] at hk;cases hk
  obtain⟨c,hc⟩:=I.ok.has x (.inl hk);obtain⟨w',z⟩:=I.cell x c hc;refine wpAny_storeName_cell I.ok.kind hk hc z (fun h' zM hs=>?_)
  obtain⟨oc,hoc,hocd⟩:=id z;refine h {s with heap:=h'} ⟨I.ok,I.os,I.bare,⟨fun b o e n hb hx=>?_,fun b o e n hb hx=>?_,I.base.free,fun b o e hx=>?_,I.base.tups,I.base.frzs,I.base.tbls⟩,⟨m,hn.sameBut hs (Ne.symm (Gx x c hc)),fun j y v' e1 e2 e3=>?_⟩,fun y c' e=>?_,I.free,I.freeC,fun p hp=>?_,tracked ⟨oc,hoc,I.freeC x c hc⟩ hs,by simpa using I.len⟩ ⟨c,hs, .inr hc⟩
  .exact(hs.2 b (Nat.ne_of_lt (Nat.lt_of_lt_of_le (Heap.lt_size e) (I.ok.cab x c hfn hc)))).trans (I.base.keep b o e n hb hx)
  .obtain⟨sl,e1⟩:=I.base.slot b o e n hb hx;exact⟨sl,(hs.2 b (Nat.ne_of_lt (Nat.lt_of_lt_of_le (Heap.lt_size e) (I.ok.cab x c hfn hc)))).trans e1⟩
  .obtain⟨o',e1⟩:=I.base.there b o e hx;exact⟨o',(hs.2 b (Nat.ne_of_lt (Nat.lt_of_lt_of_le (Heap.lt_size e) (I.ok.cab x c hfn hc)))).trans e1⟩
  .by_cases hj:j=i
   .subst hj;rw[hi] at e1;cases e1;rw[List.getElem?_set_self hiσ] at e2;cases e2;exact⟨u,r, .inr ⟨.inl hk,c,hc,zM⟩⟩
   .rw [List.getElem?_set_ne (Ne.symm hj)] at e2;obtain⟨u',r',q⟩:=hl j y v' e1 e2 e3;refine⟨u',r',?_⟩;rcases q with q | ⟨k,c',e,z'⟩
    .exact .inl q
    .refine .inr ⟨k,c',e,z'.sameBut hs ?_⟩;rintro rfl;exact hj (u0 hN e1 (I.ok.inj _ _ _ e hc▸hi))
  .by_cases hcc:c'=c
   .subst hcc;exact⟨_,zM⟩
   .obtain⟨w2,z2⟩:=I.cell y c' e;exact⟨w2,z2.sameBut hs hcc⟩
  .obtain⟨e,n,ne,nf,d⟩:=I.pin p hp;refine⟨(hs.2 p.1 ?_).trans e,n,ne,nf,d⟩;intro q;rw[q,hoc] at e;have q':oc=p.2:=Option.some.inj e;exact d w' (by rw[<-q'];exact hocd)
theorem uT{M:Model}{A:Around}{E:Ro}{i:Nat}{x:Str}{v:V}{u:Value}{Q:Unit->Shared->Prop}(I:Inv X pins σ H s)(hN:X.N.Nodup)(hi:X.N[i]? =some x)(hx:Loc X.env.scope x)(r:RelV v u)
 (h:∀s',Inv X pins (σ.set i (some v)) H s'->Q () s') (hf:X.fn x=true\/X.env.scope.names.lookup x=some .local:=by first | exact .inl rfl | exact .inr rfl | assumption):wpAny M A (storeName X.env x u) Q E s:=
 rL I hN hi hx r (fun s' I' _=>h s' I') hf
theorem Inv.Ju{s':Shared}{ch:List Addr}(I:Inv X pins σ H s)(ho:s'.os=s.os)(u:Un (zL X.stack) ch H H' s.heap s'.heap)(hok:lQ X.prog X.w H' s'.heap)(hg:AllBare s'.gens)
 (zN:∀b∈ch,(b∈X.ex\/X.s₀.heap.objs.size<=b)/\b≠X.env.locals/\(∀x c,X.env.cells.lookup x=some c->c≠b)/\∀p∈X.pn++pins,p.1≠b):Inv X pins σ H' s':=by
 obtain⟨h',g',d',t',o'⟩:=s';have e:o'=s.os:=ho;subst e;exact I.call (g':=g') (t':=t') (d':=d') u hok hg zN
end
abbrev XK:=Value->Option Addr->Hp->Prop
abbrev St:=List (Option V)
abbrev VK:=V->Hp->Prop
abbrev TE:=St->Hp->VK->Prop
abbrev TT:=St->Hp->(Bool->Hp->Prop)->Prop
abbrev TA:=St->Hp->(List V->Hp->Prop)->Prop
structure Ends where
 nx:St->Hp->Prop
 rt:VK
 bk:St->Hp->Prop:=fun _ _=>False
 ct:St->Hp->Prop:=fun _ _=>False
abbrev TS:=Ends->St->Hp->Prop
def EP(X:Cx)(pins:Rn)(σ:St)(Q:VK)(u:Value)(s':Shared):Prop:=∃v H',Inv X pins σ H' s'/\RelV v u/\Q v H'
def TP(X:Cx)(pins:Rn)(σ:St)(Q:Bool->Hp->Prop)(b:Bool)(s':Shared):Prop:=∃H',Inv X pins σ H' s'/\Q b H'
def AP(X:Cx)(pins:Rn)(σ:St)(Q:List V->Hp->Prop)(us:List Value)(s':Shared):Prop:=∃vs H',Inv X pins σ H' s'/\Vals vs us/\Q vs H'
def SP(X:Cx)(pins:Rn)(D:Ends)(f:Flow)(s':Shared):Prop:=
 match f with
 | .next=>∃cX H',Inv X pins cX H' s'/\D.nx cX H'
 | .brk=>∃cX H',Inv X pins cX H' s'/\D.bk cX H'
 | .cont=>∃cX H',Inv X pins cX H' s'/\D.ct cX H'
 | .ret u=>∃v cX H',Inv X pins cX H' s'/\RelV v u/\D.rt v H'
def PE(X:Cx)(e:Expr)(t:TE):Prop:=
 ∀(pins:Rn) (s:Shared) (σ:St) (H:Hp) (Q:VK),Inv X pins σ H s->t σ H Q->wpAny (model X.prog X.w) X.A (eval e X.env) (EP X pins σ Q) X.xe s
def PT(X:Cx)(e:Expr)(t:TT):Prop:=
 ∀(pins:Rn) (s:Shared) (σ:St) (H:Hp) (Q:Bool->Hp->Prop),Inv X pins σ H s->t σ H Q->wpAny (model X.prog X.w) X.A (isTrue e X.env (eval e X.env)) (TP X pins σ Q) X.xe s
def PW(X:Cx)(e:Expr)(t:TT):Prop:=
 ∀(whole:Sem Value) (pins:Rn) (s:Shared) (σ:St) (H:Hp) (Q:Bool->Hp->Prop),Inv X pins σ H s->t σ H Q->wpAny (model X.prog X.w) X.A (isTrue e X.env whole) (TP X pins σ Q) X.xe s
def PA(X:Cx)(es:List Expr)(t:TA):Prop:=
 ∀(pos:Pos) (pins:Rn) (s:Shared) (σ:St) (H:Hp) (Q:List V->Hp->Prop),Inv X pins σ H s->t σ H Q->wpAny (model X.prog X.w) X.A (spliced (backTo pos (starEach es X.env))) (AP X pins σ Q) X.xe s
def PS(X:Cx)(st:Stmt)(t:TS):Prop:=
 ∀(pins:Rn) (s:Shared) (σ:St) (H:Hp) (D:Ends),Inv X pins σ H s->t D σ H->wpAny (model X.prog X.w) X.A (exec st X.env) (SP X pins D) X.xe s
def ud(X:Cx)(st:List Stmt)(t:TS):Prop:=
 ∀(pins:Rn) (s:Shared) (σ:St) (H:Hp) (D:Ends),Inv X pins σ H s->t D σ H->wpAny (model X.prog X.w) X.A (execs st X.env) (SP X pins D) X.xe s
theorem ee{α:Type}{t:Sem α}{Q Q':α->Shared->Prop}{M:Model}{E:Ro}{s:Shared}(h:wpAny M A t Q E s)(hQ:∀a s,Q a s->Q' a s):wpAny M A t Q' E s:=wpAny_mono h hQ fun _ _ x=>x
section
variable {X:Cx}
def Ld(i:Nat):TE:=fun σ H Q=>∃v,σ[i]? =some (some v)/\Q v H
def tC(v:V):TE:=fun _ H Q=>Q v H
theorem qh{i:Nat}{pos:Pos}(hN:X.N[i]? =some x)(hv:Cz X.env.scope x)(hd:(x==("__debug__":Str))=false:=by decide)(pb:(x==("__classdict__":Str))=false:=by decide):PE X (.Name x pos) (Ld i):=by
 intro pins s σ H Q I h;obtain⟨v,e,h⟩:=h;obtain⟨m,hn,hl⟩:=I.loc;obtain⟨u,r,l⟩:=hl i x v hN e hv;have fin:EP X pins σ Q u s:=⟨v,H,I,r,h⟩;rcases l with⟨hk,hm⟩ | ⟨hk,c,hc,hcell⟩
 .exact wpAny_Name (wpAny_loadName_local I.ok.kind hk hn hm fin) hd
 .rcases hk with hk | hk
  .exact wpAny_Name (wpAny_loadName_cell I.ok.kind hk hc hcell fin) hd
  .exact wpAny_Name (wpAny_loadName_free I.ok.kind hk hc hcell fin pb) hd
theorem pO{i j pos}:PE X (.Constant (.int i) j pos) (tC (.int i)):=fun _ _ _ H _ I h=>wpAny_Constant_int ⟨.int i,H,I.tok _,⟨_,rfl⟩,h⟩
theorem Ic{b j pos}:PE X (.Constant (.bool b) j pos) (tC (.bl b)):=fun _ _ _ H _ I h=>Constant_bool ⟨.bl b,H,I,rfl,h⟩
theorem qo{x j pos}:PE X (.Constant (.str x) j pos) (tC (.str x)):=fun _ _ _ H _ I h=>Calls.Constant_str ⟨.str x,H,I.tok _,⟨_,rfl⟩,h⟩
def Gl(X:Cx)(x:Str):Prop:=X.env.kindOf x=some .globalImplicit
theorem yi{E:Ro}{pins:Rn}{s:Shared}{σ:St}{H:Hp}{x:Str}{u:Value}{pos:Pos}{Q:Ro}(I:Inv X pins σ H s)(hg:Gl X x)(hm:X.mg x=some u)(h:Q u s)
 (hd:(x==("__debug__":Str))=false:=by decide):wpAny (model X.prog X.w) X.A (eval (.Name x pos) X.env) Q E s:=
 Calls.Name_function_global I.ok.kind hg (Calls.loadGlobal_global (by rw[I.ok.glob];exact I.mod.glob.keeps I.bk) hm h) hd
theorem kQ{E:Ro}{pins:Rn}{s:Shared}{σ:St}{H:Hp}{x:Str}{u:Value}{pos:Pos}{Q:Ro}(I:Inv X pins σ H s)(hg:Gl X x)(hm:X.mg x=none)(hv:bootBuiltins x=some u)(h:Q u s)
 (hn:x≠"__name__":=by decide) (hd:(x==("__debug__":Str))=false:=by decide):wpAny (model X.prog X.w) X.A (eval (.Name x pos) X.env) Q E s:=by
 obtain⟨mb,h1,h2⟩:=I.mod.blt;exact Calls.Name_function_global I.ok.kind hg (Calls.loadGlobal_builtin (by rw[I.ok.glob];exact I.mod.glob.keeps I.bk) hm (by rw[I.ok.blt];exact h1.keeps I.bk) ((h2 x hn).trans hv) h) hd
def Kg(ta tb:TE)(k:Int->Int->Hp->Prop):St->Hp->Prop:=fun σ H=>ta σ H fun x H1=>tb σ H1 fun y H2=>∃i j,x= .int i/\y= .int j/\k i j H2
def O7(ta tb:TE):TE:=fun σ H Q=>Kg ta tb (fun i j H2=>Q (.int (i+j)) H2) σ H
def O9(ta tb:TE):TE:=fun σ H Q=>Kg ta tb (fun i j H2=>Q (.int (i - j)) H2) σ H
def N4(ta tb:TE):TE:=fun σ H Q=>Kg ta tb (fun i j H2=>(-(2 ^ 64) < i/\i < 2 ^ 64)/\Q (.int (i*j)) H2) σ H
variable {a b:Expr} {ta tb:TE} {pos:Pos}
def PC(X:Cx)(op:CmpOp)(a b:Expr)(t:TE):Prop:=
 ∀(pins:Rn) (s:Shared) (σ:St) (H:Hp) (Q:VK),Inv X pins σ H s->t σ H Q->
  wpAny (model X.prog X.w) X.A (eval a X.env) (fun v s₁=>wpAny (model X.prog X.w) X.A (eval b X.env) (fun u Hr=>wpAny (model X.prog X.w) X.A (compareOp op v u) (EP X pins σ Q) X.xe Hr) X.xe s₁) X.xe s
def yG(p:Int->Int->Bool)(ta tb:TE):TE:=fun σ H Q=>Kg ta tb (fun i j H2=>Q (.bl (p i j)) H2) σ H
abbrev Qz:TE->TE->TE:=yG fun i j=>decide (i < j)
abbrev QU:TE->TE->TE:=yG fun i j=>decide (i<=j)
abbrev Q8:TE->TE->TE:=yG fun i j=>decide (j < i)
abbrev QX:TE->TE->TE:=yG fun i j=>decide (j<=i)
abbrev Ob:TE->TE->TE:=yG fun i j=>decide (i=j)
abbrev Ol:TE->TE->TE:=yG fun i j=>!decide (i=j)
def Pb(ta:TE):TE:=fun σ H Q=>ta σ H fun x H1=>Q (.bl (decide (x= .cz))) H1
def M8(ta:TE):TE:=fun σ H Q=>ta σ H fun x H1=>Q (.bl (!decide (x= .cz))) H1
def tB(t:TE):TT:=fun σ H Q=>t σ H fun x H1=>∃c,x= .bl c/\Q c H1
variable {tA Rg:TT} {rest:List Expr}
def ON(t u:TT):TT:=fun σ H Q=>t σ H fun c H1=>if c=true then u σ H1 Q else Q false H1
def QK(t u:TT):TT:=fun σ H Q=>t σ H fun c H1=>if c=true then Q true H1 else u σ H1 Q
def La(t:TT):TT:=fun σ H Q=>t σ H fun c H1=>Q (!c) H1
theorem Gq(ha:PT X a tA):PT X (.UnaryOp .Not a pos) (La tA):=by
 intro pins s σ H Q I h;exact isTrue_not (ha pins s σ H (fun c H1=>Q (!c) H1) I h)
def IL(ta tb:TE):TE:=fun σ H Q=>ta σ H fun x H1=>∃c,x= .bl c/\if c=true then tb σ H1 Q else Q (.bl false) H1
def Ov(ta tb:TE):TE:=fun σ H Q=>ta σ H fun x H1=>∃c,x= .bl c/\if c=true then Q (.bl true) H1 else tb σ H1 Q
def Mv(ta:TE):TE:=fun σ H Q=>ta σ H fun x H1=>∃c,x= .bl c/\Q (.bl (!c)) H1
theorem Ft{op}{t:TE}(h:PE X a t):PE X (.BoolOp op [a] pos) t:=fun pins s σ H Q I hw=>BoolOp_one (h pins s σ H Q I hw)
theorem FC(ha:PE X a ta)(hb:PE X (.BoolOp .And (b ::rest) pos) tb):PE X (.BoolOp .And (a ::b ::rest) pos) (IL ta tb):=by
 intro pins s σ H Q I h;refine BoolOp_and (ee (ha pins s σ H _ I h) fun v s1 ⟨x,H1,I1,r1,q1⟩=>?_)
 obtain⟨c,rfl,q1⟩:=q1;cases r1;refine wpAny_truthy_bool ?_;cases c with
 | true=>exact hb pins s1 σ H1 Q I1 q1
 | false=>exact⟨.bl false,H1,I1,rfl,q1⟩
def Pk(t:TT)(ta tb:TE):TE:=fun σ H Q=>t σ H fun c H1=>if c=true then ta σ H1 Q else tb σ H1 Q
theorem AE(hc:PT X c tA)(ha:PE X a ta)(hb:PE X b tb):PE X (.IfExp c a b pos) (Pk tA ta tb):=by
 intro pins s σ H Q I h;refine wpAny_IfExp (ee (hc pins s σ H _ I h) fun d s1 ⟨H1,I1,q1⟩=>?_)
 cases d with
 | true=>exact ha pins s1 σ H1 Q I1 q1
 | false=>exact hb pins s1 σ H1 Q I1 q1
end
def mG(K:W.Frag)(H:Hp)(a:Addr)(xs:List V):Prop:=
 Rd H a (.lst xs)\/
  ∃(o:Obj) (its:Array Value) (n:Nat),K.lookup a=some o/\o.cls= .type "list"/\o.dict=none/\o.data= .seq its n/\its.size<=sizeLine/\Vals xs its.toList
def oX(K:W.Frag)(H:Hp)(a:Addr)(xs:List V):Prop:=
 Rd H a (.tup xs)\/
  ∃(o:Obj) (its:Array Value) (n:Nat),K.lookup a=some o/\o.cls= .type "tuple"/\o.data= .seq its n/\its.size<=sizeLine/\Vals xs its.toList
def KL:Value->Option V
 | .none=>some .cz
 | .bool b=>some (.bl b)
 | .int i _=>some (.int i)
 | .str x _=>some (.str x)
 | .bytes b _=>some (.byt b)
 | .float b _=>some (.flt b)
 | .ref a=>some (.ref a)
 | .type n=>some (.ty n)
 | _=>none
theorem RelV.abs{x:V}{u:Value}(r:RelV x u):KL u=some x:=by
 cases x with
 | cz=>cases r;rfl
 | bl _=>cases r;rfl
 | int _=>obtain⟨t,rfl⟩:=r;rfl
 | str _=>obtain⟨t,rfl⟩:=r;rfl
 | byt _=>obtain⟨t,rfl⟩:=r;rfl
 | flt _=>obtain⟨t,rfl⟩:=r;rfl
 | ref _=>cases r;rfl
 | ty _=>cases r;rfl
theorem RelV.inj{x y:V}{u:Value}(r:RelV x u)(q:RelV y u):x=y:=Option.some.inj (r.abs.symm.trans q.abs)
theorem Vals.inj:∀{xs ys:List V} {us:List Value},Vals xs us->Vals ys us->xs=ys
 | _,_,_, .nil, .nil=>rfl
 | _,_,_, .cons r t, .cons r' t'=>by rw[r.inj r',Vals.inj t t']
section
variable {X:Cx} {pins:Rn} {σ:St} {H:Hp} {s:Shared} {a:Addr} {xs ys:List V}
theorem mG.of{K:W.Frag}(h:H a=some (.lst xs)):mG K H a xs:= .inl (.inl h)
theorem Inv.list(I:Inv X pins σ H s)(h:mG X.K H a xs):∃its:List Value,Vals xs its/\PlainL s.heap a its.toArray/\xs.length<=sizeLine:=by
 rcases h with h | ⟨o,its,n,hk,hc,hd,hs,hz,r⟩
 .obtain⟨z,its,n,r,e⟩:=h.ok I.hok;exact⟨its,r,⟨_,n,e,rfl,rfl,rfl⟩,z⟩
 .refine⟨its.toList,r,⟨o,n,I.xD a o hk,hc,hd,by simpa using hs⟩,?_⟩
  have e:=r.length;simp only[Array.length_toList] at e;omega
theorem Inv.tuple(I:Inv X pins σ H s)(h:oX X.K H a xs):∃its:List Value,Vals xs its/\IsTup s.heap a its.toArray/\xs.length<=sizeLine:=by
 rcases h with h | ⟨o,its,n,hk,hc,hs,hz,r⟩
 .obtain⟨z,its,r,p⟩:=h.ok I.hok;exact⟨its,r,p,z⟩
 .refine⟨its.toList,r,⟨o,I.xD a o hk,hc,n,by simpa using hs⟩,?_⟩
  have e:=r.length;simp only[Array.length_toList] at e;omega
theorem Inv.mK(I:Inv X pins σ H s)(h:mG X.K H a xs)(h':mG X.K H a ys):xs=ys:=by
 obtain⟨its,r,⟨o,n,e,_,_,d⟩,_⟩:=I.list h;obtain⟨its',r',⟨o',n',e',_,_,d'⟩,_⟩:=I.list h';rw[e] at e';cases e';rw[d] at d';injection d' with d1 _
 have:its=its':=by simpa using congrArg Array.toList d1
 subst this;exact r.inj r'
theorem Inv.nS(I:Inv X pins σ H s)(h:oX X.K H a xs)(h':oX X.K H a ys):xs=ys:=by
 obtain⟨its,r,⟨o,e,_,n,d⟩,_⟩:=I.tuple h;obtain⟨its',r',⟨o',e',_,n',d'⟩,_⟩:=I.tuple h';rw[e] at e';cases e';rw[d] at d';injection d' with d1 _
 have:its=its':=by simpa using congrArg Array.toList d1
 subst this;exact r.inj r'
end
abbrev Cx.qR(X:Cx)(E:Ro):Cx:={X with xe:=E}
abbrev Cx.Es(X:Cx):Cx:=X.qR fun _ _=>False
theorem Cx.Ok.qR{X:Cx}(ok:X.Ok)(E:Ro):(X.qR E).Ok:=
 ⟨ok.mod,ok.kind,ok.glob,ok.blt,ok.above,ok.inj,ok.has,ok.cab,ok.hd,ok.frames,ok.stk,ok.exf,ok.bs,ok.bsz,ok.noex,ok.exfs,ok.o5,ok.frf⟩
theorem Cx.Ok.k5{X:Cx}{E:Ro}(ok:(X.qR E).Ok):X.Ok:=
 ⟨ok.mod,ok.kind,ok.glob,ok.blt,ok.above,ok.inj,ok.has,ok.cab,ok.hd,ok.frames,ok.stk,ok.exf,ok.bs,ok.bsz,ok.noex,ok.exfs,ok.o5,ok.frf⟩
section
variable {X:Cx} {pins:Rn} {σ:St} {H:Hp} {s:Shared} {E:Ro}
theorem Inv.qR(I:Inv X pins σ H s)(E:Ro):Inv (X.qR E) pins σ H s:=⟨I.ok.qR E,I.os,I.bare,I.base,I.loc,I.cell,I.free,I.freeC,I.pin,I.hok,I.len⟩
theorem Inv.k5(I:Inv (X.qR E) pins σ H s):Inv X pins σ H s:=⟨I.ok.k5,I.os,I.bare,I.base,I.loc,I.cell,I.free,I.freeC,I.pin,I.hok,I.len⟩
theorem SP.k5{D:Ends}{f:Flow}{s':Shared}(h:SP (X.qR E) pins D f s'):SP X pins D f s':=by
 cases f with
 | next=>obtain⟨cX,H',I,q⟩:=h;exact⟨cX,H',I.k5,q⟩
 | brk=>obtain⟨cX,H',I,q⟩:=h;exact⟨cX,H',I.k5,q⟩
 | cont=>obtain⟨cX,H',I,q⟩:=h;exact⟨cX,H',I.k5,q⟩
 | ret u=>obtain⟨v,cX,H',I,r,q⟩:=h;exact⟨v,cX,H',I.k5,r,q⟩
theorem ud.Es{st:List Stmt}{t:TS}(h:ud X.Es st t):ud X st t:=fun pins s σ H D I hw=>
 wpAny_mono (h pins s σ H D (I.qR _) hw) (fun _ _ q=>q.k5) fun _ _ z=>False.elim z
end
section
variable {X:Cx} {st:Stmt} {rest:List Stmt} {t u:TS} {e:Expr} {te:TE} {pos:Pos}
def Jh:TS:=fun D σ H=>D.nx σ H
def Ie(t u:TS):TS:=fun D σ H=>t {D with nx:=u D} σ H
theorem xE:ud X [] Jh:=fun _ _ σ H _ I h=>wpAny_execs_nil ⟨σ,H,I,h⟩
theorem uw(h1:PS X st t)(h2:ud X rest u):ud X (st ::rest) (Ie t u):=by
 intro pins s σ H D I h;refine wpAny_execs_cons (ee (h1 pins s σ H {D with nx:=u D} I h) fun f s1 q=>?_)
 cases f with
 | next=>
   obtain⟨cX,H',I',q⟩:=q;exact h2 pins s1 cX H' D I' q
 | ret v=>exact q
 | brk=>exact q
 | cont=>exact q
theorem xq(h1:PS X st t):ud X [st] t:=by
 intro pins s σ H D I h;refine wpAny_execs_cons (ee (h1 pins s σ H D I h) fun f s1 q=>?_)
 cases f with
 | next=>exact wpAny_execs_nil q
 | ret v=>exact q
 | brk=>exact q
 | cont=>exact q
def LJ:TS:=fun D σ H=>D.bk σ H
def Ng:TS:=fun D σ H=>D.ct σ H
theorem Inv.quiet{pins:Rn}{s:Shared}(I:Inv X pins σ H s):interactive X.env=false:=by simp [interactive,I.ok.kind]
def Iq(te:TE):TS:=fun D σ H=>te σ H fun _ H1=>D.nx σ H1
theorem tG(he:PE X e te)(hs:swapsWith e none pos.line X.env=pure false:=by rfl):PS X (.Expr e pos) (Iq te):=by
 intro pins s σ H D I h;exact wpAny_Expr_any (ee (he pins s σ H _ I h) fun v s1 ⟨x,H1,I1,r1,q1⟩=>⟨σ,H1,I1,q1⟩) I.quiet hs
def Lu(te:TE):TS:=fun D σ H=>te σ H D.rt
theorem AV(he:PE X e te):PS X (.Return (some e) pos) (Lu te):=by
 intro pins s σ H D I h;exact wpAny_Return_some (ee (he pins s σ H _ I h) fun v s1 ⟨x,H1,I1,r1,q1⟩=>⟨x,σ,H1,I1,r1,q1⟩)
def MH:TS:=fun D _ H=>D.rt .cz H
def Kv(c:TT)(t u:TS):TS:=fun D σ H=>c σ H fun b H1=>if b=true then t D σ H1 else u D σ H1
theorem E8{tc:TT}(hc:PT X c tc)(ha:ud X a t)(hb:ud X b u):PS X (.If c a b pos) (Kv tc t u):=by
 intro pins s σ H D I h;refine wpAny_If (ee (hc pins s σ H _ I h) fun d s1 ⟨H1,I1,q1⟩=>?_)
 cases d with
 | true=>exact ha pins s1 σ H1 D I1 q1
 | false=>exact hb pins s1 σ H1 D I1 q1
def KZ:TS:=fun _ _ _=>False
end
abbrev TG:=V->St->Hp->(St->Hp->Prop)->Prop
abbrev Bp:=List V->St->Hp->(St->Hp->Prop)->Prop
def PG(X:Cx)(target:Expr)(t:TG):Prop:=
 ∀(pins:Rn) (s:Shared) (σ:St) (H:Hp) (v:V) (u:Value) (Q:St->Hp->Prop),Inv X pins σ H s->RelV v u->t v σ H Q->
  wpAny (model X.prog X.w) X.A (assign target X.env u) (fun _ s'=>∃cX H',Inv X pins cX H' s'/\Q cX H') X.xe s
def DY(X:Cx)(ts:List Expr)(t:Bp):Prop:=
 ∀(pins:Rn) (s:Shared) (σ:St) (H:Hp) (vs:List V) (us:List Value) (Q:St->Hp->Prop),Inv X pins σ H s->Vals vs us->t vs σ H Q->
  wpAny (model X.prog X.w) X.A (assignInOrder ((assignEach ts X.env).map (·.2)) us) (fun _ s'=>∃cX H',Inv X pins cX H' s'/\Q cX H') X.xe s
abbrev Ga:=V->V->V->Hp->(Hp->Prop)->Prop
def OO(X:Cx)(t:Ga):Prop:=
 ∀(pins:Rn) (s:Shared) (σ:St) (H:Hp) (o i v:V) (ov iv u:Value) (Q:Hp->Prop),Inv X pins σ H s->RelV o ov->RelV i iv->RelV v u->t o i v H Q->
  wpAny (model X.prog X.w) X.A (setItem ov iv u) (fun _ s'=>∃H',Inv X pins σ H' s'/\Q H') X.xe s
abbrev J_:=V->V->Hp->VK->Prop
def QQ(X:Cx)(op:Operator)(t:J_):Prop:=
 ∀(pins:Rn) (s:Shared) (σ:St) (H:Hp) (x y:V) (v u:Value) (Q:VK),Inv X pins σ H s->RelV x v->RelV y u->t x y H Q->
  wpAny (model X.prog X.w) X.A (inplaceOp op v u) (EP X pins σ Q) X.xe s
section
variable {X:Cx} {pos:Pos}
def qf(i:Nat):TG:=fun v σ H Q=>Q (σ.set i (some v)) H
theorem xu{i:Nat}(hN:X.N.Nodup)(hi:X.N[i]? =some x)(hx:Loc X.env.scope x)(hf:X.fn x=true\/X.env.scope.names.lookup x=some .local:=by first | exact .inl rfl | exact .inr rfl | assumption):PG X (.Name x pos) (qf i):=by
 intro pins s σ H v u Q I r h;exact wpAny_assign_Name (uT I hN hi hx r (fun s' I'=>⟨_,H,I',h⟩) hf)
def LH:Bp:=fun vs σ H Q=>vs=[]/\Q σ H
def IC(t:TG)(u:Bp):Bp:=fun vs σ H Q=>∃v r,vs=v ::r/\t v σ H fun cX H'=>u r cX H' Q
theorem yg:DY X [] LH:=by
 intro pins s σ H vs us Q I r h;obtain⟨e,h⟩:=h;subst e;cases r;exact assignInOrder_nil ⟨σ,H,I,h⟩
theorem uP{e:Expr}{es:List Expr}{t:TG}{u:Bp}(h1:PG X e t)(h2:DY X es u)
 (hs:(assignEach (e ::es) X.env).map (·.2)=assign e X.env ::(assignEach es X.env).map (·.2):=by rfl):DY X (e ::es) (IC t u):=by
 intro pins s σ H vs us Q I r h;obtain⟨v,vr,e1,h⟩:=h;subst e1;cases r with
 | cons r rr=>
   rw[hs];refine assignInOrder_cons (ee (h1 pins s σ H _ _ _ I r h) fun _ s1 ⟨J3,H1,I1,q1⟩=>?_)
   exact h2 pins s1 J3 H1 _ _ Q I1 rr q1
def LG(K:W.Frag)(n:Nat)(t:Bp):TG:=fun v σ H Q=>∃a xs,v= .ref a/\oX K H a xs/\xs.length=n/\t xs σ H Q
theorem BX{es:List Expr}{k:Nat}{t:Bp}{n:Nat}(hc:X.calm=true)(h:DY X es t)
 (hn:(assignEach es X.env).length=n:=by rfl) (Cv:(assignEach es X.env).findIdx? (·.1)=none:=by rfl):PG X (.Tuple es k pos) (LG X.K n t):=by
 intro pins s σ H v u Q I r hw;obtain⟨a,xs,e1,hq,hl,hw⟩:=hw;subst e1;cases r;obtain⟨its,rv,ht,hz⟩:=I.tuple hq;refine assign_Tuple_tuple (I.ok.hd hc) ht (by simp [hn,<-hl,rv.length]) Cv fun h' hx=>?_
 have I1:Inv X pins σ H {s with heap:=h'}:=I.kept (t':=s.toks) fun b o e=>hx b o (Nat.ne_of_lt (Heap.lt_size e)) e
 exact h pins _ σ H xs _ Q I1 (by simpa using rv) hw
def OQ(to ti:TE)(t:Ga):TG:=fun v σ H Q=>to σ H fun o H1=>ti σ H1 fun i H2=>t o i v H2 fun H3=>Q σ H3
def Bz(te:TE)(g:TG):TS:=fun D σ H=>te σ H fun x H1=>g x σ H1 D.nx
theorem wy{i:Nat}{te:TE}(hN:X.N.Nodup)(hi:X.N[i]? =some x)(hx:Loc X.env.scope x)(he:PE X e te)(hs:swapsWith e (some (.Name x pos')) pos.line X.env=pure false:=by rfl)(hf:X.fn x=true\/X.env.scope.names.lookup x=some .local:=by first | exact .inl rfl | exact .inr rfl | assumption) :
 PS X (.Assign [.Name x pos'] e pos) (Bz te (qf i)):=by
 intro pins s σ H D I h;refine wpAny_Assign_Name (ee (he pins s σ H _ I h) fun v s1 ⟨y,H1,I1,r1,q1⟩=>?_) hs
 exact uT I1 hN hi hx r1 (fun s2 I2=>⟨_,H1,I2,q1⟩) hf
def Ox(i j:Nat)(ta:TA):TS:=fun D σ H=>ta σ H fun vs H1=>∃v w,vs=[v,w]/\D.nx ((σ.set i (some v)).set j (some w)) H1
def O_(i:Nat)(te:TE)(ti:J_):TS:=fun D σ H=>∃x,σ[i]? =some (some x)/\te σ H fun y H1=>ti x y H1 fun z H2=>D.nx (σ.set i (some z)) H2
def MM(to ti te:TE)(L5:V->V->Hp->VK->Prop)(Pu:J_)(Mf:Ga):TS:=fun D σ H=>to σ H fun o H1=>ti σ H1 fun i H2=>L5 o i H2 fun x H3=>te σ H3 fun y H4=>Pu x y H4 fun z H5=>Mf o i z H5 fun H6=>D.nx σ H6
def N_(X:Cx)(t:V->V->Hp->VK->Prop):Prop:=
 ∀(pins:Rn) (s:Shared) (σ:St) (H:Hp) (o i:V) (ov iv:Value) (Q:VK),Inv X pins σ H s->RelV o ov->RelV i iv->t o i H Q->
  wpAny (model X.prog X.w) X.A (getItem ov iv) (EP X pins σ Q) X.xe s
def Qy(f:Int->Int->Int):J_:=fun x y H Q=>∃i j,x= .int i/\y= .int j/\Q (.int (f i j)) H
end
section
variable {X:Cx} {pos:Pos}
def KS(c:TT)(tb:TS):TS:=fun D σ H=>∃W:Nat->St->Hp->Prop,(∃m,W m σ H)/\∀m σ H,W m σ H->
 c σ H fun b H1=>if b=true then ∃N:St->Hp->Prop,(∀cX H',N cX H'->∃m',m' < m/\W m' cX H')/\tb {D with nx:=N,ct:=N,bk:=D.nx} σ H1 else D.nx σ H1
end
structure It where
 go:Nat->Hp->Prop
 yld:Nat->Hp->V->Hp->Prop
 stop:Nat->Hp->Prop
def o7(X:Cx)(pins:Rn)(H:Hp)(b:Addr):Prop:=
 H b=none/\b≠X.env.locals/\b ∉ X.fs/\(b∈X.ex\/X.s₀.heap.objs.size<=b)/\(∀x c,X.env.cells.lookup x=some c->c≠b)/\∀p∈X.pn++pins,p.1≠b
theorem Inv.tF{X:Cx}{pins:Rn}{H H':Hp}{s:Shared}{b:Addr}(I:Inv X pins σ H s)(hb:s.heap.objs.size<=b)(hn:H' b=none):o7 X pins H' b:=by
 refine⟨hn,Nat.ne_of_gt (Nat.lt_of_lt_of_le I.lt hb),I.Lh hb, .inr (Nat.le_trans I.sz hb),fun x c e z=>?_,fun p hp z=>?_⟩
 .obtain⟨v,q⟩:=I.cell x c e;exact absurd (Nat.lt_of_lt_of_le q.lt (by rw[z];exact hb)) (Nat.lt_irrefl _)
 .exact absurd (Nat.lt_of_lt_of_le (Heap.lt_size (I.pin p hp).1) (by rw[z];exact hb)) (Nat.lt_irrefl _)
structure Turn (P:Program) (w:World) (K:W.Frag) (tg:Expr) (J:It) (fp:List Addr) (it:Addr) (tn:Nat->Heap->Prop):Prop where
 mem:it∈fp
 obj:∀i h,tn i h->∀b∈fp,∃o,h.get? b=some o/\∀v,o.data≠ .cell v
 keep:∀i h h',tn i h->(∀b∈fp,∀o,h.get? b=some o->h'.get? b=some o)->tn i h'
 item:∀(X:Cx),X.prog=P->X.w=w->X.K=K->X.calm=true->∀(i:Nat) (pins:Rn) (s:Shared) (σ:St) (H:Hp) (E:Ro),Inv X pins σ H s->(∀b∈fp,o7 X pins H b)->tn i s.heap->J.go i H->
  wpAny (model P w) X.A (pyNext (.ref it)) (fun r s1=>∃u,r=some u/\
   wpAny (model P w) X.A (letOwnedTupleGo tg (.ref it) u) (fun _ s2=>∃x H',Inv X pins σ H' s2/\RelV x u/\J.yld i H x H'/\tn (i+1) s2.heap/\∀b∈fp,H' b=none) E s1) E s
 done:∀(X:Cx),X.prog=P->X.w=w->X.K=K->X.calm=true->∀(i:Nat) (pins:Rn) (s:Shared) (σ:St) (H:Hp) (E:Ro),Inv X pins σ H s->(∀b∈fp,o7 X pins H b)->tn i s.heap->J.stop i H->
  wpAny (model P w) X.A (pyNext (.ref it)) (fun r s1=>r=none/\Inv X pins σ H s1) E s
 self:∀(A:Around) (i:Nat) (s:Shared) (Q:Ro) (E:Ro),tn i s.heap->Q (.ref it) s->wpAny (model P w) A (pyIter (.ref it)) Q E s
abbrev TI:=St->Hp->(It->Hp->Prop)->Prop
def MO(X:Cx)(pins:Rn)(σ:St)(tg:Expr)(R:It->Hp->Prop)(Kl:Value)(s2:Shared):Prop:=
 ∃(it:Addr) (fp:List Addr) (tn:Nat->Heap->Prop) (J:It) (H':Hp),Kl= .ref it/\Inv X pins σ H' s2/\Turn X.prog X.w X.K tg J fp it tn/\tn 0 s2.heap/\(∀b∈fp,o7 X pins H' b)/\R J H'
def PI(X:Cx)(tg iter:Expr)(wi:TI):Prop:=
 ∀(pins:Rn) (s:Shared) (σ:St) (H:Hp) (R:It->Hp->Prop),Inv X pins σ H s->wi σ H R->
  wpAny (model X.prog X.w) X.A (eval iter X.env) (fun v s1=>wpAny (model X.prog X.w) X.A (pyIter v) (MO X pins σ tg R) X.xe s1) X.xe s
theorem yj{M:Model}{A:Around}{E:Ro}{s:Shared}{tg:Expr}{it:Addr}{u:Value}{o:Obj}{n:String}{vs:Array Value}{Q:Unit->Shared->Prop}(ho:s.heap.get? it=some o)(hc:o.cls= .type n)(hd:o.data= .fields vs)
 (hn:["enumerate","zip","dict_itemiterator","dict_reverseitemiterator","odict_iterator","itertools.zip_longest","itertools.pairwise"].contains n=false) (hQ:Q () s):wpAny M A (letOwnedTupleGo tg (.ref it) u) Q E s:=by
 unfold letOwnedTupleGo;cases tg <;> first
  | exact wpAny_pure hQ
  | (cases u <;> first
      | exact wpAny_pure hQ
      | (refine wpAny_bind (wpAny_load ho ?_)
         rw[hc,hd];show wpAny M A (if(["enumerate","zip","dict_itemiterator","dict_reverseitemiterator","odict_iterator","itertools.zip_longest","itertools.pairwise"].contains n && vs[0]? ==some (rawInt _))=true then _ else _) Q E s
         rw[if_neg (by intro h;rw [hn,Bool.false_and] at h;cases h)]
         exact wpAny_pure hQ))
def M4(K:W.Frag)(a:Addr):It:=
 ⟨fun i H=>∃xs x,mG K H a xs/\xs[i]? =some x,fun i H x H'=>H'=H/\∀xs,mG K H a xs->xs[i]? =some x,fun i H=>∃xs,mG K H a xs/\xs.length<=i⟩
def MN(K:W.Frag)(a:Addr):It:=
 ⟨fun i H=>∃xs x,oX K H a xs/\xs[i]? =some x,fun i H x H'=>H'=H/\∀xs,oX K H a xs->xs[i]? =some x,fun i H=>∃xs,oX K H a xs/\xs.length<=i⟩
def Jr(lo:Int)(n:Nat):It:=⟨fun i _=>i < n,fun i H x H'=>H'=H/\x= .int (lo+i),fun i _=>n<=i⟩
theorem yB{K:W.Frag}(a it:Addr):Turn P w K tg (M4 K a) [it] it (fun i h=>h.IsListIter it a i) where
 mem:=by simp
 obj:=fun i h st b hb=>by
  have e:b=it:=by simpa using hb
  subst e;obtain⟨o,e,c,d⟩:=st;exact⟨o,e,fun v z=>by rw[d] at z;cases z⟩
 keep:=fun i h h' st k=>st.at fun o e=>k it (by simp) o e
 item:=by
  intro X hP hw hK hc i pins s σ H E I hf st hg;subst hP hw hK;obtain⟨xs,x,hq,hx⟩:=hg;obtain⟨its,rv,p,hz⟩:=I.list hq;obtain⟨u,hu,ru⟩:=rv.get hx;obtain⟨f0,f1,f2,f3,f4,f5⟩:=hf it (by simp)
  refine wpAny_pyNext_list_item st p.isList (x:=u) (by simpa using hu) fun h' vF sb=>?_
  have I1:Inv X pins σ H {s with heap:=h'}:=I.turned (t':=s.toks) (fun b o hb e=>(sb.2 b hb).trans e) f0 f1 f3 f4 f5
  obtain⟨o,e,c,d⟩:=id vF;exact⟨u,rfl,yj (s:={s with heap:=h'}) e c d (by decide) ⟨x,H,I1,ru,⟨rfl,fun ys hy=>by rw[I.mK hy hq];exact hx⟩,vF,fun b hb=>(hf b hb).1⟩⟩
 done:=by
  intro X hP hw hK hc i pins s σ H E I hf st hg;subst hP hw hK;obtain⟨xs,hq,hx⟩:=hg;obtain⟨its,rv,p,hz⟩:=I.list hq;obtain⟨f0,f1,f2,f3,f4,f5⟩:=hf it (by simp)
  have hl:=rv.length;exact wpAny_pyNext_list_end (I.ok.hd hc) st p.isList (by simp;omega) fun h' eb=>⟨rfl,I.turned (t':=s.toks) (fun b o hb e=>eb b o hb e) f0 f1 f3 f4 f5⟩
 self:=fun _ _ _ _ _ st h=>wpAny_pyIter_listiter st h
theorem wc{K:W.Frag}(a it:Addr):Turn P w K tg (MN K a) [it] it (fun i h=>h.IsTupleIter it a i) where
 mem:=by simp
 obj:=fun i h st b hb=>by
  have e:b=it:=by simpa using hb
  subst e;obtain⟨o,e,c,d⟩:=st;exact⟨o,e,fun v z=>by rw[d] at z;cases z⟩
 keep:=fun i h h' st k=>st.at fun o e=>k it (by simp) o e
 item:=by
  intro X hP hw hK hc i pins s σ H E I hf st hg;subst hP hw hK;obtain⟨xs,x,hq,hx⟩:=hg;obtain⟨its,rv,p,hz⟩:=I.tuple hq;obtain⟨u,hu,ru⟩:=rv.get hx;obtain⟨f0,f1,f2,f3,f4,f5⟩:=hf it (by simp)
  refine wpAny_pyNext_tuple_item st (show s.heap.IsTuple a its.toArray from p) (x:=u) (by simpa using hu) fun h' vF sb=>?_
  have I1:Inv X pins σ H {s with heap:=h'}:=I.turned (t':=s.toks) (fun b o hb e=>(sb.2 b hb).trans e) f0 f1 f3 f4 f5
  obtain⟨o,e,c,d⟩:=id vF;exact⟨u,rfl,yj (s:={s with heap:=h'}) e c d (by decide) ⟨x,H,I1,ru,⟨rfl,fun ys hy=>by rw[I.nS hy hq];exact hx⟩,vF,fun b hb=>(hf b hb).1⟩⟩
 done:=by
  intro X hP hw hK hc i pins s σ H E I hf st hg;subst hP hw hK;obtain⟨xs,hq,hx⟩:=hg;obtain⟨its,rv,p,hz⟩:=I.tuple hq;obtain⟨f0,f1,f2,f3,f4,f5⟩:=hf it (by simp)
  have hl:=rv.length;exact wpAny_pyNext_tuple_end (I.ok.hd hc) st (show s.heap.IsTuple a its.toArray from p) (by simp;omega) fun h' eb=>⟨rfl,I.turned (t':=s.toks) (fun b o hb e=>eb b o hb e) f0 f1 f3 f4 f5⟩
 self:=fun _ _ _ _ _ st h=>wpAny_pyIter_tupleiter st h
theorem v_{K:W.Frag}(it:Addr)(lo:Int)(n:Nat):Turn P w K tg (Jr lo n) [it] it (fun i h=>IsRangeIter h it (lo+(i:Nat)*1) ((n:Int) - (i:Nat)) 1) where
 mem:=by simp
 obj:=fun i h st b hb=>by
  have e:b=it:=by simpa using hb
  subst e;exact⟨_,st,fun v z=>by
   have z':Data.fields _=Data.cell v:=z;cases z'⟩
 keep:=fun i h h' st k=>k it (by simp) _ st
 item:=by
  intro X hP hw hK hc i pins s σ H E I hf st hg;subst hP hw hK;obtain⟨f0,f1,f2,f3,f4,f5⟩:=hf it (by simp)
  have W:=Walks.range (prog:=X.prog) (w:=X.w) (I.ok.hd hc) it lo 1 n;refine W.item i s _ _ hg st fun v h' tk hv vF kk=>?_
  obtain⟨t,rfl⟩:=hv;have I1:Inv X pins σ H {s with heap:=h',toks:=tk}:=I.turned (fun b o hb e=>kk b o (by simpa using hb) e) f0 f1 f3 f4 f5
  refine⟨_,rfl,yj (s:={s with heap:=h',toks:=tk}) (n:="range_iterator") vF rfl rfl (by decide) ⟨.int (lo+i),H,I1,⟨t,?_⟩,⟨rfl,rfl⟩,vF,fun b hb=>(hf b hb).1⟩⟩
  rw[Int.mul_one]
 done:=by
  intro X hP hw hK hc i pins s σ H E I hf st hg;subst hP hw hK;obtain⟨f0,f1,f2,f3,f4,f5⟩:=hf it (by simp)
  exact wpAny_pyNext_range_end (I.ok.hd hc) st (by have:n<=i:=hg;omega) fun h' eb=>⟨rfl,I.turned (t':=s.toks) (fun b o hb e=>eb b o hb e) f0 f1 f3 f4 f5⟩
 self:=fun _ _ _ _ _ st h=>wpAny_pyIter_rangeiter st h
section
variable {X:Cx} {tg:Expr}
def MF(K:W.Frag)(tl:TE):TI:=fun σ H R=>tl σ H fun x H1=>∃a,x= .ref a/\(∃xs,mG K H1 a xs)/\R (M4 K a) H1
def Ln(K:W.Frag)(tl:TE):TI:=fun σ H R=>tl σ H fun x H1=>∃a,x= .ref a/\(∃xs,oX K H1 a xs)/\R (MN K a) H1
theorem vk{pins:Rn}{σ:St}{H:Hp}{s:Shared}{R:It->Hp->Prop}{E:Ro}{lo hi:Int}{t u v:Tok}{tk:Nat}(I:Inv X pins σ H s)(h1: -(2 ^ 62)<=lo)(h2:lo < 2 ^ 62)(h3: -(2 ^ 62)<=hi)(h4:hi < 2 ^ 62)
 (q:R (Jr lo (hi - lo).toNat) H):wpAny (model X.prog X.w) X.A (pyIter (.ref s.heap.objs.size)) (MO X pins σ tg R) E {s with heap:=s.heap.push {cls:= .type "range",data:= .fields #[.int lo t, .int hi u, .int 1 v]},toks:=tk}:=by
 refine wpAny_pyIter_range (IsRange.new ..) (small_one h1 h2 h3 h4) ?_;have I1:Inv X pins σ H {s with heap:=s.heap.push {cls:= .type "range",data:= .fields #[.int lo t, .int hi u, .int 1 v]},toks:=tk}:=I.kept fun b o e=>Heap.get?_push_of_some _ e
 refine⟨(s.heap.push {cls:= .type "range",data:= .fields #[.int lo t, .int hi u, .int 1 v]}).objs.size,[(s.heap.push {cls:= .type "range",data:= .fields #[.int lo t, .int hi u, .int 1 v]}).objs.size],_,_,H,rfl,
  I1.kept (t':=tk) fun b o e=>Heap.get?_push_of_some _ e,v_ _ lo (hi - lo).toNat,?_,fun b hb=>?_,q⟩
 .have e1:lo+((0:Nat):Int)*1=lo:=by simp
  have e2:(((hi - lo).toNat:Nat):Int) - ((0:Nat):Int)=Builtin.Range.rangeSize lo hi 1:=by rw[rangeSize_one];split <;> omega
  show IsRangeIter _ _ (lo+((0:Nat):Int)*1) ((((hi - lo).toNat:Nat):Int) - ((0:Nat):Int)) 1;rw[e1,e2];exact Heap.get?_push_size _ rfl
 .have e:b=(s.heap.push {cls:= .type "range",data:= .fields #[.int lo t, .int hi u, .int 1 v]}).objs.size:=by simpa using hb
  subst e;exact I1.tF (Nat.le_refl _) (I1.hok.fresh (Nat.le_refl _))
def uN(ta:TA):TI:=fun σ H R=>ta σ H fun vs H1=>∃j:Int,vs=[.int j]/\ -(2 ^ 62)<=j/\j < 2 ^ 62/\R (Jr 0 j.toNat) H1
def IG(ta:TA):TI:=fun σ H R=>ta σ H fun vs H1=>∃i j:Int,vs=[.int i, .int j]/\(-(2 ^ 62)<=i/\i < 2 ^ 62/\ -(2 ^ 62)<=j/\j < 2 ^ 62)/\R (Jr i (j - i).toNat) H1
theorem rG{ta:TA}{p pos:Pos}(hg:Gl X "range")(hm:X.mg "range"=none)(ha:PA X [a] ta)(hs:starEach [a] X.env=[(false,eval a X.env)]:=by rfl):PI X tg (.Call (.Name "range" p) [a] [] pos) (uN ta):=by
 intro pins s σ H R I h;refine Call_ (kQ I hg hm boot_range (PyProof.Rows.callWith_type1 (ee (ha pos pins s σ H _ I h) fun us s1 ⟨vs,H1,I1,r1,q1⟩=>?_) hs rfl))
 obtain⟨j,e,q1,q2,q⟩:=q1;subst e;cases r1 with
 | cons r rr=>
   cases rr;obtain⟨t,rfl⟩:=r;exact call_range_1 (vk I1 (by omega) (by omega) q1 q2 (by simpa using q))
theorem yR{ta:TA}{p pos:Pos}(hg:Gl X "range")(hm:X.mg "range"=none)(ha:PA X [a,b] ta)(hs:starEach [a,b] X.env=[(false,eval a X.env),(false,eval b X.env)]:=by rfl)(vH:starEach [b] X.env=[(false,eval b X.env)]:=by rfl) :
 PI X tg (.Call (.Name "range" p) [a,b] [] pos) (IG ta):=by
 intro pins s σ H R I h;refine Call_ (kQ I hg hm boot_range (PyProof.Rows.callWith_type1 (ee (ha pos pins s σ H _ I h) fun us s1 ⟨vs,H1,I1,r1,q1⟩=>?_) (by rw[hs,vH]) (by rw[vH];rfl)))
 obtain⟨i,j,e,⟨q1,q2,q3,q4⟩,q⟩:=q1;subst e;cases r1 with
 | cons r rr=>
   cases rr with
   | cons r' rr=>
     cases rr;obtain⟨t,rfl⟩:=r;obtain⟨t',rfl⟩:=r';exact call_range_2 (vk I1 q1 q2 q3 q4 q)
def K0(wi:TI)(g:TG)(tb:TS):TS:=fun D σ H=>wi σ H fun J H1=>∃W:Nat->Nat->St->Hp->Prop,(∃m,W 0 m σ H1)/\∀i m σ H,W i m σ H->
 (J.stop i H/\D.nx σ H)\/(J.go i H/\∃N:St->Hp->Prop,(∀cX H',N cX H'->∃m',m' < m/\W (i+1) m' cX H')/\∀x H',J.yld i H x H'->g x σ H' fun ub H2=>tb {D with nx:=N,ct:=N,bk:=D.nx} ub H2)
def mi(fp:List Addr)(h:Heap):Rn:=fp.filterMap fun b=>(h.get? b).map fun o=>(b,o)
theorem j0{fp:List Addr}{h:Heap}{b:Addr}{o:Obj}(hb:b∈fp)(e:h.get? b=some o):(b,o)∈mi fp h:=List.mem_filterMap.mpr ⟨b,hb,by rw[e];rfl⟩
theorem yq{fp:List Addr}{h:Heap}{p:Addr × Obj}(hp:p∈mi fp h):p.1∈fp/\h.get? p.1=some p.2:=by
 obtain⟨b,hb,e⟩:=List.mem_filterMap.mp hp;cases q:h.get? b with
 | none=>rw [q] at e;cases e
 | some o=>
   rw[q] at e;have e':(b,o)=p:=Option.some.inj e;subst e';exact⟨hb,q⟩
theorem Inv.pinned{pins:Rn}{s:Shared}{fp:List Addr}(I:Inv X pins σ H s)(hf:∀b∈fp,o7 X pins H b)(ho:∀b∈fp,∃o,s.heap.get? b=some o/\∀v,o.data≠ .cell v):Inv X (pins++mi fp s.heap) σ H s:=
 I.ye fun p hp=>(List.mem_append.mp hp).elim (fun z=>I.pin p (List.mem_append_right _ z)) fun z=>by
  obtain⟨hb,e⟩:=yq z;obtain⟨f0,f1,f2,_⟩:=hf p.1 hb;obtain⟨o,e',d⟩:=ho p.1 hb;rw[e] at e';cases e';exact⟨e,f0,f1,f2,d⟩
theorem Inv.mJ{pins pl:Rn}{s:Shared}(I:Inv X (pins++pl) σ H s):Inv X pins σ H s:=I.ye fun p hp=>I.pin p (List.mem_append_right _ (List.mem_append_left _ hp))
theorem BG{iter:Expr}{body:List Stmt}{wi:TI}{g:TG}{tb:TS}{pos:Pos}(hp:PassesOwn (model X.prog X.w) X.A X.env X.xe)(hc:X.calm=true)(hi:PI X tg iter wi)(hg:PG X tg g)(hb:ud X body tb)
 (hs:∀x,foldedSetIterable iter X.env x=pure x:=by intro _;rfl):PS X (.For tg iter body [] pos) (K0 wi g tb):=by
 intro pins s σ H D I h;refine wpAny_For (ee (hi pins s σ H _ I h) fun v s1 h1=>ee h1 fun Kl s2 h2=>?_) hs
 obtain⟨it,fp,tn,J,H2,e,I2,T,CN,f2,W,⟨m0,w0⟩,turn⟩:=h2;subst e;have stat:∀{H':Hp},(∀b∈fp,H' b=none)->∀b∈fp,o7 X pins H' b:=fun hn b hb=>⟨hn b hb,(f2 b hb).2⟩
 refine codeAny_forLoop_any (fun n s'=>∃i cX H',Inv X pins cX H' s'/\tn i s'.heap/\(∀b∈fp,H' b=none)/\W i n cX H') ?_ m0 ⟨0,σ,H2,I2,CN,fun b hb=>(f2 b hb).1,w0⟩
 rintro n s3 ⟨i,Ew,H3,I3,EF,J4,w3⟩;rcases turn i n Ew H3 w3 with⟨stop,qn⟩ | ⟨go,N,hN,step⟩
 .refine wpAny_passesOwn hp (ee (T.done X rfl rfl rfl hc i pins s3 Ew H3 X.xe I3 (stat J4) EF stop) fun r s4 ⟨hr,I4⟩=>?_)
  subst hr;exact wpAny_execs_nil ⟨Ew,H3,I4,qn⟩
 .refine wpAny_passesOwn hp (ee (T.item X rfl rfl rfl hc i pins s3 Ew H3 X.xe I3 (stat J4) EF go) fun r s4 ⟨u,hr,h4⟩=>?_)
  subst hr;refine wpAny_passesOwn hp (ee h4 fun _ s5 ⟨x,H5,I5,r5,y5,Ho,L8⟩=>?_)
  have I5':=I5.pinned (stat L8) (T.obj _ _ Ho);refine wpAny_passesOwn hp (ee (hg _ s5 Ew H5 x u _ I5' r5 (step x H5 y5)) fun _ s6 ⟨JZ,H6,I6,q6⟩=>?_)
  refine wpAny_passesOwn hp (ee (hb _ s6 JZ H6 _ I6 q6) fun f s7 q7=>?_)
  have again:∀{vD:St} {H7:Hp},Inv X (pins++mi fp s5.heap) vD H7 s7->N vD H7->∃m,m < n/\∃i cX H',Inv X pins cX H' s7/\tn i s7.heap/\(∀b∈fp,H' b=none)/\W i m cX H':=fun {vD H7} I7 n7=>by
   obtain⟨m',hm,w7⟩:=hN vD H7 n7;refine⟨m',hm,i+1,vD,H7,I7.mJ,T.keep _ _ _ Ho fun b hb o e=>(I7.pin (b,o) (List.mem_append_right _ (List.mem_append_right _ (j0 hb e)))).1,fun b hb=>?_,w7⟩
   obtain⟨o,e,d⟩:=T.obj _ _ Ho b hb;exact(I7.pin (b,o) (List.mem_append_right _ (List.mem_append_right _ (j0 hb e)))).2.1
  cases f with
  | next=>obtain⟨vD,H7,I7,n7⟩:=q7;exact again I7 n7
  | cont=>obtain⟨vD,H7,I7,n7⟩:=q7;exact again I7 n7
  | brk=>obtain⟨vD,H7,I7,q7⟩:=q7;exact⟨vD,H7,I7.mJ,q7⟩
  | ret v=>obtain⟨x7,vD,H7,I7,r7,q7⟩:=q7;exact⟨x7,vD,H7,I7.mJ,r7,q7⟩
end
abbrev R2:=V->V->Hp->VK->Prop
def lA(X:Cx)(f:Value->Value->Sem Value)(r:R2):Prop:=
 ∀(pins:Rn) (s:Shared) (σ:St) (H:Hp) (x y:V) (v u:Value) (Q:VK),Inv X pins σ H s->RelV x v->RelV y u->r x y H Q->
  wpAny (model X.prog X.w) X.A (f v u) (EP X pins σ Q) X.xe s
def Q7(X:Cx)(f:Value->Sem Value)(r:V->Hp->VK->Prop):Prop:=
 ∀(pins:Rn) (s:Shared) (σ:St) (H:Hp) (x:V) (v:Value) (Q:VK),Inv X pins σ H s->RelV x v->r x H Q->
  wpAny (model X.prog X.w) X.A (f v) (EP X pins σ Q) X.xe s
def lW(X:Cx)(f:Value)(r:List V->Hp->VK->Prop):Prop:=
 ∀(pins:Rn) (s:Shared) (σ:St) (H:Hp) (xs:List V) (us:List Value) (Q:VK),Inv X pins σ H s->Vals xs us->r xs H Q->
  wpAny (model X.prog X.w) X.A (call f us) (EP X pins σ Q) X.xe s
def KN(X:Cx)(r:V->Hp->(Bool->Hp->Prop)->Prop):Prop:=
 ∀(pins:Rn) (s:Shared) (σ:St) (H:Hp) (x:V) (v:Value) (Q:Bool->Hp->Prop),Inv X pins σ H s->RelV x v->r x H Q->
  wpAny (model X.prog X.w) X.A (truthy v) (TP X pins σ Q) X.xe s
def HK(r:R2)(ta tb:TE):TE:=fun σ H Q=>ta σ H fun x H1=>tb σ H1 fun y H2=>r x y H2 Q
def QH(r:V->Hp->VK->Prop)(ta:TE):TE:=fun σ H Q=>ta σ H fun x H1=>r x H1 Q
def rI(C:Int->Int->Prop)(g:Int->Int->V):R2:=fun x y H Q=>∃i j,x= .int i/\y= .int j/\C i j/\Q (g i j) H
def zJ(g:Int->Int->V):R2:=fun x y H Q=>∃i j,x= .int i/\y= .int j/\Q (g i j) H
def rU(g:Int->V):V->Hp->VK->Prop:=fun x H Q=>∃i,x= .int i/\Q (g i) H
section
variable {X:Cx} {a b c:Expr} {ta tb tc:TE} {pos:Pos}
theorem Hc(ha:PE X a ta)(hb:PE X b tb){pins:Rn}{s:Shared}{σ:St}{H:Hp}{R:V->V->Hp->Prop}(I:Inv X pins σ H s)
 (h:ta σ H fun x H1=>tb σ H1 fun y H2=>R x y H2) {Q:Ro} {f:Value->Value->Sem Value}
 (hf:∀v u s2 x y H2,Inv X pins σ H2 s2->RelV x v->RelV y u->R x y H2->wpAny (model X.prog X.w) X.A (f v u) Q X.xe s2) :
 wpAny (model X.prog X.w) X.A (eval a X.env) (fun v s₁=>wpAny (model X.prog X.w) X.A (eval b X.env) (fun u Hr=>wpAny (model X.prog X.w) X.A (f v u) Q X.xe Hr) X.xe s₁) X.xe s:=by
 refine ee (ha pins s σ H _ I h) fun v s1 ⟨x,H1,I1,r1,q1⟩=>?_
 refine ee (hb pins s1 σ H1 _ I1 q1) fun u s2 ⟨y,H2,I2,r2,q2⟩=>?_
 exact hf v u s2 x y H2 I2 r1 r2 q2
theorem Jw{op:Operator}{r:R2}(ho:lA X (binaryOp op) r)(ha:PE X a ta)(hb:PE X b tb):PE X (.BinOp a op b pos) (HK r ta tb):=by
 intro pins s σ H Q I h;exact wpAny_BinOp (Hc ha hb I h fun v u s2 x y H2 I2 rx ry q=>ho pins s2 σ H2 x y v u Q I2 rx ry q)
theorem HM{f:Value->Value->Sem Value}{C:Int->Int->Prop}{g:Int->Int->Int}
 (rule:∀(i j:Int) (t u:Tok) (s:Shared) (Q:Ro) (E:Ro),C i j->Q (.int (g i j) s.toks) {s with toks:=s.toks+1}->wpAny (model X.prog X.w) X.A (f (.int i t) (.int j u)) Q E s) :
 lA X f (rI C fun i j=> .int (g i j)):=by
 intro pins s σ H x y v u Q I rx ry h;obtain⟨i,j,rfl,rfl,hc,q⟩:=h;obtain⟨t,rfl⟩:=rx;obtain⟨t',rfl⟩:=ry;exact rule i j t t' s _ _ hc ⟨.int (g i j),H,I.tok _,⟨_,rfl⟩,q⟩
theorem Ak{f:Value->Value->Sem Value}{g:Int->Int->Int}
 (rule:∀(i j:Int) (t u:Tok) (s:Shared) (Q:Ro) (E:Ro),Q (.int (g i j) s.toks) {s with toks:=s.toks+1}->wpAny (model X.prog X.w) X.A (f (.int i t) (.int j u)) Q E s) :
 lA X f (zJ fun i j=> .int (g i j)):=by
 intro pins s σ H x y v u Q I rx ry h;obtain⟨i,j,rfl,rfl,q⟩:=h;obtain⟨t,rfl⟩:=rx;obtain⟨t',rfl⟩:=ry;exact rule i j t t' s _ _ ⟨.int (g i j),H,I.tok _,⟨_,rfl⟩,q⟩
theorem Ge{f:Value->Value->Sem Value}{g:Int->Int->Bool}
 (rule:∀(i j:Int) (t u:Tok) (s:Shared) (Q:Ro) (E:Ro),Q (.bool (g i j)) s->wpAny (model X.prog X.w) X.A (f (.int i t) (.int j u)) Q E s) :
 lA X f (zJ fun i j=> .bl (g i j)):=by
 intro pins s σ H x y v u Q I rx ry h;obtain⟨i,j,rfl,rfl,q⟩:=h;obtain⟨t,rfl⟩:=rx;obtain⟨t',rfl⟩:=ry;exact rule i j t t' s _ _ ⟨.bl (g i j),H,I,rfl,q⟩
def Le(i j:Int):Prop:=0 < j/\j < 1073741824
def MZ(i j:Int):Prop:=j≠0/\j.natAbs < 1073741824
def H0(i j:Int):Prop:=0<=j/\j<=1000000/\i.natAbs < 2 ^ 64
def Ha(i j:Int):Prop:=(-(2 ^ 64) < i/\i < 2 ^ 64)\/(-(2 ^ 64) < j/\j < 2 ^ 64)
theorem Ha.ok{i j:Int}(h:Ha i j):IntMulOk i j:=by
 rcases h with⟨h1,h2⟩ | ⟨h1,h2⟩
 .exact .of_left (intBits_le_64 h1 h2)
 .exact .of_right (intBits_le_64 h1 h2)
theorem wu(k:Nat):(0:Int)<=2 ^ k:=by
 rw[two_pow_cast];exact Int.natCast_nonneg _
theorem FL:lA X (binaryOp .Add) (zJ fun i j=> .int (i+j)):=Ak fun _ _ _ _ _ _ _ q=>add_int q
theorem F5:lA X (binaryOp .Sub) (zJ fun i j=> .int (i - j)):=Ak fun _ _ _ _ _ _ _ q=>sub_int q
theorem FV:lA X (binaryOp .Mult) (rI Ha fun i j=> .int (i*j)):=HM fun _ _ _ _ _ _ _ hc q=>mul_int q hc.ok
theorem Du:lA X (binaryOp .FloorDiv) (rI Le fun i j=> .int (i / j)):=HM fun i j _ _ _ _ _ hc q=>by
 have h1:(0:Int) < j:=hc.1;have h2:j < 1073741824:=hc.2;exact floordiv_int (by omega) (by rw[Int.fdiv_eq_ediv_of_nonneg i (by omega)];exact q) (.inl (PyProof.noPylong_small (by omega)))
theorem Gr:lA X (binaryOp .Mod) (rI (fun _ j=>0 < j) fun i j=> .int (i % j)):=HM fun i j _ _ _ _ _ hc q=>by
 have h1:(0:Int) < j:=hc;exact mod_int' (by omega) (by rw[Int.fmod_eq_emod_of_nonneg i (by omega)];exact q)
theorem F8:lA X (binaryOp .Pow) (rI H0 fun i j=> .int (i ^ j.toNat)):=HM fun _ _ _ _ _ _ _ hc q=>pow_int_small hc.1 hc.2.1 hc.2.2 q
theorem G2:lA X (binaryOp .LShift) (rI H0 fun i j=> .int (i*2 ^ j.toNat)):=HM fun _ _ _ _ _ _ _ hc q=>lshift_int_small hc.1 hc.2.1 hc.2.2 q
theorem GW:lA X (binaryOp .RShift) (rI (fun _ j=>0<=j) fun i j=> .int (i / 2 ^ j.toNat)):=HM fun i j _ _ _ _ _ hc q=>
 rshift_int hc (by rw[Int.fdiv_eq_ediv_of_nonneg i (wu _)];exact q)
theorem FJ:lA X (binaryOp .BitAnd) (zJ fun i j=> .int (Builtin.bitAnd i j)):=Ak fun _ _ _ _ _ _ _ q=>and_int q
theorem Im:lA X (binaryOp .BitOr) (zJ fun i j=> .int (Builtin.bitOr i j)):=Ak fun _ _ _ _ _ _ _ q=>or_int q
theorem FP:lA X (binaryOp .BitXor) (zJ fun i j=> .int (Builtin.bitXor i j)):=Ak fun _ _ _ _ _ _ _ q=>xor_int q
end
def IK:V->V->Bool
 | .cz, .cz=>true | .cz, .int _=>true | .int _, .cz=>true | .cz, .bl _=>true | .bl _, .cz=>true | .cz, .str _=>true | .str _, .cz=>true
 | .int _, .int _=>true | .bl _, .bl _=>true | .str _, .str _=>true | .byt _, .byt _=>true
 | .int _, .str _=>true | .str _, .int _=>true | .bl _, .str _=>true | .str _, .bl _=>true
 | _,_=>false
def Oy:R2:=fun x y H Q=>IK x y=true/\Q (.bl (decide (x=y))) H
def O2:R2:=fun x y H Q=>IK x y=true/\Q (.bl (!decide (x=y))) H
theorem xN{i j:Int}:decide (V.int i=V.int j)=(i==j):=by
 rw[Bool.eq_iff_iff];simp
theorem Be{i j:Bool}:decide (V.bl i=V.bl j)=(i==j):=by
 rw[Bool.eq_iff_iff];simp
theorem xJ:decide (V.str i=V.str j)=(i==j):=by
 rw[Bool.eq_iff_iff];simp
theorem x5{i j:Array UInt8}:decide (V.byt i=V.byt j)=(i.toList==j.toList):=by
 rw[Bool.eq_iff_iff];cases i;cases j;simp
section
variable {X:Cx} {a b c:Expr} {ta tb tc:TE} {pos:Pos}
theorem bK{pins:Rn}{s:Shared}{Q:VK}{k k':Bool}(I:Inv X pins σ H s)(q:Q (.bl k) H)(e:k=k'):EP X pins σ Q (.bool k') s:=by
 subst e;exact⟨.bl k,H,I,rfl,q⟩
theorem A0:lA X (compareOp .Eq) Oy:=by
 intro pins s σ H x y v u Q I rx ry h;obtain⟨hs,q⟩:=h;cases x with
 | cz=>
   cases rx;cases y with
   | cz=>cases ry;exact PySem.EqNone.eq_none_none (bK I q (by simp))
   | bl j=>cases ry;exact PySem.EqNone.eq_none_bool (bK I q (by simp))
   | int j=>obtain⟨t',rfl⟩:=ry;exact PySem.EqNone.eq_none_int (bK I q (by simp))
   | str j=>obtain⟨t',rfl⟩:=ry;exact PySem.EqNone.eq_none_str (bK I q (by simp))
   | _=>exact absurd (show false=true from hs) Bool.false_ne_true
 | bl i=>
   cases rx;cases y with
   | cz=>cases ry;exact PySem.EqNone.eq_bool_none (bK I q (by simp))
   | bl j=>cases ry;exact eq_bool (bK I q Be)
   | str j=>obtain⟨t',rfl⟩:=ry;exact PySem.EqMixed.eq_bool_str (bK I q (by simp))
   | _=>exact absurd (show false=true from hs) Bool.false_ne_true
 | int i=>
   obtain⟨t,rfl⟩:=rx;cases y with
   | cz=>cases ry;exact PySem.EqNone.eq_int_none (bK I q (by simp))
   | int j=>obtain⟨t',rfl⟩:=ry;exact eq_int (bK I q xN)
   | str j=>obtain⟨t',rfl⟩:=ry;exact PySem.EqMixed.eq_int_str (bK I q (by simp))
   | _=>exact absurd (show false=true from hs) Bool.false_ne_true
 | str i=>
   obtain⟨t,rfl⟩:=rx;cases y with
   | cz=>cases ry;exact PySem.EqNone.eq_str_none (bK I q (by simp))
   | bl j=>cases ry;exact PySem.EqMixed.eq_str_bool (bK I q (by simp))
   | int j=>obtain⟨t',rfl⟩:=ry;exact PySem.EqMixed.eq_str_int (bK I q (by simp))
   | str j=>obtain⟨t',rfl⟩:=ry;exact eq_str (bK I q xJ)
   | _=>exact absurd (show false=true from hs) Bool.false_ne_true
 | byt i=>
   obtain⟨t,rfl⟩:=rx;cases y with
   | byt j=>obtain⟨t',rfl⟩:=ry;exact PySem.W.eq_bytes (bK I q x5)
   | _=>exact absurd (show false=true from hs) Bool.false_ne_true
 | _=>cases y <;> exact absurd (show false=true from hs) Bool.false_ne_true
theorem AA:lA X (compareOp .NotEq) O2:=by
 intro pins s σ H x y v u Q I rx ry h;obtain⟨hs,q⟩:=h;cases x with
 | cz=>
   cases rx;cases y with
   | cz=>cases ry;exact PySem.EqNone.ne_none_none (bK I q (by simp))
   | bl j=>cases ry;exact PySem.EqNone.ne_none_bool (bK I q (by simp))
   | int j=>obtain⟨t',rfl⟩:=ry;exact PySem.EqNone.ne_none_int (bK I q (by simp))
   | str j=>obtain⟨t',rfl⟩:=ry;exact PySem.EqNone.ne_none_str (bK I q (by simp))
   | _=>exact absurd (show false=true from hs) Bool.false_ne_true
 | bl i=>
   cases rx;cases y with
   | cz=>cases ry;exact PySem.EqNone.ne_bool_none (bK I q (by simp))
   | bl j=>cases ry;exact ne_bool (bK I q (congrArg not Be))
   | str j=>obtain⟨t',rfl⟩:=ry;exact PySem.EqMixed.ne_bool_str (bK I q (by simp))
   | _=>exact absurd (show false=true from hs) Bool.false_ne_true
 | int i=>
   obtain⟨t,rfl⟩:=rx;cases y with
   | cz=>cases ry;exact PySem.EqNone.ne_int_none (bK I q (by simp))
   | int j=>obtain⟨t',rfl⟩:=ry;exact ne_int (bK I q (congrArg not xN))
   | str j=>obtain⟨t',rfl⟩:=ry;exact PySem.EqMixed.ne_int_str (bK I q (by simp))
   | _=>exact absurd (show false=true from hs) Bool.false_ne_true
 | str i=>
   obtain⟨t,rfl⟩:=rx;cases y with
   | cz=>cases ry;exact PySem.EqNone.ne_str_none (bK I q (by simp))
   | bl j=>cases ry;exact PySem.EqMixed.ne_str_bool (bK I q (by simp))
   | int j=>obtain⟨t',rfl⟩:=ry;exact PySem.EqMixed.ne_str_int (bK I q (by simp))
   | str j=>obtain⟨t',rfl⟩:=ry;exact ne_str (bK I q (congrArg not xJ))
   | _=>exact absurd (show false=true from hs) Bool.false_ne_true
 | byt i=>
   obtain⟨t,rfl⟩:=rx;cases y with
   | byt j=>obtain⟨t',rfl⟩:=ry;exact PySem.W.ne_bytes (bK I q (congrArg not x5))
   | _=>exact absurd (show false=true from hs) Bool.false_ne_true
 | _=>cases y <;> exact absurd (show false=true from hs) Bool.false_ne_true
theorem JE:lA X (compareOp .Lt) (zJ fun i j=> .bl (decide (i < j))):=Ge fun _ _ _ _ _ _ _ q=>lt_int q
theorem JA:lA X (compareOp .Gt) (zJ fun i j=> .bl (decide (j < i))):=Ge fun _ _ _ _ _ _ _ q=>gt_int q
theorem Jl:lA X (compareOp .GtE) (zJ fun i j=> .bl (decide (j<=i))):=Ge fun _ _ _ _ _ _ _ q=>ge_int q
theorem yD:lA X (compareOp .In) (fun x y H Q=>∃i j,x= .str i/\y= .str j/\Q (.bl (!(Builtin.Str.occurrences j i 0 j.length 1).isEmpty)) H):=by
 intro pins s σ H x y v u Q I rx ry h;obtain⟨i,j,rfl,rfl,q⟩:=h;obtain⟨t,rfl⟩:=rx;obtain⟨t',rfl⟩:=ry;exact in_str (bK I q rfl)
def isObj:HO->Bool
 | .lst _=>true
 | .ins _ _ _=>true
 | _=>false
theorem cN(b:Expr){op:CmpOp}(h:op≠ .In:=by decide)(h2:op≠ .NotIn:=by decide):behindInMarks op b=false:=by
 have e1:(op==CmpOp.In)=false:=by cases op <;> first | rfl | exact absurd rfl h
 have e2:(op==CmpOp.NotIn)=false:=by cases op <;> first | rfl | exact absurd rfl h2
 cases b <;> simp [behindInMarks,e1,e2]
theorem xC{op:CmpOp}{r:R2}(ho:lA X (compareOp op) r)(ha:PE X a ta)(hb:PE X b tb)(hm:behindInMarks op b=false):PE X (.Compare a [op] [b] pos) (HK r ta tb):=by
 intro pins s σ H Q I h;exact wpAny_Compare1 (Hc ha hb I h fun v u s2 x y H2 I2 rx ry q=>ho pins s2 σ H2 x y v u Q I2 rx ry q) hm
def Jm(t:TE):TT:=fun σ H Q=>t σ H fun x H'=>∃k,x= .bl k/\Q k H'
theorem xX{op:CmpOp}{r:R2}(ho:lA X (compareOp op) r)(ha:PE X a ta)(hb:PE X b tb)(hm:behindInMarks op b=false):PT X (.Compare a [op] [b] pos) (Jm (HK r ta tb)):=by
 intro pins s σ H Q I h;refine wpAny_isTrue_Compare1 (ee (ha pins s σ H _ I h) fun v s1 ⟨x,H1,I1,r1,q1⟩=>ee (hb pins s1 σ H1 _ I1 q1) fun u s2 ⟨y,H2,I2,r2,q2⟩=>
  ee (ho pins s2 σ H2 x y v u _ I2 r1 r2 q2) fun c s3 ⟨z,H3,I3,r3,k,e,q3⟩=>?_) hm
 subst e;cases r3;exact wpAny_truthy_bool ⟨H3,I3,q3⟩
def KJ(r r':R2)(ta tb tc:TE):TE:=fun σ H Q=>ta σ H fun x H1=>tb σ H1 fun y H2=>r x y H2 fun z H3=>∃k,z= .bl k/\
 (if k=true then tc σ H3 fun w' H4=>r' y w' H4 Q else Q (.bl false) H3)
def D9(K:W.Frag)(x:V)(H:Hp)(k:Bool):Prop:=
 match x with
 | .cz=>k=false
 | .bl b=>k=b
 | .int i=>k=(i !=0)
 | .str y=>y.length<=sizeLine/\k=((y.length:Int) !=0)
 | .byt y=>y.size<=sizeLine/\k=((y.size:Int) !=0)
 | .ref p=>(∃xs,mG K H p xs/\k=!xs.isEmpty)\/(∃xs,oX K H p xs/\k=!xs.isEmpty)\/∃aP,H p=some (.dK aP)/\k=!aP.isEmpty
 | _=>False
theorem wX{κ:Type}{aP:List (κ × V)}{vs:List (κ × Value)}(r:KV aP vs):(!vs.isEmpty)=!aP.isEmpty:=by
 cases r <;> rfl
theorem pT{xs:List V}{its:List Value}(r:Vals xs its):(!its.toArray.isEmpty)=!xs.isEmpty:=by
 cases r <;> simp
theorem qp:(sizeLine:Nat) < 2 ^ 63:=by rw[sizeLine_eq];decide
theorem Gf:KN X (fun x H Q=>∃k,D9 X.K x H k/\Q k H):=by
 intro pins s σ H x v Q I rx h;obtain⟨k,e,q⟩:=h;have hl:=qp;have hs:sizeLine=16777216:=sizeLine_eq;cases x with
 | cz=>
   cases rx;have e':k=false:=e;subst e';exact truthy_none ⟨H,I,q⟩
 | bl b=>
   cases rx;have e':k=b:=e;subst e';exact wpAny_truthy_bool ⟨H,I,q⟩
 | int i=>
   obtain⟨t,rfl⟩:=rx;have e':k=(i !=0):=e;subst e';exact PySem.P.truthy_int ⟨H,I,q⟩
 | str y=>
   obtain⟨t,rfl⟩:=rx;obtain⟨hy,e'⟩:y.length<=sizeLine/\k=((y.length:Int) !=0):=e;subst e';exact PySem.P.truthy_str (by omega) ⟨H,I.tok _,q⟩
 | byt y=>
   obtain⟨t,rfl⟩:=rx;obtain⟨hy,e'⟩:y.size<=sizeLine/\k=((y.size:Int) !=0):=e;subst e';exact PySem.W.truthy_bytes (by omega) ⟨H,I.tok _,q⟩
 | ref p=>
   cases rx;have e':(∃xs,mG X.K H p xs/\k=!xs.isEmpty)\/(∃xs,oX X.K H p xs/\k=!xs.isEmpty)\/∃aP,H p=some (.dK aP)/\k=!aP.isEmpty:=e;rcases e' with⟨xs,hx,e'⟩ | ⟨xs,hx,e'⟩ | ⟨aP,hx,e'⟩
   .subst e';obtain⟨its,r,pl,hz⟩:=I.list hx;have hlen:=r.length;exact wpAny_truthy_list pl.isList (by simp only[List.size_toArray];omega) ⟨H,I.tok _,by rw[pT r];exact q⟩
   .subst e';obtain⟨its,r,pl,hz⟩:=I.tuple hx;have hlen:=r.length;exact truthy_tuple pl (by simp only[List.size_toArray];omega) ⟨H,I.tok _,by rw[pT r];exact q⟩
   .subst e';obtain⟨hz,hS,vs,r,m⟩:aP.length<=sizeLine/\(p==sysModules)=false/\∃vs,KV aP vs/\s.heap.DictOf (cU X.prog X.w) p vs:=I.hok p _ hx;have hlen:aP.length=vs.length:=Paired.length r;exact wpAny_truthy_dict hS m (by omega) ⟨H,I.tok _,by rw[wX r];exact q⟩
 | _=>exact(show False from e).elim
theorem uq(ha:PE X a ta)(he:∀whole,isTrue a X.env whole=(do let v <-whole;standAt a.pos;holding [v] (truthy v))) :
 PT X a (fun σ H Q=>ta σ H fun x H'=>∃k,D9 X.K x H' k/\Q k H'):=by
 intro pins s σ H Q I h;exact isTrue_plain (ee (ha pins s σ H _ I h) fun v s1 ⟨x,H1,I1,r1,q1⟩=>Gf pins s1 σ H1 x v Q I1 r1 q1) (he _)
theorem wH:lA X (binaryOp .Add) (fun x y H Q=>∃i j,x= .str i/\y= .str j/\i.length+j.length<=sizeLine/\Q (.str (i++j)) H):=by
 intro pins s σ H x y v u Q I rx ry h;obtain⟨i,j,rfl,rfl,hz,q⟩:=h;obtain⟨t,rfl⟩:=rx;obtain⟨t',rfl⟩:=ry;exact add_str (fun t' tk=>⟨.str (i++j),H,I.tok _,⟨_,rfl⟩,q⟩) hz
def JI(b:Expr):Prop:=∀o i,subscripted b false o i=operate [o,i] (getItem o i)
theorem vals1{x:V}{us:List Value}(r:Vals [x] us):∃u,us=[u]/\RelV x u:=by
 cases r with
 | cons r1 r2=>cases r2;exact⟨_,rfl,r1⟩
theorem vals2{x y:V}{us:List Value}(r:Vals [x,y] us):∃u w',us=[u,w']/\RelV x u/\RelV y w':=by
 cases r with
 | cons r1 r2=>
   cases r2 with
   | cons r3 r4=>cases r4;exact⟨_,_,rfl,r1,r3⟩
theorem yu(hc:X.calm=true):lW X (.builtin "max") (fun xs H Q=>∃i j,xs=[.int i, .int j]/\Q (.int (if j > i then j else i)) H):=by
 intro pins s σ H xs us Q I r h;obtain⟨i,j,rfl,q⟩:=h;obtain⟨u,w',rfl,⟨t,rfl⟩,⟨t',rfl⟩⟩:=vals2 r;refine max_two_ints (I.ok.hd hc) fun h' tk k=>⟨_,H,I.kept k,?_,q⟩
 by_cases hj:j > i
 .rw [if_pos hj,if_pos hj];exact⟨_,rfl⟩
 .rw [if_neg hj,if_neg hj];exact⟨_,rfl⟩
theorem yU(hc:X.calm=true):lW X (.builtin "min") (fun xs H Q=>∃i j,xs=[.int i, .int j]/\Q (.int (if j < i then j else i)) H):=by
 intro pins s σ H xs us Q I r h;obtain⟨i,j,rfl,q⟩:=h;obtain⟨u,w',rfl,⟨t,rfl⟩,⟨t',rfl⟩⟩:=vals2 r;refine min_two_ints (I.ok.hd hc) fun h' tk k=>⟨_,H,I.kept k,?_,q⟩
 by_cases hj:j < i
 .rw [if_pos hj,if_pos hj];exact⟨_,rfl⟩
 .rw [if_neg hj,if_neg hj];exact⟨_,rfl⟩
theorem ze:lW X (.type "int") (fun xs H Q=>(∃i,xs=[.int i]/\Q (.int i) H)\/∃k,xs=[.bl k]/\Q (.int (if k then 1 else 0)) H):=by
 intro pins s σ H xs us Q I r h;rcases h with⟨i,rfl,q⟩ | ⟨k,rfl,q⟩
 .obtain⟨u,rfl,t,rfl⟩:=vals1 r;exact call_int_int ⟨.int i,H,I,⟨_,rfl⟩,q⟩
 .obtain⟨u,rfl,r1⟩:=vals1 r;cases r1;exact call_int_bool ⟨.int (if k then 1 else 0),H,I.tok _,⟨_,rfl⟩,q⟩
def K5(K:W.Frag)(x:V)(H:Hp)(n:Nat):Prop:=
 match x with
 | .str y=>y.length<=sizeLine/\n=y.length
 | .byt y=>y.size<=sizeLine/\n=y.size
 | .ref p=>(∃xs,mG K H p xs/\n=xs.length)\/∃xs,oX K H p xs/\n=xs.length
 | _=>False
theorem Ap:lW X (.builtin "len") (fun xs H Q=>∃x n,xs=[x]/\K5 X.K x H n/\Q (.int n) H):=by
 intro pins s σ H xs us Q I r h;obtain⟨x,n,rfl,e,q⟩:=h;obtain⟨u,rfl,rx⟩:=vals1 r;have hl:=qp;have hs:sizeLine=16777216:=sizeLine_eq;cases x with
 | str y=>
   obtain⟨t,rfl⟩:=rx;obtain⟨hy,e'⟩:y.length<=sizeLine/\n=y.length:=e;subst e';exact len_str (by omega) ⟨.int _,H,I.tok _,⟨_,rfl⟩,q⟩
 | byt y=>
   obtain⟨t,rfl⟩:=rx;obtain⟨hy,e'⟩:y.size<=sizeLine/\n=y.size:=e;subst e';exact PySem.W.len_bytes (by omega) ⟨.int _,H,I.tok _,⟨_,rfl⟩,q⟩
 | ref p=>
   cases rx;have e':(∃xs,mG X.K H p xs/\n=xs.length)\/∃xs,oX X.K H p xs/\n=xs.length:=e;rcases e' with⟨xs,hx,e'⟩ | ⟨xs,hx,e'⟩
   .subst e';obtain⟨its,r',pl,hz⟩:=I.list hx;have hlen:=r'.length;exact Calls.call_len_list pl.isList (by simp only[List.size_toArray];omega) ⟨.int xs.length,H,I.tok _,⟨_,by simp only[List.size_toArray];rw [hlen]⟩,q⟩
   .subst e';obtain⟨its,r',pl,hz⟩:=I.tuple hx;have hlen:=r'.length;exact len_tuple pl (by simp only[List.size_toArray];omega) ⟨.int xs.length,H,I.tok _,⟨_,by simp only[List.size_toArray];rw [hlen]⟩,q⟩
 | _=>exact(show False from e).elim
end
structure wJ (h:Heap) (x dx C:Addr) (mA:Rt):Prop where
 obj:h.get? x=some (PySem.W.instObj C dx)
 ns:h.Ns1 dx mA
 ne:dx≠x
theorem yF{h:Heap}{dx:Addr}{mA:Rt}(n:h.Ns1 dx mA):∃od,h.get? dx=some od/\∀name,PySem.W.lookIn name od=some (mA name):=by
 obtain⟨o,es,ep,ho,hd,hk,_,hm⟩:=n;refine⟨o,ho,fun name=>?_⟩
 have e:=hm name;unfold nsFind findBy at e;rw[<-Array.find?_toList] at e;unfold PySem.W.lookIn;rw[hd];dsimp only;split
 .rename_i y q;rw[q] at e;exact congrArg some e
 .rename_i q;rw[q] at e;have a:es.toList.any (·.refKey)=false:=by
   rw[List.any_eq_false];intro y hy;obtain⟨z,t,hkey⟩:=hk y (Array.mem_toList_iff.mp hy);simp [DictEntry.refKey,hkey]
  have a':¬es.toList.any (·.refKey)=true:=by rw[a];exact Bool.false_ne_true
  rw[if_neg a'];exact congrArg some e
theorem wJ.look{x dx C:Addr}{mA:Rt}(I:wJ h x dx C mA):∃od,PySem.W.InstAt h x (PySem.W.instObj C dx) C (some od)/\∀name,PySem.W.lookIn name od=some (mA name):=
 let⟨od,ho,hl⟩:=yF I.ns
 ⟨od,⟨I.obj,rfl,rfl,ho⟩,hl⟩
section
variable {prog:Program} {w:World} {A:Around} {E:Ro} {s:Shared} {K:W.Frag} {x dx C f:Addr} {mA:Rt} {name:Str} {v:Value}
theorem get_map{expr:Bool}{Q:Ro}(X:K.In s.heap)(I:wJ s.heap x dx C mA)(hg:PySem.W.plainGet K C name=true)(hh:PySem.W.hasDictIn K C=true)
 (ha:PySem.W.findIn K (.ref C) name=some none) (hv:mA name=some v) (Px:PySem.W.handedIn v=true) (h:Q v {s with toks:=s.toks+1}) :
 wpAny (model prog w) A (getAttr (.ref x) name expr) Q E s:=by
 obtain⟨od,J,hl⟩:=I.look;exact PySem.W.get_value X J (PySem.W.plainGet_of hg).1 (PySem.W.findObj_own hh ha rfl (by rw[hl,hv])) Px h
theorem AR{pl:Sem Bool}{Q:Value × List Value->Shared->Prop}(X:K.In s.heap)(I:wJ s.heap x dx C mA)(hg:PySem.W.plainGet K C name=true)
 (hf:PySem.W.findIn K (.ref C) name=some (some (.ref f))) (ht:PySem.W.isFn K (.ref f)=true) (hv:mA name=none) (h:Q (.ref f,[.ref x]) s) :
 wpAny (model prog w) A (getMethod (.ref x) name pl) Q E s:=by
 obtain⟨od,J,hl⟩:=I.look;exact PySem.W.method_fn X J (PySem.W.plainGet_of hg).1 (PySem.W.plainGet_of hg).2 hf (beq_iff_eq.mp ht) (by show(PySem.W.lookIn name od).map (·.isSome)=some false;rw [hl,hv];rfl) h
theorem CP{ns:List Str}{Q:Unit->Shared->Prop}(X:K.In s.heap)(I:wJ s.heap x dx C mA)
 (hs:PySem.W.findIn K (.ref C) "__setattr__"=some (some (.builtin "object.__setattr__"))) (hp:PySem.W.plainOver K C=true) (ht:PySem.W.takerIn K C name=some none) (hh:PySem.W.hasDictIn K C=true)
 (hw:PySem.Within mA ns) (vG:ns.length<=sizeLine)
 (h:∀h',wJ h' x dx C (fun y=>if y=name then some v else mA y)->Heap.SameBut dx s.heap h'->Q () {s with heap:=h',toks:=s.toks+2}) :
 wpAny (model prog w) A (setAttr (.ref x) name v) Q E s:=by
 obtain⟨od,J,hl⟩:=I.look;refine PySem.W.set_plain X J hs (PySem.W.osa_open (s:={s with toks:=s.toks+1}) (r:=none) X J hp ht fun b=>?_)
 obtain⟨cd,hc,LZ⟩:=PySem.W.any_some hh;have hx:s.heap.get? x=some ⟨.ref C,some dx, .plain,#[]⟩:=I.obj;refine wpAny_bind (wpAny_pure (wpAny_bind (wpAny_bind (wpAny_loadPart hx (wpAny_bind (PySem.W.Looks.here (s:={s with toks:=s.toks+1}) (PySem.W.looks_clsIn X hc) ?_))))))
 rw[LZ];refine wpAny_pure (a:=some dx) (wpAny_bind (wpAny_pure (wpAny_bind ?_)));refine wpAny_nsSet1 (s:={s with toks:=s.toks+1}) I.ns fun h' Hv vH=>?_
 obtain⟨oD,esD,epD,hoD,hdD,hcD⟩:=Hv.count (PySem.Within.cons name v hw);refine wpAny_bind (wpAny_lookBehind hoD (by rw[hdD];exact pastItsLine_dict (Nat.le_trans hcD (by rw[List.length_cons];omega))) ?_)
 exact wpAny_pure (h _ ⟨(vH.2 _ (Ne.symm I.ne)).trans I.obj,Hv,I.ne⟩ vH)
theorem Ai{R:Result->Shared->Prop}{vs:List Value}{kw:List (Str × Value)}(X:K.In s.heap)(hm:PySem.W.makesIn K C=true)
 (hi:PySem.W.findIn K (.ref C) "__init__"=some (some (.ref f))) (hf:PySem.W.typeIn K (.ref f)=some (.type "function"))
 (h:codeAny (model prog w) (A.under (.builtin "type.__call__" ⟨.ref C ::vs,kw⟩)) (.call (.ref f) ⟨.ref (s.heap.objs.size+1) ::vs,kw⟩) (PySem.W.InitBack (s.heap.objs.size+1) R)
   {s with heap:=(s.heap.push PySem.W.emptyDict).push (PySem.W.instObj C s.heap.objs.size)}) :
 codeAny (model prog w) A (.call (.ref C) ⟨vs,kw⟩) R s:=by
 obtain⟨hh,g,d,t,os⟩:=s;exact PySem.W.make_core (PySem.W.makes_of X hm) (PySem.W.looks_findIn X hi) (fun self=>PySem.W.bind_fn X self hf) (.inl rfl) h
end
def i4(f:Str)(v:V):List (Str × V)->List (Str × V)
 | []=>[(f,v)]
 | (g,x) ::r=>if g=f then(g,v) ::r else(g,x) ::i4 f v r
theorem oJ(f g:Str)(v:V):∀fs:List (Str × V),(i4 f v fs).lookup g=if g=f then some v else fs.lookup g
 | []=>by
   show List.lookup g [(f,v)]=_;by_cases h:g=f
   .have hb:(g==f)=true:=beq_iff_eq.mpr h;simp only[List.lookup,hb,if_pos h]
   .have hb:(g==f)=false:=beq_eq_false_iff_ne.mpr h;simp only[List.lookup,hb,if_neg h]
 | (k,x) ::r=>by
   have ih:=oJ f g v r;rw[show i4 f v ((k,x) ::r)=(if k=f then(k,v) ::r else(k,x) ::i4 f v r) from rfl]
   by_cases hk:k=f
   .rw [if_pos hk];by_cases h:g=k
    .have hb:(g==k)=true:=beq_iff_eq.mpr h;simp only[List.lookup,hb,if_pos (h.trans hk)]
    .have hb:(g==k)=false:=beq_eq_false_iff_ne.mpr h;simp only[List.lookup,hb,if_neg (fun e:g=f=>h (e.trans hk.symm))]
   .rw [if_neg hk];by_cases h:g=k
    .have hb:(g==k)=true:=beq_iff_eq.mpr h;simp only[List.lookup,hb,if_neg (fun e:g=f=>hk (h.symm.trans e))]
    .have hb:(g==k)=false:=beq_eq_false_iff_ne.mpr h;simp only[List.lookup,hb];exact ih
theorem n8(f:Str)(v:V):∀fs:List (Str × V),f∈(i4 f v fs).map (·.1)/\∀g,g∈fs.map (·.1)->g∈(i4 f v fs).map (·.1)
 | []=>⟨by simp [i4],fun g h=>by simp at h⟩
 | (k,x) ::r=>by
   obtain⟨i1,i2⟩:=n8 f v r;rw[show i4 f v ((k,x) ::r)=(if k=f then(k,v) ::r else(k,x) ::i4 f v r) from rfl]
   by_cases hk:k=f
   .rw [if_pos hk];subst hk;exact⟨by simp,fun g h=>by simpa using h⟩
   .rw [if_neg hk];refine⟨?_,fun g h=>?_⟩
    .rw [List.map_cons];exact List.mem_cons_of_mem _ i1
    .rw [List.map_cons] at h ⊢;rcases List.mem_cons.mp h with e | e
     .exact List.mem_cons.mpr (.inl e)
     .exact List.mem_cons_of_mem _ (i2 g e)
theorem oI(f:Str)(v:V):∀fs:List (Str × V),(i4 f v fs).length<=fs.length+1
 | []=>by simp [i4]
 | (k,x) ::r=>by
   have ih:=oI f v r;rw[show i4 f v ((k,x) ::r)=(if k=f then(k,v) ::r else(k,x) ::i4 f v r) from rfl]
   by_cases hk:k=f
   .rw [if_pos hk,List.length_cons,List.length_cons];omega
   .rw [if_neg hk,List.length_cons,List.length_cons];omega
theorem nc.some_of{v:V}{o:Option Value}(r:nc (some v) o):∃u,o=some u/\RelV v u:=by
 cases o with
 | none=>exact(show False from r).elim
 | some u=>exact⟨u,rfl,r⟩
theorem nc.none_of{o:Option Value}(r:nc none o):o=none:=by
 cases o with
 | none=>rfl
 | some u=>exact(show False from r).elim
theorem yZ{v:V}{u:Value}(r:RelV v u):PySem.W.handedIn u=true:=by
 cases v with
 | cz=>cases(show u=Value.none from r);rfl
 | bl b=>cases(show u=Value.bool b from r);rfl
 | int i=>obtain⟨t,e⟩:=(show ∃t,u=Value.int i t from r);cases e;rfl
 | str x=>obtain⟨t,e⟩:=(show ∃t,u=Value.str x t from r);cases e;rfl
 | byt b=>obtain⟨t,e⟩:=(show ∃t,u=Value.bytes b t from r);cases e;rfl
 | flt b=>obtain⟨t,e⟩:=(show ∃t,u=Value.float b t from r);cases e;rfl
 | ref a=>cases(show u=Value.ref a from r);rfl
 | ty n=>cases(show u=Value.type n from r);rfl
section
variable {P:Program} {w:World} {H H':Hp} {h h':Heap} {a C dx:Addr} {fs HV:List (Str × V)}
theorem tI(hok:lQ P w H h)(e:H a=some (.ins C dx fs)):∃mA,wJ h a dx C mA/\(∀f,nc (fs.lookup f) (mA f))/\PySem.Within mA (fs.map (·.1))/\fs.length<=1000/\H dx=some (.own a):=by
 obtain⟨d,z,ne,ob,mA,n,r,q⟩:=(show ef P w H h a (.ins C dx fs) from hok a _ e)
 exact⟨mA,⟨ob,n,ne⟩,r,q,z,d⟩
end
structure vE (K:W.Frag) (C:Addr):Prop where
 pg:PySem.W.plainGet K C Str.empty=true
 hd:PySem.W.hasDictIn K C=true
 po:PySem.W.plainOver K C=true
 sa:PySem.W.findIn K (.ref C) "__setattr__"=some (some (.builtin "object.__setattr__"))
theorem vE.get{K:W.Frag}{C:Addr}(c:vE K C)(f:Str):PySem.W.plainGet K C f=true:=c.pg
def dY(K:W.Frag)(C:Addr)(f:Str):Prop:=PySem.W.findIn K (.ref C) f=some none
theorem dY.Ib{K:W.Frag}{C:Addr}(n:dY K C f):PySem.W.takerIn K C f=some none:=by
 unfold PySem.W.takerIn;rw[show PySem.W.findIn K (.ref C) f=some none from n]
 rfl
structure Oz (K:W.Frag) (C:Addr) (f:Str) (v:V) (u:Value):Prop where
 at_:PySem.W.findIn K (.ref C) f=some (some u)
 rel:RelV v u
 get:PySem.W.specialIn K u "__get__"=some none
 cp:PySem.W.copiedNames.contains f=false
structure Meth (K:W.Frag) (C:Addr) (m:Str) (f:Addr):Prop where
 at_:PySem.W.findIn K (.ref C) m=some (some (.ref f))
 fn:PySem.W.isFn K (.ref f)=true
 kp:PySem.W.keepIn K (.ref f)=true
section
variable {X:Cx} {pins:Rn} {σ:St} {H:Hp} {s:Shared} {a C dx:Addr} {fs:List (Str × V)} {f:Str} {v:V} {A:Around} {E:Ro}
theorem vN{b:Bool}{Q:Ro}(I:Inv X pins σ H s)(e:H a=some (.ins C dx fs))(c:vE X.K C)(n:dY X.K C f)(l:fs.lookup f=some v)
 (h:∀u s',Inv X pins σ H s'->RelV v u->Q u s'):wpAny (model X.prog X.w) A (getAttr (.ref a) f b) Q E s:=by
 obtain⟨mA,O,r,_,_,_⟩:=tI I.hok e;obtain⟨u,hu,ru⟩:=nc.some_of (v:=v) (o:=mA f) (by rw[<-l];exact r f)
 exact get_map I.xD O (c.get f) c.hd n hu (yZ ru) (h u _ (I.tok _) ru)
theorem vS{m:Str}{g:Addr}{pl:Sem Bool}{Q:Value × List Value->Shared->Prop}(I:Inv X pins σ H s)(e:H a=some (.ins C dx fs))(c:vE X.K C)(k:Meth X.K C m g)(l:fs.lookup m=none)
 (h:Q (.ref g,[.ref a]) s):wpAny (model X.prog X.w) A (getMethod (.ref a) m pl) Q E s:=by
 obtain⟨mA,O,r,_,_,_⟩:=tI I.hok e;have hn:mA m=none:=nc.none_of (by rw[<-l];exact r m)
 exact AR I.xD O (c.get m) k.at_ k.fn hn h
theorem wU{y:V}{u:Value}{Q:Unit->Shared->Prop}(I:Inv X pins σ H s)(e:H a=some (.ins C dx fs))(c:vE X.K C)(n:dY X.K C f)(hl:fs.length < 1000)(ry:RelV y u)
 (h:∀s',Inv X pins σ (upd H a (.ins C dx (i4 f y fs))) s'->Q () s'):wpAny (model X.prog X.w) A (setAttr (.ref a) f u) Q E s:=by
 obtain⟨mA,O,r,wi,_,ho⟩:=tI I.hok e;have hz:(fs.map (·.1)).length<=sizeLine:=by rw[List.length_map,sizeLine_eq];omega
 refine CP I.xD O c.sa c.po n.Ib c.hd wi hz fun h' O' sb=>h _ ?_
 have hd:∃o,h'.get? dx=some o:=let⟨o,_,_,e',_⟩:=O'.ns;⟨o,e'⟩
 refine I.write (x:=a) (e:=dx) (by rw[e];exact True.intro) (.inr ho) (fun b q hb z=>(sb.2 b hb).trans z) hd ?_
 refine⟨by rw[aS O.ne];exact ho,?_,O.ne,O'.obj,_,O'.ns,fun g=>?_,fun g hg=>?_⟩
 .have:=oI f y fs;omega
 .show nc ((i4 f y fs).lookup g) (if g=f then some u else mA g)
  rw[oJ];by_cases q:g=f
  .rw [if_pos q,if_pos q];exact ry
  .rw [if_neg q,if_neg q];exact r g
 .by_cases q:g=f
  .rw [q];exact(n8 f y fs).1
  .refine(n8 f y fs).2 g (wi g fun z=>hg ?_)
   show(if g=f then some u else mA g)=none
   rw[if_neg q];exact z
theorem Inv.made(I:Inv X pins σ H s):Inv X pins σ (upd (upd H s.heap.objs.size (.own (s.heap.objs.size+1))) (s.heap.objs.size+1) (.ins C s.heap.objs.size []))
 {s with heap:=(s.heap.push PySem.W.emptyDict).push (PySem.W.instObj C s.heap.objs.size)}:=by
 have e1:(s.heap.push PySem.W.emptyDict).get? s.heap.objs.size=some PySem.W.emptyDict:=Heap.get?_push_size s.heap rfl;have e2:((s.heap.push PySem.W.emptyDict).push (PySem.W.instObj C s.heap.objs.size)).get? (s.heap.objs.size+1)=some (PySem.W.instObj C s.heap.objs.size):=by
  have:=Heap.get?_push_size (s.heap.push PySem.W.emptyDict) (o:=PySem.W.instObj C s.heap.objs.size) rfl
  rwa [Heap.size_push] at this
 have e3:(s.heap.push PySem.W.emptyDict).Ns s.heap.objs.size (fun _=>none):=⟨PySem.W.emptyDict,#[],_,e1,rfl,(fun e he=>absurd he (by simp)),fun _=>rfl⟩
 have I1:=I.laid (a:=s.heap.objs.size) (o:= .own (s.heap.objs.size+1)) (h':=s.heap.push PySem.W.emptyDict) (t':=s.toks) (fun b u q=>Heap.get?_push_of_some _ q) (Nat.le_refl _) ⟨_,e1⟩
 refine I1.laid (a:=s.heap.objs.size+1) (o:= .ins C s.heap.objs.size []) (t':=s.toks) (fun b u q=>Heap.get?_push_of_some _ q) (Nat.le_of_eq (Heap.size_push _ _)) ?_
 have ne:s.heap.objs.size≠s.heap.objs.size+1:=Nat.ne_of_lt (Nat.lt_succ_self _);refine⟨by rw[aS ne,aV],Nat.zero_le _,ne,e2,fun _=>none,(Heap.Ns1.of_empty e3).at fun o q=>Heap.get?_push_of_some _ q,fun _=>True.intro,fun y hy=>absurd rfl hy⟩
theorem D6{prog:Program}{w:World}{env:Env}{e:Expr}{f:Str}{pos:Pos}{s:Shared}{Q:Ro}(hb:attributeBase e f env (eval e env)=eval e env)
 (h:wpAny (model prog w) A (eval e env) (fun o s₁=>wpAny (model prog w) A (getAttr o f true) Q E s₁) E s):wpAny (model prog w) A (eval (.Attribute e f pos) env) Q E s:=
 Attribute_any_ h (by rw[arm_eval_Attribute,hb])
end
def KO(K:W.Frag)(ta:TE)(f:Str):TE:=fun σ H Q=>ta σ H fun x H1=>∃a C dx fs v,x= .ref a/\H1 a=some (.ins C dx fs)/\vE K C/\dY K C f/\fs.lookup f=some v/\Q v H1
def Od(K:W.Frag)(ta:TE)(f:Str):TE:=fun σ H Q=>ta σ H fun x H1=>∃a C dx fs v u,x= .ref a/\H1 a=some (.ins C dx fs)/\vE K C/\Oz K C f v u/\fs.lookup f=none/\Q v H1
def Kr(K:W.Frag)(ta tv:TE)(f:Str):TS:=fun D σ H=>tv σ H fun y H1=>ta σ H1 fun x H2=>∃a C dx fs,x= .ref a/\H2 a=some (.ins C dx fs)/\vE K C/\dY K C f/\fs.length < 1000/\
 D.nx σ (upd H2 a (.ins C dx (i4 f y fs)))
def N9(X:Cx)(op:Operator)(rd:V->V->Hp->VK->Prop):Prop:=
 ∀(pins:Rn) (s:Shared) (σ:St) (H:Hp) (x y:V) (u v:Value) (Q:VK),Inv X pins σ H s->RelV x u->RelV y v->rd x y H Q->wpAny (model X.prog X.w) X.A (inplaceOp op u v) (EP X pins σ Q) X.xe s
def Kf(K:W.Frag)(ta tv:TE)(rd:V->V->Hp->VK->Prop)(f:Str):TS:=fun D σ H=>ta σ H fun x H1=>∃a C dx fs v,x= .ref a/\H1 a=some (.ins C dx fs)/\vE K C/\dY K C f/\fs.lookup f=some v/\
 tv σ H1 fun y H2=>rd v y H2 fun z H3=>∃dx' HV,H3 a=some (.ins C dx' HV)/\HV.length < 1000/\D.nx σ (upd H3 a (.ins C dx' (i4 f z HV)))
section
variable {X:Cx} {o e value:Expr} {f:Str} {pos pos' qG:Pos} {ta tv:TE}
theorem GK(he:PE X e ta)(hb:attributeBase e f X.env (eval e X.env)=eval e X.env):PE X (.Attribute e f pos) (KO X.K ta f):=by
 intro pins s σ H Q I h;refine D6 hb (ee (he pins s σ H _ I h) fun u s1 ⟨x,H1,I1,rx,a,C,dx,fs,v,ex,ea,c,n,l,q⟩=>?_)
 subst ex;obtain rfl:u=Value.ref a:=rx;exact vN I1 ea c n l fun u' s2 I2 ru=>⟨v,H1,I2,ru,q⟩
theorem Gk(ha:PE X o ta)(hv:PE X value tv)(hs:swapsWith value (some (.Attribute o f pos')) pos.line X.env=pure false):PS X (.Assign [.Attribute o f pos'] value pos) (Kr X.K ta tv f):=by
 intro pins s σ H D I h;refine plainObj_wpAny_Assign_Attribute (ee (hv pins s σ H _ I h) fun u s1 ⟨y,H1,I1,ry,q⟩=>ee (ha pins s1 σ H1 _ I1 q) fun ov s2 ⟨x,H2,I2,rx,a,C,dx,fs,ex,ea,c,n,l,q2⟩=>?_) hs
 subst ex;obtain rfl:ov=Value.ref a:=rx;exact wU I2 ea c n l ry fun s3 I3=>⟨σ,_,I3,q2⟩
def N7:V->V->Hp->VK->Prop:=fun x y H Q=>∃i j,x= .int i/\y= .int j/\Q (.int (i+j)) H
def NQ:V->V->Hp->VK->Prop:=fun x y H Q=>∃i j,x= .int i/\y= .int j/\Q (.int (i - j)) H
end
section
variable {X:Cx} {pins:Rn} {σ:St} {H:Hp} {s:Shared} {A:Around} {E:Ro} {Q:Ro} {c:Value} {b:Bool}
inductive qe (K:W.Frag) (H:Hp):V->Value->Prop where
 | cz:qe K H .cz (.type "NoneType")
 | bl (x:Bool):qe K H (.bl x) (.type "bool")
 | int (i:Int):qe K H (.int i) (.type "int")
 | str (x:Str):qe K H (.str x) (.type "str")
 | flt (x:UInt64):qe K H (.flt x) (.type "float")
 | lst {a:Addr} {xs:List V} (e:H a=some (.lst xs)):qe K H (.ref a) (.type "list")
 | jk {a:Addr} {o:Obj} {xs:List V} (e:H a=some (.jk o (.lst xs))):qe K H (.ref a) (.type "list")
 | tup {a:Addr} {xs:List V} (e:H a=some (.tup xs)):qe K H (.ref a) (.type "tuple")
 | dK {a:Addr} {aP:List (Key × V)} (e:H a=some (.dK aP)):qe K H (.ref a) (.type "dict")
 | dT {a:Addr} {aP:List (List Key × V)} (e:H a=some (.dT aP)):qe K H (.ref a) (.type "dict")
 | ins {a C dx:Addr} {fs:List (Str × V)} (e:H a=some (.ins C dx fs)) (cl:vE K C) (ha:PySem.W.findIn K (.ref C) "__class__"=some (some (.builtin "object.__class__")))
    (hn:PySem.W.specialIn K (.builtin "object.__class__") "__get__"=some (some (.builtin "getset_descriptor.__get__"))) (Ra:PySem.W.takesIn K (.builtin "object.__class__")=some true)
    (hm:PySem.W.mroIn K C (.type "object")=some true):qe K H (.ref a) (.ref C)
end
structure dR (k:Nat) (A:Around):Prop where
 hd:A.handled=none
 dp:A.depth+3*k+5 < recursionLimit
 un:A.units+16*k+200 < cLine
theorem dR.mono{j k:Nat}(r:dR k A)(h:j<=k):dR j A:=⟨r.hd,by have:=r.dp;omega,by have:=r.un;omega⟩
theorem dR.deeper{k:Nat}{A:Around}(r:dR (k+1) A)(env:Env):dR k (A.deeper env):=
 ⟨r.hd,by have:=r.dp;show A.depth+1+3*k+5 < _;omega,by have:=r.un;show A.units+3+16*k+200 < _;omega⟩
theorem v8{A:Around}{C:Addr}{us:List Value}{kw:List (Str × Value)}:(A.under (.builtin "type.__call__" ⟨.ref C ::us,kw⟩)).depth=A.depth+1:=by
 first | rfl | simp [Around.under,Code.weight,Code.isCreation,Code.isGuard,Code.isCaller,Code.frames,Code.isFrame,guardIds]
theorem vL{A:Around}{C:Addr}{us:List Value}{kw:List (Str × Value)}:(A.under (.builtin "type.__call__" ⟨.ref C ::us,kw⟩)).units=A.units+1:=by
 first | rfl | simp [Around.under,Code.cUnits,Code.frames,Code.isFrame]
theorem dR.make{k:Nat}{A:Around}(r:dR (k+1) A)(C:Addr)(us:List Value)(kw:List (Str × Value)):dR k (A.under (.builtin "type.__call__" ⟨.ref C ::us,kw⟩)):=
 ⟨r.hd,by have:=r.dp;rw [v8];omega,by have:=r.un;rw [vL];omega⟩
theorem dR.depth{k:Nat}{A:Around}(r:dR k A):A.depth < recursionLimit:=by have:=r.dp;omega
theorem dR.units{k:Nat}{A:Around}(r:dR k A):A.units+64 < cLine:=by have:=r.un;omega
def Ku:TA:=fun _ H Q=>Q [] H
def Iw(ta:TE)(tr:TA):TA:=fun σ H Q=>ta σ H fun x H1=>tr σ H1 fun xs H2=>Q (x ::xs) H2
section
variable {X:Cx} {e:Expr} {es:List Expr} {te:TE} {t:TA} {pos:Pos}
theorem gK:PA X [] Ku:=fun _ _ _ _ H Q I h=>Calls.spliced_nil ⟨[],H,I, .nil,h⟩
theorem dM(ha:PE X e te)(hr:PA X es t)(hs:starEach (e ::es) X.env=(false,eval e X.env) ::starEach es X.env:=by rfl):PA X (e ::es) (Iw te t):=by
 intro pos pins s σ H Q I h;rw[hs];show wpAny _ _ (spliced ((false,eval e X.env) ::backTo pos (starEach es X.env))) _ _ s;refine Calls.spliced_cons (ee (ha pins s σ H _ I h) fun u s1 ⟨x,H1,I1,r1,q1⟩=>?_)
 exact ee (hr pos pins s1 σ H1 _ I1 q1) fun us s2 ⟨xs,H2,I2,r2,q2⟩=>⟨x ::xs,H2,I2, .cons r1 r2,q2⟩
def LD(t:TA):TE:=fun σ H Q=>t σ H fun xs H1=>xs.length<=sizeLine/\∀p,H1 p=none->Q (.ref p) (upd H1 p (.tup xs))
def Ks(t:TA):TE:=fun σ H Q=>t σ H fun xs H1=>xs.length<=sizeLine/\∀p,H1 p=none->Q (.ref p) (upd H1 p (.lst xs))
theorem AW{x1}(h:PA X es t):PE X (.Tuple es x1 pos) (LD t):=by
 intro pins s σ H Q I hq;refine wpAny_Tuple_spliced (ee (h pos pins s σ H _ I hq) fun us s1 ⟨xs,H1,I1,r,z,q⟩=>⟨by rw[<-r.length];exact z,?_⟩)
 have hf:H1 s1.heap.objs.size=none:=I1.hok.fresh (Nat.le_refl _);refine⟨.ref s1.heap.objs.size,upd H1 s1.heap.objs.size (.tup xs),I1.laid (t':=s1.toks) (fun b u e=>Heap.get?_push_of_some _ e) (Nat.le_refl _) ?_,rfl,q _ hf⟩
 exact⟨z,us,r,⟨_,Heap.get?_push_size _ rfl,rfl,_,rfl⟩⟩
theorem GR(h:PA X es t):PE X (.List es pos) (Ks t):=by
 intro pins s σ H Q I hq;refine wpAny_List_spliced (ee (h pos pins s σ H _ I hq) fun us s1 ⟨xs,H1,I1,r,z,q⟩=>⟨by rw[<-r.length];exact z,?_⟩)
 have hf:H1 s1.heap.objs.size=none:=I1.hok.fresh (Nat.le_refl _);refine⟨.ref s1.heap.objs.size,upd H1 s1.heap.objs.size (.lst xs),I1.laid (t':=s1.toks) (fun b u e=>Heap.get?_push_of_some _ e) (Nat.le_refl _) ?_,rfl,q _ hf⟩
 exact⟨z,us,0,r,Heap.get?_push_size _ rfl⟩
end
abbrev Sp:=List V->Hp->VK->XK->Prop
abbrev zT:=List Env->Hp->Shared->XK->Value->Shared->Prop
structure vV (P:Program) (w:World) (K:W.Frag) (mg:Rt) (base:Heap) (A:Around) (outer:List Env) (s:Shared) (H:Hp):Prop where
 frames:A.frames=some outer
 mod:Mod K mg base
 bs:∀b o,base.get? b=some o->s.heap.get? b=some o/\H b=none
 bsz:base.objs.size<=s.heap.objs.size
 o5:s.heap.FunFrames base outer
 frf:∀b∈zL outer,H b=none
 hok:lQ P w H s.heap
 bare:AllBare s.gens
def CE(outer:List Env)(P:Program)(w:World)(H:Hp)(s:Shared)(Q:VK)(u:Value)(s':Shared):Prop:=
 ∃v H',s'.os=s.os/\AllBare s'.gens/\Un (zL outer) [] H H' s.heap s'.heap/\lQ P w H' s'.heap/\RelV v u/\Q v H'
def CR(CX:zT)(outer:List Env)(P:Program)(w:World)(H:Hp)(s:Shared)(Q:VK)(E:XK)(r:Result)(s':Shared):Prop:=
 match r with
 | .ok (.ret u)=>CE outer P w H s Q u s'
 | .ok _=>False
 | .error e=>CX outer H s E e s'
structure gR (P:Program) (w:World) (K:W.Frag) (mg:Rt) (base:Heap) (CX:zT) (k:Nat) (f:Addr) (fd:FuncData) (ps:List Str) (sp:Sp):Prop where
 len:∀vs H Q E,sp vs H Q E->vs.length=ps.length
 run:∀(A:Around) (outer:List Env) (s:Shared) (H:Hp) (args:Args) (us:List Value) (vs:List V) (Q:VK) (E:XK),dR k A->vV P w K mg base A outer s H->BindsTo s fd args (ps.zip us)->Vals vs us->sp vs H Q E->
  codeAny (model P w) A (.call (.ref f) args) (CR CX outer P w H s Q E) s
theorem gR.imp{P:Program}{w:World}{K:W.Frag}{mg:Rt}{base:Heap}{CX:zT}{k:Nat}{f:Addr}{fd:FuncData}{ps:List Str}{sp Nt:Sp}(F:gR P w K mg base CX k f fd ps sp)
 (h:∀vs H Q E,Nt vs H Q E->sp vs H Q E):gR P w K mg base CX k f fd ps Nt:=
 ⟨fun vs H Q E q=>F.len vs H Q E (h _ _ _ _ q),fun A outer s H args us vs Q E hr he hb hv hs=>F.run A outer s H args us vs Q E hr he hb hv (h _ _ _ _ hs)⟩
theorem vV.make{K:W.Frag}{mg:Rt}{outer:List Env}{s:Shared}(e:vV P w K mg base A outer s H)(C:Addr)(us:List Value)(kw:List (Str × Value)) :
 vV P w K mg base (A.under (.builtin "type.__call__" ⟨.ref C ::us,kw⟩)) outer s H:=⟨by first | exact e.frames | (simpa [Around.under,Code.envs,Code.isFrame,pushEnvs] using e.frames),e.mod,e.bs,e.bsz,e.o5,e.frf,e.hok,e.bare⟩
section
variable {X:Cx} {pins:Rn} {σ:St} {H:Hp} {s s':Shared}
theorem Inv.I_(I:Inv X pins σ H s):vV X.prog X.w X.K X.mg X.base X.A X.stack s H:=
 ⟨I.ok.frames,I.ok.mod,I.bs,Nat.le_trans I.ok.bsz I.sz,I.stack,I.xH,I.hok,I.bare⟩
theorem Inv.after{Q:VK}{u:Value}(I:Inv X pins σ H s)(h:CE X.stack X.prog X.w H s Q u s'):EP X pins σ Q u s':=by
 obtain⟨v,H',os,bare,un,hok,r,q⟩:=h;obtain⟨hh,g,d,t,Hy⟩:=s';obtain rfl:Hy=s.os:=os;exact⟨v,H',I.call (h':=hh) (g':=g) (d':=d) (t':=t) (ch:=[]) un hok bare (fun b z=>absurd z (by simp)),r,q⟩
end
def JC(sp:Sp)(ua:List V)(E:XK)(t:TA):TE:=fun σ H Q=>t σ H fun vs H1=>sp (vs++ua) H1 Q E
def Jo(C:Addr)(m:Str)(sp:Sp)(ua:List V)(E:XK)(ta:TE)(t:TA):TE:=fun σ H Q=>ta σ H fun x H1=>∃a dx fs,x= .ref a/\H1 a=some (.ins C dx fs)/\fs.lookup m=none/\
 t σ H1 fun vs H2=>sp (x ::(vs++ua)) H2 Q E
def Ii(C:Addr)(sp:Sp)(ua:List V)(E:XK)(t:TA):TE:=fun σ H Q=>t σ H fun vs H1=>∀x dx,H1 x=none->H1 dx=none->dx≠x->
 sp (.ref x ::(vs++ua)) (upd (upd H1 dx (.own x)) x (.ins C dx [])) (fun v H2=>v= .cz/\Q (.ref x) H2) E
def Binds(K:W.Frag)(fd:FuncData)(ps:List Str)(ds:List Value):Prop:=
 ∀(s:Shared) (us:List Value),K.In s.heap->(us++ds).length=ps.length->BindsTo s fd ⟨us,[]⟩ (ps.zip (us++ds))
theorem Binds.all{K:W.Frag}{fd:FuncData}{ps:List Str}(h:∀us:List Value,us.length=ps.length->bindArgs fd ⟨us,[]⟩=pure (ps.zip us)):Binds K fd ps []:=fun s us _ hl=>by
 rw[List.append_nil] at hl ⊢;exact .of_eq (h us hl)
def Passes(CX:zT)(X:Cx)(E:XK):Prop:=∀(pins:Rn) (σ:St) (H:Hp) (s:Shared) (e:Value) (s':Shared),Inv X pins σ H s->CX X.stack H s E e s'->X.xe e s'
section
variable {X:Cx} {CX:zT} {k:Nat} {f C:Addr} {fd:FuncData} {ps:List Str} {sp:Sp} {ua:List V} {ds:List Value} {E:XK} {x m:Str} {p pos apos:Pos} {e o:Expr} {es:List Expr} {ta:TE} {t:TA}
theorem B6{pins:Rn}{σ:St}{H:Hp}{s:Shared}{Q:VK}{us:List Value}{vs:List V}(F:gR X.prog X.w X.K X.mg X.base CX k f fd ps sp)(hr:dR k X.A)(hb:Binds X.K fd ps ds)(hd:Vals ua ds)(hx:Passes CX X E)
 (I:Inv X pins σ H s) (r:Vals vs us) (h:sp (vs++ua) H Q E):wpAny (model X.prog X.w) X.A (call (.ref f) us) (EP X pins σ Q) X.xe s:=by
 have r2:Vals (vs++ua) (us++ds):=r.append hd;have hl:(us++ds).length=ps.length:=by rw[<-r2.length];exact F.len _ _ _ _ h
 refine wpAny_call (codeAny_mono (F.run X.A X.stack s H ⟨us,[]⟩ (us++ds) (vs++ua) Q E hr I.I_ (hb s us I.xD hl) r2 h) fun r s' hq=>?_)
 cases r with
 | error e=>exact hx pins σ H s e s' I hq
 | ok fl=>
   cases fl with
   | ret u=>exact I.after hq
   | next=>exact False.elim hq
   | brk=>exact False.elim hq
   | cont=>exact False.elim hq
theorem tq(F:gR X.prog X.w X.K X.mg X.base CX k f fd ps sp)(hr:dR k X.A)(hg:Gl X x)(hm:X.mg x=some (.ref f))(hk:PySem.W.keepIn X.K (.ref f)=true)(hb:Binds X.K fd ps ds)(hd:Vals ua ds)(hx:Passes CX X E)
 (ha:PA X (e ::es) t) (oA:(x==("__debug__":Str))=false:=by decide) (he:starEach (e ::es) X.env=(false,eval e X.env) ::starEach es X.env:=by rfl) (kx:(backTo pos (starEach es X.env)).any (·.1)=false:=by rfl) :
 PE X (.Call (.Name x p) (e ::es) [] pos) (JC sp ua E t):=by
 intro pins s σ H Q I h;refine wpAny_Call_Name_kw (yi I hg hm ?_ oA);refine PySem.W.callWith_K (h₀:=X.base) I.ok.mod.kin hk (ee (ha pos pins s σ H _ I h) fun us s1 ⟨vs,H1,I1,r,q⟩=>⟨I1.xD,?_⟩) he kx
 exact B6 F hr hb hd hx I1 r q
theorem DC{pl:Sem Bool}(he:PE X o ta)(c:vE X.K C)(hm:Meth X.K C m f)(F:gR X.prog X.w X.K X.mg X.base CX k f fd ps sp)(hr:dR k X.A)(hb:Binds X.K fd ps ds)(hd:Vals ua ds)(hx:Passes CX X E)(ha:PA X (e ::es) t)
 (Cv:starEach (e ::es) X.env=(false,eval e X.env) ::starEach es X.env:=by rfl) (kx:(backTo pos (starEach es X.env)).any (·.1)=false:=by rfl)
 (ht:eval (.Call (.Attribute o m apos) (e ::es) [] pos) X.env=(do
   let ov <-eval o X.env
   standAt apos.atName
   let(f,first) <-holding [ov] (getMethod ov m pl)
   callWith pos f first (backTo pos (starEach (e ::es) X.env)) (backToKw pos (keywordEach [] X.env))):=by rfl) :
 PE X (.Call (.Attribute o m apos) (e ::es) [] pos) (Jo C m sp ua E ta t):=by
 intro pins s σ H Q I h;refine PySem.W.methodCall_KW (pl:=pl) (ee (he pins s σ H _ I h) fun u s1 ⟨x,H1,I1,rx,a,dx,fs,ex,ea,l,q⟩=>?_) ht
 subst ex;obtain rfl:u=Value.ref a:=rx;refine vS I1 ea c hm l ?_;refine PySem.W.callWith_K (first:=[.ref a]) (h₀:=X.base) I.ok.mod.kin hm.kp (ee (ha pos pins s1 σ H1 _ I1 q) fun us s2 ⟨vs,H2,I2,r,q2⟩=>⟨I2.xD,?_⟩) Cv kx
 exact B6 (us:= .ref a ::us) (vs:= .ref a ::vs) F hr hb hd hx I2 (.cons rfl r) q2
structure Mk (K:W.Frag) (C f:Addr):Prop where
 makes:PySem.W.makesIn K C=true
 init:PySem.W.findIn K (.ref C) "__init__"=some (some (.ref f))
 fn:PySem.W.isFn K (.ref f)=true
 kp:PySem.W.keepIn K (.ref C)=true
theorem BF{pins:Rn}{σ:St}{H:Hp}{s:Shared}{Q:VK}{us:List Value}{vs:List V}(M:Mk X.K C f)(F:gR X.prog X.w X.K X.mg X.base CX k f fd ps sp)(hr:dR (k+1) X.A)(hb:Binds X.K fd ps ds)(hd:Vals ua ds)
 (hx:Passes CX X E) (I:Inv X pins σ H s) (r:Vals vs us)
 (h:∀x dx,H x=none->H dx=none->dx≠x->sp (.ref x ::(vs++ua)) (upd (upd H dx (.own x)) x (.ins C dx [])) (fun v H2=>v= .cz/\Q (.ref x) H2) E) :
 wpAny (model X.prog X.w) X.A (call (.ref C) us) (EP X pins σ Q) X.xe s:=by
 have hq:=h (s.heap.objs.size+1) s.heap.objs.size (I.hok.fresh (Nat.le_succ _)) (I.hok.fresh (Nat.le_refl _)) (Nat.ne_of_lt (Nat.lt_succ_self _));have I2:=Inv.made (C:=C) I;have r2:Vals (V.ref (s.heap.objs.size+1) ::(vs++ua)) (Value.ref (s.heap.objs.size+1) ::(us++ds)):= .cons rfl (r.append hd);have hl:(Value.ref (s.heap.objs.size+1) ::us++ds).length=ps.length:=by
  have e:=r2.length;rw[F.len _ _ _ _ hq] at e;exact e.symm
 refine wpAny_call (Ai (f:=f) I.xD M.makes M.init (beq_iff_eq.mp M.fn) (codeAny_mono (F.run _ X.stack _ _ ⟨Value.ref (s.heap.objs.size+1) ::us,[]⟩ (Value.ref (s.heap.objs.size+1) ::(us++ds)) _ _ E (hr.make C us [])
  (I2.I_.make C us []) (hb _ (Value.ref (s.heap.objs.size+1) ::us) I2.xD hl) r2 hq) fun r s' J6=>?_))
 cases r with
 | error e=>exact hx pins σ _ _ e s' I2 J6
 | ok fl=>
   cases fl with
   | ret u=>
     obtain⟨v,H',I3,rv,ev,q3⟩:=I2.after J6;subst ev;exact⟨rv,⟨V.ref (s.heap.objs.size+1),H',I3,rfl,q3⟩⟩
   | next=>exact False.elim J6
   | brk=>exact False.elim J6
   | cont=>exact False.elim J6
theorem DU(M:Mk X.K C f)(F:gR X.prog X.w X.K X.mg X.base CX k f fd ps sp)(hr:dR (k+1) X.A)(hg:Gl X x)(hm:X.mg x=some (.ref C))(hb:Binds X.K fd ps ds)(hd:Vals ua ds)(hx:Passes CX X E)
 (ha:PA X (e ::es) t) (oA:(x==("__debug__":Str))=false:=by decide) (he:starEach (e ::es) X.env=(false,eval e X.env) ::starEach es X.env:=by rfl) (kx:(backTo pos (starEach es X.env)).any (·.1)=false:=by rfl) :
 PE X (.Call (.Name x p) (e ::es) [] pos) (Ii C sp ua E t):=by
 intro pins s σ H Q I h;refine wpAny_Call_Name_kw (yi I hg hm ?_ oA);refine PySem.W.callWith_K (h₀:=X.base) I.ok.mod.kin M.kp (ee (ha pos pins s σ H _ I h) fun us s1 ⟨vs,H1,I1,r,q⟩=>⟨I1.xD,?_⟩) he kx
 exact BF M F hr hb hd hx I1 r q
end
def PK(X:Cx)(Nv:List Keyword)(t:TA):Prop:=
 ∀(pos:Pos) (pins:Rn) (s:Shared) (σ:St) (H:Hp) (Q:List V->Hp->Prop),Inv X pins σ H s->t σ H Q->wpAny (model X.prog X.w) X.A (evalAll ((backToKw pos (keywordEach Nv X.env)).map (·.2))) (AP X pins σ Q) X.xe s
section
variable {X:Cx} {CX:zT} {k:Nat} {f C:Addr} {fd:FuncData} {ps ks:List Str} {sp:Sp} {E:XK} {x m:Str} {p pos apos PL:Pos} {e o:Expr} {es:List Expr} {Nv:List Keyword} {te ta:TE} {t tk:TA} {nm:Option Str}
structure KW (K:W.Frag) (fd:FuncData) (ps ks:List Str) (g:List Value->List Value->List Value) (gV:List V->List V->List V):Prop where
 to:∀(s:Shared) (us ws:List Value),K.In s.heap->(g us ws).length=ps.length->BindsTo s fd ⟨us,ks.zip ws⟩ (ps.zip (g us ws))
 rel:∀{vs:List V} {us:List Value} {zs:List V} {ws:List Value},Vals vs us->Vals zs ws->Vals (gV vs zs) (g us ws)
def Lj(sp:Sp)(gV:List V->List V->List V)(E:XK)(t tk:TA):TE:=fun σ H Q=>t σ H fun vs H1=>tk σ H1 fun zs H2=>sp (gV vs zs) H2 Q E
variable {g:List Value->List Value->List Value} {gV:List V->List V->List V}
end
structure aX (N P:List Str) (sc:Scope):Prop where
 kind:sc.kind= .function
 co:sc.isCoroutine=false
 gen:sc.isGenerator=false
 nd:N.Nodup
 pre:N.take P.length=P
 par:∀x∈P,sc.names.lookup x=some .local\/sc.names.lookup x=some .cell
 nofree:∀y∈sc.names,y.2≠ .free
theorem rj{kindOf:Str->Option NameKind}:∀{binds:List (Str × Value)} {m:Rt},(∀v,(x,v) ∉ binds)->bindL kindOf binds m x=m x
 | [],_,_=>rfl
 | (n,v) ::r,m,h=>by
   unfold bindL;rw[rj fun w hw=>h w (List.mem_cons_of_mem _ hw)]
   split
   .have:x≠n:=by rintro rfl;exact h v List.mem_cons_self
    simp [this]
   .rfl
theorem rQ{kindOf:Str->Option NameKind}:∀{binds:List (Str × Value)} {m:Rt},(∀v,(x,v) ∉ binds)->bindC kindOf binds m x=m x
 | [],_,_=>rfl
 | (n,v) ::r,m,h=>by
   unfold bindC;rw[rQ fun w hw=>h w (List.mem_cons_of_mem _ hw)]
   split
   .rfl
   .have:x≠n:=by rintro rfl;exact h v List.mem_cons_self
    simp [this]
theorem r9{kindOf:Str->Option NameKind}{v:Value}:∀{P:List Str} {vs:List Value} {i:Nat} {m:Rt},P.Nodup->P[i]? =some x->vs[i]? =some v->kindOf x=some .local->
 bindL kindOf (P.zip vs) m x=some v
 | [],_,_,_,_,h,_,_=>by simp at h
 | _ ::_,[],_,_,_,_,h,_=>by simp at h
 | p ::P,w ::vs,0,m,nd,h1,h2,hk=>by
   simp at h1 h2;subst h1;subst h2;show bindL kindOf ((p,w) ::P.zip vs) m p=_;unfold bindL;rw[rj fun v hv=>(List.nodup_cons.mp nd).1 (List.of_mem_zip hv).1,if_pos hk]
   simp
 | p ::P,w ::vs,i+1,m,nd,h1,h2,hk=>by
   show bindL kindOf ((p,w) ::P.zip vs) m x=_;unfold bindL;exact r9 (i:=i) (List.nodup_cons.mp nd).2 (by simpa using h1) (by simpa using h2) hk
theorem se{kindOf:Str->Option NameKind}{v:Value}:∀{P:List Str} {vs:List Value} {i:Nat} {m:Rt},P.Nodup->P[i]? =some x->vs[i]? =some v->kindOf x≠some .local->
 bindC kindOf (P.zip vs) m x=some v
 | [],_,_,_,_,h,_,_=>by simp at h
 | _ ::_,[],_,_,_,_,h,_=>by simp at h
 | p ::P,w ::vs,0,m,nd,h1,h2,hk=>by
   simp at h1 h2;subst h1;subst h2;show bindC kindOf ((p,w) ::P.zip vs) m p=_;unfold bindC;rw[rQ fun v hv=>(List.nodup_cons.mp nd).1 (List.of_mem_zip hv).1,if_neg hk]
   simp
 | p ::P,w ::vs,i+1,m,nd,h1,h2,hk=>by
   show bindC kindOf ((p,w) ::P.zip vs) m x=_;unfold bindC;exact se (i:=i) (List.nodup_cons.mp nd).2 (by simpa using h1) (by simpa using h2) hk
def start(N:List Str)(vs:List V):St:=vs.map some++List.replicate (N.length - vs.length) none
def pI(CX:zT)(P:Program)(w:World)(K:W.Frag)(mg:Rt)(base:Heap)(N:List Str)(qual:Str)(scope:Scope)(f:Addr)(cd:Value)(A:Around)(outer:List Env)(s:Shared)(H:Hp)(E:XK):Cx where
 prog:=P
 w:=w
 K:=K
 mg:=mg
 base:=base
 A:=A.deeper (envOfC qual scope s.heap.objs.size f cd)
 N:=N
 s₀:=s
 H₀:=H
 env:=envOfC qual scope s.heap.objs.size f cd
 outer:=outer
 stack:=envOfC qual scope s.heap.objs.size f cd ::outer
 ex:=[]
 calm:=true
 fn:=fun _=>true
 pn:=[]
 xe:=fun e s'=>wpAny (model P w) (A.deeper (envOfC qual scope s.heap.objs.size f cd)) (leaving (envOfC qual scope s.heap.objs.size f cd) e) (fun _ LU=>CX outer H s E e LU) (fun e' LU=>CX outer H s E e' LU) s'
theorem pP{sc:Scope}{n:Nat}(h:sc.names.lookup x=some .cell):∃c,(cellsFrom n sc.names []).lookup x=some c:=by
 have q:=PySem.W.cellsFrom_some sc.names n [] (.inl h);exact Option.isSome_iff_exists.mp q
theorem y8{CX:zT}{P:Program}{w:World}{K:W.Frag}{mg:Rt}{base:Heap}{N ps:List Str}{qual:Str}{scope:Scope}{f:Addr}{cd:Value}{A:Around}{outer:List Env}{s s1:Shared}{H:Hp}{E:XK}{us:List Value}{vs:List V}
 (S:aX N ps scope) (hd:A.handled=none) (e0:vV P w K mg base A outer s H) (hl:vs.length=ps.length) (r:Vals vs us)
 (x:InCallC s s.heap.objs.size (bindL (envOfC qual scope s.heap.objs.size f cd).kindOf (ps.zip us) fun _=>none) (cellsFrom (s.heap.objs.size+1) scope.names []) (bindC (envOfC qual scope s.heap.objs.size f cd).kindOf (ps.zip us) fun _=>none) s1) :
 Inv (pI CX P w K mg base N qual scope f cd A outer s H E) [] (start N vs) H s1:=by
 have kx:ps.length<=N.length:=by have:=congrArg List.length S.pre;rw [List.length_take] at this;omega
 obtain⟨h1,tk,rfl,hk⟩:=x.done;have noA:∀b:Addr,b ∉ (pI CX P w K mg base N qual scope f cd A outer s H E).ex:=fun b z=>absurd (show b∈([]:List Addr) from z) (by simp)
 refine⟨⟨e0.mod,S.kind,rfl,rfl,Nat.le_refl _,fun y z c h1 h2=>?_,fun y hy=>?_,fun y c _ h=>?_,fun _=>hd,Around.frames_deeper e0.frames, .inr ⟨rfl,rfl⟩,fun b z=>absurd z (noA b),e0.bs,e0.bsz,fun b _ _=>noA b,fun b z=>absurd z (noA b),e0.o5,e0.frf⟩,
  rfl,e0.bare,Un.kept hk,⟨_,x.toInCall.ns,fun i y v h1 h2 h3=>?_⟩,fun y c h=>⟨_,x.cell y c h⟩,e0.hok.fresh (Nat.le_refl _),fun y c h=>?_,fun p hp=>absurd (show p∈([]:Rn) from hp) (by simp),e0.hok.kept hk,?_⟩
 .exact name_of_addr x.apart (PySem.mem_of_lookup h1) (PySem.mem_of_lookup h2)
 .have hy:scope.names.lookup y=some .cell\/scope.names.lookup y=some .free:=hy;rcases hy with hy | hy
  .exact pP hy
  .exact absurd rfl (S.nofree _ (PySem.mem_of_lookup hy))
 .exact Nat.le_of_lt (x.above y c (PySem.mem_of_lookup h))
 .have hi:i < vs.length:=by
   unfold start at h2;by_cases hi:i < vs.length
   .exact hi
   .rw [List.getElem?_append_right (by simpa using hi)] at h2
    rw[List.getElem?_replicate] at h2;split at h2 <;> cases h2
  have ha:vs[i]? =some v:=by
   unfold start at h2;rw[List.getElem?_append_left (by simpa using hi),List.getElem?_map] at h2
   cases e:vs[i]? with
   | none=>rw [e] at h2;cases h2
   | some a=>rw [e] at h2;cases h2;rfl
  obtain⟨u,hu,rv⟩:=r.get ha;have hp:ps[i]? =some y:=by
   rw[<-S.pre,List.getElem?_take_of_lt (by omega)];exact h1
  have ndP:ps.Nodup:=by rw[<-S.pre];exact S.nd.sublist (List.take_sublist _ _)
  refine⟨u,rv,?_⟩;rcases S.par y (List.mem_of_getElem? hp) with k | k
  .exact .inl ⟨k,r9 ndP hp hu k⟩
  .obtain⟨c,e⟩:=pP (n:=s.heap.objs.size+1) k;refine .inr ⟨.inl k,c,e,?_⟩;have q:=x.cell y c e;rw[se ndP hp hu (by show scope.names.lookup y≠_;rw [k];decide)] at q
   exact q
 .exact e0.hok.fresh (Nat.le_of_lt (x.above y c (PySem.mem_of_lookup h)))
 .unfold start;show _=N.length;rw[List.length_append,List.length_map,List.length_replicate];omega
theorem IZ{CX:zT}{P:Program}{w:World}{K:W.Frag}{mg:Rt}{base:Heap}{k:Nat}{f:Addr}{name qual:Str}{params:Arguments}{body:List Stmt}{scope:Scope}{dV kV doc pm dC ct oc:Value}{an od:Option Addr}
 {CJ:Array (Option Value)} {N ps:List Str} {sp:Sp} (lk:K.lookup f=some ⟨oc,od, .func (PySem.W.fnOf name qual params body scope dV kV doc pm an dC ct),CJ⟩) (pb:PySem.W.codeIn K dC qual=true) (S:aX N ps scope)
 (len:∀vs H Q E,sp vs H Q E->vs.length=ps.length)
 (jL:∀(A:Around) (outer:List Env) (s:Shared) (H:Hp) (vs:List V) (Q:VK) (E:XK),dR k (A.deeper (envOfC qual scope s.heap.objs.size f dC))->sp vs H Q E->
   ∃t,ud (pI CX P w K mg base N qual scope f dC A outer s H E) body t/\t {nx:=fun _ H'=>Q .cz H',rt:=Q} (start N vs) H) :
 gR P w K mg base CX (k+1) f (PySem.W.fnOf name qual params body scope dV kV doc pm an dC ct) ps sp:=by
 refine⟨len,fun A outer s H args us vs Q E hr e0 hb r HU=>?_⟩
 have hl:=len _ _ _ _ HU;have KX:K.In s.heap:=e0.mod.kin.keeps fun b o e=>(e0.bs b o e).1
 have lim:s.heap.NoLimit:=e0.mod.nolimit.keeps fun b o e=>(e0.bs b o e).1
 have hkind:∀y∈ps.zip us,scope.names.lookup y.1=some .local\/(scope.names.lookup y.1=some .cell/\((cellsFrom (s.heap.objs.size+1) scope.names []).lookup y.1).isSome=true):=fun⟨n,v⟩ hy=>by
  rcases S.par n (List.of_mem_zip hy).1 with q | q
  .exact .inl q
  .exact .inr ⟨q,PySem.W.cellsFrom_some _ _ _ (.inl q)⟩
 refine codeAny_call_function hr.depth (KX _ _ lk) rfl S.co S.gen rfl (PySem.W.codeRec_of KX pb) (hb _ _ _ _ ?_);refine wpAny_newFunctionEnv_cells S.kind hkind fun env he s1 x=>?_
 subst he;refine⟨lim.keeps x.toInCall.keep,codeAny_func ?_⟩;obtain⟨t,ht,hq⟩:=jL A outer s H vs Q E (hr.deeper _) HU;have I:Inv (pI CX P w K mg base N qual scope f dC A outer s H E) [] (start N vs) H s1:=y8 S hr.hd e0 hl r x;refine wpAny_mono (ht [] s1 (start N vs) H _ I hq) (fun fl s' hs=>?_) fun e s' hs=>hs
 have fin:∀{cX:St} {H':Hp} {v:V} {u:Value},Inv (pI CX P w K mg base N qual scope f dC A outer s H E) [] cX H' s'->RelV v u->Q v H'->CE outer P w H s Q u s':=
  fun {cX H' v u} J rv q=>⟨v,H',J.os,J.bare,J.base,J.hok,rv,q⟩
 cases fl with
 | ret u=>
   obtain⟨v,cX,H',J,rv,q⟩:=hs;exact fin J rv q
 | next=>
   obtain⟨cX,H',J,q⟩:=hs;exact fin (v:=V.cz) (u:=Value.none) J rfl q
 | brk=>
   obtain⟨_,_,_,q⟩:=hs;exact False.elim q
 | cont=>
   obtain⟨_,_,_,q⟩:=hs;exact False.elim q
section
variable {X:Cx} {x:Str} {p pos:Pos} {e:Expr} {es:List Expr} {t:TA} {id T:String} {r:List V->Hp->VK->Prop}
def MS(r:List V->Hp->VK->Prop)(t:TA):TE:=fun σ H Q=>t σ H fun vs H1=>r vs H1 Q
theorem Ay(hc:lW X (.builtin id) r)(hg:Gl X x)(hm:X.mg x=none)(hv:bootBuiltins x=some (.builtin id))(ha:PA X (e ::es) t)(hn:x≠"__name__":=by decide)(oA:(x==("__debug__":Str))=false:=by decide)
 (he:starEach (e ::es) X.env=(false,eval e X.env) ::starEach es X.env:=by rfl) (kx:(backTo pos (starEach es X.env)).any (·.1)=false:=by rfl):PE X (.Call (.Name x p) (e ::es) [] pos) (MS r t):=by
 intro pins s σ H Q I h;refine wpAny_Call_Name_kw (kQ I hg hm hv ?_ hn oA);exact PyProof.Rows.callWith_builtin1 (ee (ha pos pins s σ H _ I h) fun us s1 ⟨vs,H1,I1,r1,q1⟩=>hc pins s1 σ H1 vs us Q I1 r1 q1) he kx
theorem zq(hc:lW X (.type T) r)(hg:Gl X x)(hm:X.mg x=none)(hv:bootBuiltins x=some (.type T))(ha:PA X (e ::es) t)(hn:x≠"__name__":=by decide)(oA:(x==("__debug__":Str))=false:=by decide)
 (he:starEach (e ::es) X.env=(false,eval e X.env) ::starEach es X.env:=by rfl) (kx:(backTo pos (starEach es X.env)).any (·.1)=false:=by rfl):PE X (.Call (.Name x p) (e ::es) [] pos) (MS r t):=by
 intro pins s σ H Q I h;refine wpAny_Call_Name_kw (kQ I hg hm hv ?_ hn oA);exact PyProof.Rows.callWith_type1 (ee (ha pos pins s σ H _ I h) fun us s1 ⟨vs,H1,I1,r1,q1⟩=>hc pins s1 σ H1 vs us Q I1 r1 q1) he kx
end
section
variable {κ:Type} [DecidableEq κ]
def lJ(aP:List (κ × V))(k:κ):Option V:=(aP.find? fun kv=>decide (kv.1=k)).map (·.2)
def putK(aP:List (κ × V))(k:κ)(v:V):List (κ × V):=
 if(aP.any fun kv=>decide (kv.1=k))=true then aP.map (fun kv=>if kv.1=k then(kv.1,v) else kv) else aP++[(k,v)]
def BJ(aP:List (κ × V))(k:κ):List (κ × V):=aP.filter fun kv=>decide (kv.1≠k)
theorem uI{p:κ × V}{r:List (κ × V)}{k:κ}(e:p.1=k):lJ (p ::r) k=some p.2:=by simp [lJ,List.find?_cons,e]
theorem vh{p:κ × V}{r:List (κ × V)}{k:κ}(e:¬p.1=k):lJ (p ::r) k=lJ r k:=by simp [lJ,List.find?_cons,e]
theorem uV(aP:List (κ × V))(k:κ)(v:V):(putK aP k v).length<=aP.length+1:=by
 unfold putK;split
 .rw [List.length_map];omega
 .rw [List.length_append,List.length_cons,List.length_nil];omega
theorem nc.getD{o:Option V}{u:Option Value}{d:V}{d':Value}(r:nc o u)(rd:RelV d d'):RelV (o.getD d) (u.getD d'):=by
 cases o with
 | none=>cases u with
   | none=>exact rd
   | some _=>exact(show False from r).elim
 | some _=>cases u with
   | none=>exact(show False from r).elim
   | some _=>exact r
theorem KV.val{aP:List (κ × V)}{vs:List (κ × Value)}(r:KV aP vs)(k:κ):nc (lJ aP k) (valueAt vs k):=by
 unfold KV at r
 induction r with
 | nil=>exact True.intro
 | @cons p q ps qs h t ih=>
   obtain⟨h1,h2⟩:=h;by_cases e:p.1=k
   .have e':q.1=k:=h1.symm.trans e;have b:valueAt (q ::qs) k=some q.2:=by simp [valueAt,List.find?_cons,e']
    rw[uI e,b];exact h2
   .have e':¬q.1=k:=fun z=>e (h1.trans z)
    have b:valueAt (q ::qs) k=valueAt qs k:=by simp [valueAt,List.find?_cons,e']
    rw[vh e,b];exact ih
theorem KV.any{aP:List (κ × V)}{vs:List (κ × Value)}(r:KV aP vs)(k:κ):(aP.any fun kv=>decide (kv.1=k))=vs.any fun kv=>decide (kv.1=k):=by
 unfold KV at r
 induction r with
 | nil=>rfl
 | cons h t ih=>rw [List.any_cons,List.any_cons,ih,h.1]
theorem KV.LB{aP:List (κ × V)}{vs:List (κ × Value)}(r:KV aP vs)(k:κ){y:V}{u:Value}(ry:RelV y u) :
 KV (aP.map fun kv=>if kv.1=k then(kv.1,y) else kv) (vs.map fun kv=>if kv.1=k then(kv.1,u) else kv):=by
 unfold KV at r ⊢
 induction r with
 | nil=>exact .nil
 | @cons p q ps qs h t ih=>
   rw[List.map_cons,List.map_cons];refine .cons ?_ ih;obtain⟨h1,h2⟩:=h;by_cases e:p.1=k
   .rw [if_pos e,if_pos (h1.symm.trans e)];exact⟨h1,ry⟩
   .rw [if_neg e,if_neg (fun z=>e (h1.trans z))];exact⟨h1,h2⟩
theorem KV.put{aP:List (κ × V)}{vs:List (κ × Value)}(r:KV aP vs)(k:κ){y:V}{u:Value}(ry:RelV y u):KV (putK aP k y) (stored vs k u):=by
 unfold putK stored;rw[r.any k];by_cases e:(vs.any fun kv=>decide (kv.1=k))=true
 .rw [if_pos e,if_pos e];exact r.LB k ry
 .rw [if_neg e,if_neg e];exact Paired.snoc r ⟨rfl,ry⟩
end
theorem z7{k:Key}{u:Value}(r:RelV (kV k) u):(cU P w).is k u=true:=by
 cases k with
 | inl i=>obtain⟨t,e⟩:=(show ∃t,u=Value.int i t from r);subst e;exact uF P w i t
 | inr x=>obtain⟨t,e⟩:=(show ∃t,u=Value.str x t from r);subst e;exact vb P w x t
theorem rn:∀{ks:List Key} {us:List Value},Vals (ks.map kV) us->ItemsAre (cU P w) ks us
 | [],_,r=>by rw[List.map_nil] at r;cases r;exact .nil
 | k ::ks,_,r=>by
   rw[List.map_cons] at r;cases r with
   | cons h t=>exact .cons (z7 h) (rn t)
abbrev KT(H:Hp):List (List Key × V)->List (List Key × Addr × Value)->Prop:=Paired fun p q=>p.1=q.1/\H q.2.1=some (.tup (p.1.map kV))/\RelV p.2 q.2.2
theorem KT.val{aP:List (List Key × V)}{xs:List (List Key × Addr × Value)}(r:KT H aP xs)(k:List Key):nc (lJ aP k) ((atKey xs k).map (·.2)):=by
 induction r with
 | nil=>exact True.intro
 | @cons p q ps qs h t ih=>
   obtain⟨h1,_,h2⟩:=h;by_cases e:p.1=k
   .have e':q.1=k:=h1.symm.trans e;have b:atKey (q ::qs) k=some q.2:=by simp [atKey,List.find?_cons,e']
    rw[uI e,b];exact h2
   .have e':¬q.1=k:=fun z=>e (h1.trans z)
    have b:atKey (q ::qs) k=atKey qs k:=by simp [atKey,List.find?_cons,e']
    rw[vh e,b];exact ih
section
variable {P:Program} {w:World} {H:Hp} {h:Heap} {a:Addr}
theorem EG{u:HO}(ok:lQ P w H h)(e:Rd H a u):ef P w H h a u:=e.ok ok
theorem Am{aP:List (Key × V)}(ok:lQ P w H h)(e:Rd H a (.dK aP)):aP.length<=sizeLine/\(a==sysModules)=false/\∃vs,KV aP vs/\h.DictOf (cU P w) a vs:=
 show ef P w H h a (.dK aP) from EG ok e
theorem H_{aP:List (Key × V)}(ok:lQ P w H h)(e:H a=some (.dK aP)):aP.length<=sizeLine/\(a==sysModules)=false/\∃vs,KV aP vs/\h.DictOf (cU P w) a vs:=Am ok (.inl e)
theorem BZ{ks:List Key}(ok:lQ P w H h)(e:H a=some (.tup (ks.map kV))):(tupleKind (cU P w)).is h ks a:=by
 obtain⟨_,its,r,o,h1,h2,n,h3⟩:=(show ef P w H h a (.tup (ks.map kV)) from ok a _ e)
 exact⟨o,its.toArray,n,h1,h2,h3,by simpa using rn r⟩
theorem EO{aP:List (List Key × V)}(ok:lQ P w H h)(e:Rd H a (.dT aP)):aP.length<=sizeLine/\(a==sysModules)=false/\
 ∃xs,KT H aP xs/\h.DictOfH (tupleKind (cU P w)) a xs:=by
 obtain⟨z,y,xs,r,o,es,ep,h1,h2,h3,h4,h5⟩:=(show ef P w H h a (.dT aP) from EG ok e)
 refine⟨z,y,xs,r,o,es,ep,h1,h2,h3,h4,fun x hx=>?_,h5⟩
 have all:∀{l:List (List Key × V)} {m:List (List Key × Addr × Value)},KT H l m->∀x∈m,(tupleKind (cU P w)).is h x.1 x.2.1:=by
  intro l m q
  induction q with
  | nil=>intro x hx;exact nomatch hx
  | @cons p q ps qs hq t ih=>
    intro x hx;rcases List.mem_cons.mp hx with e | hx
    .subst e;exact BZ ok (by rw[<-hq.1];exact hq.2.1)
    .exact ih x hx
 exact all r x hx
end
def qV(H:Hp)(a:Addr)(y:V)(r:Option V):Prop:=
 (∃aP k,Rd H a (.dK aP)/\y=kV k/\r=lJ aP k)\/∃aP k b,Rd H a (.dT aP)/\y= .ref b/\H b=some (.tup (k.map kV))/\r=lJ aP k
def Jv(H:Hp)(a:Addr)(y v:V)(H':Hp):Prop:=
 (∃aP k,H a=some (.dK aP)/\y=kV k/\aP.length < sizeLine/\H'=upd H a (.dK (putK aP k v)))\/
 ∃aP k b,H a=some (.dT aP)/\y= .ref b/\H b=some (.tup (k.map kV))/\aP.length < sizeLine/\H'=upd H a (.dT (putK aP k v))
theorem qV.k{H:Hp}{a:Addr}{aP:List (Key × V)}{k:Key}(e:H a=some (.dK aP)):qV H a (kV k) (lJ aP k):= .inl ⟨aP,k, .inl e,rfl,rfl⟩
section
variable {X:Cx} {pins:Rn} {σ:St} {H:Hp} {s:Shared} {a:Addr} {y v:V} {u r:Value} {o:Option V} {A:Around} {E:Ro}
theorem Inv.big(I:Inv X pins σ H s):sysModules < s.heap.objs.size:=by
 have h:mainGlobals < s.heap.objs.size:=(I.mod.glob.keeps I.bk).lt;exact Nat.lt_trans (by decide) h
theorem DM{h':Heap}{t':Nat}{ob:HO}(I:Inv X pins σ H s)(mu:Il (H a))(hs:Heap.SameBut a s.heap h')(he:∃q,h'.get? a=some q)(new:ef X.prog X.w (upd H a ob) h' a ob) :
 Inv X pins σ (upd H a ob) {s with heap:=h',toks:=t'}:=
 I.write (x:=a) (e:=a) mu (.inl rfl) (fun b q hb z=>(hs.2 b hb).trans z) he new
theorem GH{H':Hp}{h':Heap}{aP:List (Key × V)}{vs:List (Key × Value)}(z:aP.length<=sizeLine)(hd:(a==sysModules)=false)(rel:KV aP vs)(dd:h'.DictOf (cU P w) a vs) :
 ef P w H' h' a (.dK aP):=⟨z,hd,vs,rel,dd⟩
end
section
variable {X:Cx} {pins:Rn} {σ:St} {H:Hp} {s:Shared} {a:Addr} {aP:List (Key × V)} {k:Key} {u:Value} {A:Around} {E:Ro}
end
def OU(i:Expr):Prop:=∀ov iv,subscripted i false ov iv=operate [ov,iv] (getItem ov iv)
def MR(td ty:TE):TE:=fun σ H Q=>td σ H fun x H1=>ty σ H1 fun y H2=>∃a v,x= .ref a/\qV H2 a y (some v)/\Q v H2
def O5(ty td:TE):TE:=fun σ H Q=>ty σ H fun y H1=>td σ H1 fun x H2=>∃a o,x= .ref a/\qV H2 a y o/\Q (.bl o.isSome) H2
def Ki(ty td:TE):TE:=fun σ H Q=>ty σ H fun y H1=>td σ H1 fun x H2=>∃a o,x= .ref a/\qV H2 a y o/\Q (.bl (!o.isSome)) H2
def MG(td ty tv:TE):TS:=fun D σ H=>tv σ H fun v H1=>td σ H1 fun x H2=>ty σ H2 fun y H3=>∃a H4,x= .ref a/\Jv H3 a y v H4/\D.nx σ H4
def M7(td ty tv:TE)(rd:V->V->Hp->VK->Prop):TS:=fun D σ H=>td σ H fun x H1=>ty σ H1 fun y H2=>∃a v,x= .ref a/\qV H2 a y (some v)/\
 tv σ H2 fun y2 H3=>rd v y2 H3 fun z H4=>∃H5,Jv H4 a y z H5/\D.nx σ H5
def Mp(td ty:TE):TS:=fun D σ H=>td σ H fun x H1=>ty σ H1 fun y H2=>∃a aP k,x= .ref a/\H2 a=some (.dK aP)/\y=kV k/\(lJ aP k).isSome=true/\D.nx σ (upd H2 a (.dK (BJ aP k)))
section
variable {X:Cx} {o i e value:Expr} {pos pos' qG:Pos} {td ty tv:TE}
end
theorem zZ(h:Heap)(hb:sysModules < h.objs.size):ef P w H (h.push {cls:= .type "dict",data:= .dict #[]}) h.objs.size (.dK []):=
 ⟨Nat.zero_le _,beq_eq_false_iff_ne.mpr (Ne.symm (Nat.ne_of_lt hb)),[], .nil,Heap.DictOf.new h⟩
def Lk:TE:=fun _ H Q=>∀p,H p=none->Q (.ref p) (upd H p (.dK []))
def Lx:TE:=fun _ H Q=>∀p,H p=none->Q (.ref p) (upd H p (.dT []))
section
variable {X:Cx} {pos:Pos}
end
def nK:List (TE × TE)->St->Hp->(List (V × V)->Hp->Prop)->Prop
 | [],_,H,Q=>Q [] H
 | (tk,tv) ::r,σ,H,Q=>tk σ H fun x H1=>tv σ H1 fun y H2=>nK r σ H2 fun ps H3=>Q ((x,y) ::ps) H3
abbrev VV:List (V × V)->List (Value × Value)->Prop:=Paired fun p q=>RelV p.1 q.1/\RelV p.2 q.2
def GJ(X:Cx)(pos:Pos)(keys:List (Option Expr))(values:List Expr)(su:List (TE × TE)):Prop:=
 ∀(pins:Rn) (s:Shared) (σ:St) (H:Hp) (Q:List (V × V)->Hp->Prop),Inv X pins σ H s->nK su σ H Q->
  wpAny (model X.prog X.w) X.A (evalPairs (pairTrees keys values X.env pos)) (fun vs s'=>∃ps H',Inv X pins σ H' s'/\VV ps vs/\Q ps H') X.xe s
theorem xx{X:Cx}:GJ X pos [] [] []:=fun pins s σ H Q I h=>pairTrees_nil_walk ⟨[],H,I, .nil,h⟩
theorem ng{X:Cx}{ks:List (Option Expr)}{tk tv:TE}{su:List (TE × TE)}(hk:PE X k tk)(hv:PE X v tv)(hr:GJ X pos ks vs su) :
 GJ X pos (some k ::ks) (v ::vs) ((tk,tv) ::su):=fun pins s σ H Q I h=>
 pairTrees_cons_walk (ee (hk pins s σ H _ I h) fun u s1 ⟨x,H1,I1,rx,q1⟩=>ee (hv pins s1 σ H1 _ I1 q1) fun w2 s2 ⟨y,H2,I2,ry,q2⟩=>
  ee (hr pins s2 σ H2 _ I2 q2) fun ws s3 ⟨ps,H3,I3,rel,q3⟩=>⟨(x,y) ::ps,H3,I3, .cons ⟨rx,ry⟩ rel,q3⟩)
def jS(aP more:List (Key × V)):List (Key × V):=more.foldl (fun acc kv=>putK acc kv.1 kv.2) aP
theorem KV.merge:∀{more:List (Key × V)} {rs:List (Key × Value)} {aP:List (Key × V)} {vs:List (Key × Value)},KV more rs->KV aP vs->KV (jS aP more) (merged vs rs):=by
 intro more rs aP vs r;unfold KV at r
 induction r generalizing aP vs with
 | nil=>intro q;exact q
 | @cons p q ps qs h t ih=>
   intro r0;have e:KV (putK aP p.1 p.2) (stored vs q.1 q.2):=by
    have:=r0.put p.1 h.2;rw[<-h.1];exact this
   exact ih e
theorem lS:∀(more aP:List (Key × V)),(jS aP more).length<=aP.length+more.length
 | [],aP=>by show aP.length<=aP.length+0;omega
 | p ::r,aP=>by
   have h1:=lS r (putK aP p.1 p.2);have h2:=uV aP p.1 p.2;show(jS (putK aP p.1 p.2) r).length<=_;rw[List.length_cons];omega
theorem qd:∀{aP:List (Key × V)} {ws:List (Value × Value)},VV (aP.map fun kv=>(kV kv.1,kv.2)) ws->∃rs,Carries (cU P w) ws rs/\KV aP rs
 | [],_,r=>by rw[List.map_nil] at r;cases r;exact⟨[],True.intro, .nil⟩
 | p ::aP,_,r=>by
   rw[List.map_cons] at r;cases r with
   | @cons a b as bs h t=>
     obtain⟨rs,c,q⟩:=qd (P:=P) (w:=w) t;obtain⟨b1,b2⟩:=b;exact⟨(p.1,b2) ::rs,⟨z7 h.1,rfl,c⟩, .cons ⟨rfl,h.2⟩ q⟩
def zY(su:List (TE × TE)):TE:=fun σ H Q=>∀p,H p=none->nK su σ (upd H p (.dK [])) fun ps H2=>H2 p=some (.dK [])/\∃aP:List (Key × V),ps=aP.map (fun kv=>(kV kv.1,kv.2))/\aP.length<=15/\Q (.ref p) (upd H2 p (.dK (jS [] aP)))
theorem Ea{X:Cx}{pos:Pos}{keys:List (Option Expr)}{values:List Expr}{su:List (TE × TE)}(h:GJ X pos keys values su)(zH:keys.all (·.isSome)=true)(hl:keys.length=values.length)(h0:keys≠[])
 (Qh:keys.length<=15):PE X (.Dict keys values pos) (zY su):=by
 intro pins s σ H Q I q;have hn:=I.hok.fresh (Nat.le_refl s.heap.objs.size);have I1:=I.laid (a:=s.heap.objs.size) (o:= .dK []) (h':=s.heap.push {cls:= .type "dict",data:= .dict #[]}) (t':=s.toks) (fun _ _ q=>Heap.get?_push_of_some _ q) (Nat.le_refl _) (zZ s.heap I.big)
 refine wpAny_Dict_walk (knd:=cU X.prog X.w) zH hl h0 Qh (ee (h pins _ σ _ _ I1 (q _ hn)) fun ws s2 ⟨ps,H2,I2,rel,e,aP,ep,lk,q2⟩=>?_)
 subst ep;obtain⟨rs,c,rk⟩:=qd (P:=X.prog) (w:=X.w) rel;obtain⟨z,hd,Rh,r0,dd⟩:=H_ I2.hok e;cases r0;refine⟨rs,c,dd,fun h' NG hs=>⟨.ref s.heap.objs.size,_,?_,rfl,q2⟩⟩
 have hz:(jS [] aP).length<=sizeLine:=by
  have h1:=lS aP [];rw[List.length_nil] at h1;rw[sizeLine_eq];omega
 have he:∃q,h'.get? s.heap.objs.size=some q:=let⟨q,_,_,hq,_⟩:=NG;⟨q,hq⟩
 exact DM I2 (by rw[e];exact True.intro) hs he (GH hz hd (rk.merge .nil) NG)
structure M1 (X:Cx) (o:Expr) (m:Str) (apos:Pos) (e:Expr) (b_:Pos):Prop where
 base:attributeBase o m X.env (eval o X.env)=eval o X.env
 few:((backTo b_ (starEach [e] X.env)).all (fun x=>!x.1) && (backToKw b_ (keywordEach [] X.env)).all (fun x=>x.1.isSome)
  && decide (([e]:List Expr).length+([]:List Keyword).length+(if([]:List Keyword).isEmpty then 0 else 1) < 30))=true
 line:(apos.endLine==b_.line)=true
 trees:backTo b_ (starEach [e] X.env)=[(false,eval e X.env)]
structure M2 (X:Cx) (o:Expr) (m:Str) (apos:Pos) (e f:Expr) (b_:Pos):Prop where
 base:attributeBase o m X.env (eval o X.env)=eval o X.env
 few:((backTo b_ (starEach [e,f] X.env)).all (fun x=>!x.1) && (backToKw b_ (keywordEach [] X.env)).all (fun x=>x.1.isSome)
  && decide (([e,f]:List Expr).length+([]:List Keyword).length+(if([]:List Keyword).isEmpty then 0 else 1) < 30))=true
 line:(apos.endLine==b_.line)=true
 trees:backTo b_ (starEach [e,f] X.env)=[(false,eval e X.env),(false,eval f X.env)]
def IM(H:Hp)(a:Addr):Prop:=(∃aP,Rd H a (.dK aP))\/∃aP,Rd H a (.dT aP)
theorem Hi{X:Cx}{pins:Rn}{s:Shared}{a:Addr}(I:Inv X pins σ H s)(d:IM H a) :
 s.TypeIs (.ref a) "dict"/\(∀b,Value.ref a= .ref b->∃ob,s.heap.get? b=some ob/\ob.dict=none)/\(a==sysModules)=false:=by
 rcases d with⟨aP,e⟩ | ⟨aP,e⟩
 .obtain⟨_,hd,vs,_,dd⟩:=Am I.hok e;refine⟨dd.typeIs,fun b q=>?_,hd⟩
  cases q;obtain⟨ob,_,_,h1,h2,_⟩:=dd;exact⟨ob,h1,h2.2.1⟩
 .obtain⟨_,hd,xs,_,dd⟩:=EO I.hok e;refine⟨dd.typeIs,fun b q=>?_,hd⟩
  cases q;obtain⟨ob,_,_,h1,h2,_⟩:=dd;exact⟨ob,h1,h2.2.1⟩
section
variable {X:Cx} {pins:Rn} {σ:St} {H:Hp} {s:Shared} {a:Addr} {y d:V} {u r:Value} {o:Option V} {A:Around} {E:Ro}
theorem GL{Q:Ro}(hu:A.units+1 < cLine)(I:Inv X pins σ H s)(g:qV H a y o)(ry:RelV y u)(rd:RelV d r)(h:∀w' s',Inv X pins σ H s'->RelV (o.getD d) w'->Q w' s') :
 wpAny (model X.prog X.w) A (call (.builtin "dict.get") [.ref a,u,r]) Q E s:=by
 rcases g with⟨aP,k,e,ey,l⟩ | ⟨aP,k,b,e,ey,eb,l⟩
 .subst ey;obtain⟨z,hd,vs,rel,dd⟩:=Am I.hok e;refine call_meetsIn PySem.F.slot_dict_get dd.typeIs PySem.F.entry_dict_get (PySem.F.args_dict_get_3 _ _ _) (meets_dict_get_default (cU X.prog X.w) a (z7 ry) hd r) ⟨_,dd.mapOf,h _ _ (I.tok _) ?_⟩;rw[l];exact(rel.val k).getD rd
 .subst ey;cases(show u=Value.ref b from ry)
  obtain⟨z,hd,xs,rel,dd⟩:=EO I.hok e;refine call_meetsIn PySem.F.slot_dict_get dd.typeIs PySem.F.entry_dict_get (PySem.F.args_dict_get_3 _ _ _) (meetsH_dict_get_default (tupleKind (cU X.prog X.w)) a b hd r) ⟨tupleKind_room_in1 hu,k,xs,BZ I.hok eb,dd,h _ _ (I.tok _) ?_⟩;rw[l];exact(rel.val k).getD rd
end
def Kw(td ty:TE):TE:=fun σ H Q=>td σ H fun x H1=>∃a,x= .ref a/\IM H1 a/\ty σ H1 fun y H2=>∃o,qV H2 a y o/\Q (o.getD .cz) H2
def Fq(td ty tx:TE):TE:=fun σ H Q=>td σ H fun x H1=>∃a,x= .ref a/\IM H1 a/\ty σ H1 fun y H2=>tx σ H2 fun z H3=>∃o,qV H3 a y o/\Q (o.getD z) H3
def KQ(td ty:TE):TE:=fun σ H Q=>td σ H fun x H1=>∃a,x= .ref a/\IM H1 a/\ty σ H1 fun y H2=>∃aP k v,H2 a=some (.dK aP)/\y=kV k/\lJ aP k=some v/\Q v (upd H2 a (.dK (BJ aP k)))
def Lo(td ty tx:TE):TE:=fun σ H Q=>td σ H fun x H1=>∃a,x= .ref a/\IM H1 a/\ty σ H1 fun y H2=>tx σ H2 fun z H3=>∃aP k,H3 a=some (.dK aP)/\y=kV k/\
 (∀v,lJ aP k=some v->Q v (upd H3 a (.dK (BJ aP k))))/\(lJ aP k=none->Q z H3)
section
variable {X:Cx} {o e f:Expr} {apos b_:Pos} {td ty tx:TE}
theorem Ae(hu:X.A.units+1 < cLine)(ho:PE X o td)(he:PE X e ty)(hf:PE X f tx)(m:M2 X o "get" apos e f b_):PE X (.Call (.Attribute o "get" apos) [e,f] [] b_) (Fq td ty tx):=by
 intro pins s σ H Q I h;refine wpAny_Call_method m.base m.few m.line PySem.F.plainAttrs_dict PySem.F.slot_dict_get PySem.F.type_dict_get (ee (ho pins s σ H _ I h) fun u s1 ⟨x,H1,I1,rx,a,ex,d,q1⟩=>?_)
 subst ex;obtain rfl:u=Value.ref a:=rx;obtain⟨t1,t2,_⟩:=Hi I1 d;refine⟨t1,t2,?_⟩;rw[m.trees];refine Calls.callWith_builtin rfl (Calls.evalArgs_plain (Calls.spliced_cons (ee (he pins s1 σ H1 _ I1 q1) fun iv s2 ⟨y,H2,I2,ry,q2⟩=>
  Calls.spliced_cons (ee (hf pins s2 σ H2 _ I2 q2) fun fv s3 ⟨z,H3,I3,rz,ov,g,q3⟩=>Calls.spliced_nil ?_))))
 exact GL hu I3 g ry rz fun w' s4 I4 CI=>⟨_,H3,I4,CI,q3⟩
end
section
variable {X:Cx} {pins:Rn} {σ:St} {H:Hp} {s:Shared} {a:Addr} {aP:List (Key × V)} {A:Around} {E:Ro}
end
section
variable {X:Cx} {pins:Rn} {σ:St} {H:Hp} {s:Shared} {a:Addr} {y:V} {u:Value} {A:Around} {E:Ro}
end
end L2
namespace HT
open PySem PyProof.Rows
def lexLt:List Int->List Int->Bool
 | [],[]=>false
 | [],_ ::_=>true
 | _ ::_,[]=>false
 | x ::xs,y ::ys=>if x=y then lexLt xs ys else decide (x < y)
theorem wb(x y:Int)(xs ys:List Int):lexLt (x ::xs) (y ::ys)=if x=y then lexLt xs ys else decide (x < y):=rfl
theorem q_:lexLt [] []=false:=rfl
theorem qx(y:Int)(ys:List Int):lexLt [] (y ::ys)=true:=rfl
theorem qz(x:Int)(xs:List Int):lexLt (x ::xs) []=false:=rfl
theorem A7(A:Around)(s:Shared)(a:Int)(t:Tok)(c:Int)(u:Tok):∃e,SeqAt.EqAt A s (.int a t) (.int c u) e/\(e=true↔a=c):=
 ⟨(a==c),SeqAt.EqAt.int_int a t c u,by simp⟩
theorem AB(A:Around)(s:Shared)(a:Int)(t:Tok)(c:Int)(u:Tok)(prog:Program)(w:World)(E:Ro)(Q:Ro)(h:Q (.bool (decide (a < c))) s) :
 wpAny (model prog w) A (richCompare .Lt (.int a t) (.int c u)) Q E s:=
 (PyProof.Rows.lt_int h:wpAny (model prog w) A (compareOp .Lt (.int a t) (.int c u)) Q E s)
section
open PySem.SeqAt
open PySem.AutoSeq1 (wpAny_loadPart')
open PySem.MeetsSeq PySem.MeetsSeq2 PySem.MeetsSeq3
theorem qT(l b:Addr)(items jc:Array Value)(n n2:Nat)(dd Fg:Option Addr)(sl CM:Array (Option Value))(ns ms:List Int)(hi:IntsAre items.toList ns)(hj:IntsAre jc.toList ms) :
 Meets (Builtin.«tuple.__lt__» ⟨[.ref l, .ref b],[]⟩)
  (fun _ R s=>s.heap.get? l=some {cls:= .type "tuple",dict:=dd,data:= .seq items n,slots:=sl}/\s.heap.get? b=some {cls:= .type "tuple",dict:=Fg,data:= .seq jc n2,slots:=CM}/\
    R (.ok (.ret (.bool (lexLt ns ms)))) s):=
 .of_wp fun prog w A R s h=>by
   obtain⟨hp,g,d,tk,os⟩:=s;obtain⟨hl,hb,h⟩:=h;have f2:=AutoSeq1.sub_tuple_tuple;have z1:items.size=ns.length:=by rw[<-hi.length];simp
   have z2:jc.size=ms.length:=by rw[<-hj.length];simp
   wp_walk using wpAny_loadPart' hl,wpAny_loadPart' hb,wpAny_forIn_list _ (fun rest b s'=>b.1=none/\s'=⟨hp,g,d,tk,os⟩/\∃(vs ws:List Value) (HW HZ:List Int),rest=vs.zip ws/\
    IntsAre vs HW/\IntsAre ws HZ/\HW.length+jc.size=HZ.length+items.size/\R (.ok (.ret (.bool (lexLt HW HZ)))) ⟨hp,g,d,tk,os⟩) _
   case turn=>
    rintro⟨y,x⟩ rest b s' ⟨qL,rfl,vs,ws,HW,HZ,hz,hvi,hwi,hlen,hR⟩;cases hvi with
    | nil=>rw [List.zip_nil_left] at hz;cases hz
    | cons a t LV=>
      cases hwi with
      | nil=>rw [List.zip_nil_right] at hz;cases hz
      | cons c u L9=>
        rw[List.zip_cons_cons] at hz;injection hz with hyx hrest
        injection hyx with hy hx
        subst hy hx;rw[wb] at hR;simp only[List.length_cons] at hlen;obtain⟨e,he,hiff⟩:=A7 A.in1 ⟨hp,g,d,tk,os⟩ a t c u;refine wpAny_bind (he prog w _ _ ?_);cases e with
        | true=>
          rw[if_pos (hiff.mp rfl)] at hR
          wp_walk
          exact⟨rfl,rfl,_,_,_,_,hrest,LV,L9,by omega,hR⟩
        | false=>
          rw[if_neg (fun q=>absurd (hiff.mpr q) Bool.false_ne_true)] at hR
          have hri:=AB A.in1 ⟨hp,g,d,tk,os⟩ a t c u prog w
          wp_walk using hri
          exact⟨_,rfl,by simpa using hR⟩
   case fin=>
    rintro⟨b1,b2⟩ s' ⟨qL,rfl,vs,ws,HW,HZ,hz,hvi,hwi,hlen,hR⟩;simp only at qL;subst qL;have hv:lexLt HW HZ=decide (items.size < jc.size):=by
     cases hvi with
     | nil=>
       cases hwi with
       | nil=>
         simp only[List.length_nil] at hlen;rw[q_];exact(decide_eq_false (by omega)).symm
       | cons c u hw=>
         simp only[List.length_nil,List.length_cons] at hlen;rw[qx];exact(decide_eq_true (by omega)).symm
     | cons a t hv=>
       cases hwi with
       | nil=>
         simp only[List.length_nil,List.length_cons] at hlen;rw[qz];exact(decide_eq_false (by omega)).symm
       | cons c u hw=>
         rw[List.zip_cons_cons] at hz;cases hz
    rw[hv] at hR
    wp_walk
    exact⟨_,rfl,by simpa [Builtin.Tuple.tupleCompareSizes] using hR⟩
   case h=>
    exact⟨rfl,rfl,items.toList,jc.toList,ns,ms,rfl,hi,hj,by omega,h⟩
end
section
variable {prog:Program} {w:World} {A:Around} {E:Ro} {s:Shared}
theorem vT{l b:Addr}{items jc:Array Value}{ns ms:List Int}{Q:Ro}(hl:IsTup s.heap l items)(hb:IsTup s.heap b jc)(hi:IntsAre items.toList ns)(hj:IntsAre jc.toList ms)
 (hu:A.units < cLine) (h:Q (.bool (lexLt ns ms)) s):wpAny (model prog w) A (compareOp .Lt (.ref l) (.ref b)) Q E s:=by
 obtain⟨⟨cls,dd,data,sl⟩,ho,hc,n,hd⟩:=id hl;obtain⟨⟨JN,Fg,data2,CM⟩,CL,ue,n2,hd2⟩:=id hb;simp only at hc hd ue hd2;subst hc hd ue hd2;exact richCompare_meets_room (op:= .Lt) ⟨_,ho,rfl⟩ ⟨_,CL,rfl⟩ PySem.F.slot_tuple_lt PySem.F.entry_tuple_lt (PySem.F.args_tuple_lt_2 _ _) (qT l b items jc n n2 dd Fg sl CM ns ms hi hj)
  ⟨ho,CL,show Value.bool (lexLt ns ms)≠Value.notImplemented/\Q (.bool (lexLt ns ms)) s from⟨(fun x=>nomatch x),h⟩⟩ hu
theorem Dx{t b:Addr}{vs ws:List Value}{Q:Ro}(ht:IsTup s.heap t vs.toArray)(hb:IsTup s.heap b ws.toArray)(hv:vs≠[])
 (h1:ws=[]->Q (.ref t) s) (h2:ws≠[]->Q (.ref s.heap.objs.size) {s with heap:=s.heap.push {cls:= .type "tuple",data:= .seq (vs++ws).toArray}})
 (vG:vs.length+ws.length<=sizeLine):wpAny (model prog w) A (binaryOp .Add (.ref t) (.ref b)) Q E s:=by
 obtain⟨⟨cls,dd,data,sl⟩,ho,hc,n,hd⟩:=id ht;obtain⟨⟨JN,Fg,data2,CM⟩,CL,ue,n2,hd2⟩:=id hb;simp only at hc hd ue hd2;subst hc hd ue hd2;have e:vs.toArray++ws.toArray=(vs++ws).toArray:=by simp
 by_cases hw:ws=[]
 .exact concat_meets ⟨_,ho,rfl⟩ ⟨_,CL,rfl⟩ noFill_tuple_add seq_tuple_add PySem.F.slot_tuple_add PySem.F.entry_tuple_add (PySem.F.args_tuple_add_2 _ _)
   (tuple_addW1 t b vs.toArray ws.toArray n n2 dd Fg sl CM (by simpa using hv) (by simp [hw])) ⟨ho,CL,h1 hw⟩
 .refine concat_meets ⟨_,ho,rfl⟩ ⟨_,CL,rfl⟩ noFill_tuple_add seq_tuple_add PySem.F.slot_tuple_add PySem.F.entry_tuple_add (PySem.F.args_tuple_add_2 _ _)
   (tuple_addW2 t b vs.toArray ws.toArray n n2 dd Fg sl CM (by simpa using hv) (by simpa using hw) (by rw[List.size_toArray,List.size_toArray];exact vG)) ⟨ho,CL,?_⟩
  rw[e];exact h2 hw
def pz(n d:Nat):Option Int->Nat
 | none=>d
 | some v=>if v < 0 then(v+(n:Int)).toNat else min v.toNat n
theorem Ca(n d:Nat):pz n d none=d:=rfl
theorem sS(n d k:Nat):pz n d (some (k:Int))=min k n:=by
 show(if(k:Int) < 0 then((k:Int)+(n:Int)).toNat else min (k:Int).toNat n)=min k n
 rw[if_neg (by omega),Int.toNat_natCast]
end
end HT
namespace L2
open PySem PySem.Spec PyProof.Rows
abbrev TO:=St->Hp->(Option Int->Hp->Prop)->Prop
def PO(X:Cx)(e:Option Expr)(t:TO):Prop:=
 ∀(pins:Rn) (s:Shared) (σ:St) (H:Hp) (Q:Option Int->Hp->Prop),Inv X pins σ H s->t σ H Q->
  wpAny (model X.prog X.w) X.A (evalPart e X.env) (fun u s'=>∃o H',Inv X pins σ H' s'/\IsPart u o/\Q o H') X.xe s
def DG:TO:=fun _ H Q=>Q none H
def Jt(t:TE):TO:=fun σ H Q=>t σ H fun x H1=>∃i,x= .int i/\Q (some i) H1
theorem intsAre_of{ns:List Int}:∀{us:List Value},Vals (ns.map V.int) us->IntsAre us ns:=by
 induction ns with
 | nil=>intro us r;rw [List.map_nil] at r;cases r;exact .nil
 | cons n ns ih=>
   intro us r;rw[List.map_cons] at r;cases r with
   | cons r1 r2=>
     obtain⟨t,e⟩:=r1;subst e;exact .cons n t (ih r2)
section
variable {X:Cx} {e:Expr} {te:TE} {lo hi:Option Expr} {tl th:TO} {pos p2:Pos}
theorem Dr:PO X none DG:=by
 intro pins s σ H Q I h;rw[evalPart_none];exact wpAny_pure ⟨none,H,I, .none,h⟩
theorem C1(h:PE X e te):PO X (some e) (Jt te):=by
 intro pins s σ H Q I hw;rw[evalPart_some];refine ee (h pins s σ H _ I hw) fun u s1 ⟨x,H1,I1,r1,q1⟩=>?_
 obtain⟨i,rfl,q⟩:=q1;obtain⟨t,rfl⟩:=r1;exact⟨some i,H1,I1, .int i t,q⟩
def G1(X:Cx)(r:V->Option Int->Option Int->Hp->VK->Prop):Prop:=
 ∀(pins:Rn) (s:Shared) (σ:St) (H:Hp) (x:V) (v vl vu:Value) (lo hi:Option Int) (sl:Addr) (Q:VK),Inv X pins σ H s->RelV x v->s.heap.IsSliceOf sl vl vu .none->IsPart vl lo->IsPart vu hi->r x lo hi H Q->
  ∃T id,typeLookup (.type T) "__getitem__"=pure (some (.builtin id))/\s.TypeIs v T/\wpAny (model X.prog X.w) X.A (getItem v (.ref sl)) (EP X pins σ Q) X.xe s
theorem G1.or{r r':V->Option Int->Option Int->Hp->VK->Prop}(h:G1 X r)(h':G1 X r'):G1 X (fun x lo hi H Q=>r x lo hi H Q\/r' x lo hi H Q):=by
 intro pins s σ H x v vl vu lo hi sl Q I rx hs pl pu q;rcases q with q | q
 .exact h pins s σ H x v vl vu lo hi sl Q I rx hs pl pu q
 .exact h' pins s σ H x v vl vu lo hi sl Q I rx hs pl pu q
def Oa(r:V->Option Int->Option Int->Hp->VK->Prop)(te:TE)(tl th:TO):TE:=fun σ H Q=>te σ H fun x H1=>tl σ H1 fun l H2=>th σ H2 fun u H3=>r x l u H3 Q
theorem A4{r:V->Option Int->Option Int->Hp->VK->Prop}(hr:G1 X r)(he:PE X e te)(hl:PO X lo tl)(hu:PO X hi th):PE X (.Subscript e (.Slice lo hi none p2) pos) (Oa r te tl th):=by
 intro pins s σ H Q I h;refine Subscript_ (ee (he pins s σ H _ I h) fun v s1 ⟨x,H1,I1,r1,q1⟩=>?_)
 refine wpAny_Slice (ee (hl pins s1 σ H1 _ I1 q1) fun vl s2 ⟨l,H2,I2,pl,q2⟩=>ee (hu pins s2 σ H2 _ I2 q2) fun vu s3 ⟨u,H3,I3,pu,q3⟩=>?_)
 rw[evalPart_none];refine wpAny_pure ?_;have I4:Inv X pins σ H3 {s3 with heap:=s3.heap.push {cls:= .type "slice",data:= .fields #[vl,vu, .none]}}:=I3.kept (t':=s3.toks) fun b ob q=>Heap.get?_push_of_some _ q
 obtain⟨T,id,hT,ht,hg⟩:=hr pins {s3 with heap:=s3.heap.push {cls:= .type "slice",data:= .fields #[vl,vu, .none]}} σ H3 x v vl vu l u s3.heap.objs.size Q I4 r1 (Heap.IsSliceOf.new ..) pl pu q3
 show wpAny (model X.prog X.w) X.A (subscriptTail e (.Slice lo hi none p2) v (.ref s3.heap.objs.size)) (EP X pins σ Q) X.xe {s3 with heap:=s3.heap.push {cls:= .type "slice",data:= .fields #[vl,vu, .none]}}
 exact tail_any (ops:=[.ref s3.heap.objs.size,v]) ht hT hg (by with_unfolding_all rfl)
def vJ(xs:List V)(lo hi:Option Int):List V:=(xs.drop (HT.pz xs.length 0 lo)).take (HT.pz xs.length xs.length hi - HT.pz xs.length 0 lo)
theorem uj(xs:List V)(lo hi:Option Int):(vJ xs lo hi).length<=xs.length:=by
 unfold vJ;rw[List.length_take,List.length_drop];omega
def Pd(K:W.Frag):V->Option Int->Option Int->Hp->VK->Prop:=fun x lo hi H Q=>∃a xs,x= .ref a/\oX K H a xs/\
 ¬(HT.pz xs.length 0 lo=0/\HT.pz xs.length xs.length hi=xs.length)/\∀p,H p=none->Q (.ref p) (upd H p (.tup (vJ xs lo hi)))
def OB(K:W.Frag):R2:=fun x y H Q=>∃a b ns ms,x= .ref a/\y= .ref b/\oX K H a (ns.map V.int)/\oX K H b (ms.map V.int)/\Q (.bl (HT.lexLt ns ms)) H
def Nh(K:W.Frag):R2:=fun x y H Q=>∃a b xs ys,x= .ref a/\y= .ref b/\oX K H a xs/\oX K H b ys/\xs≠[]/\xs.length+ys.length<=sizeLine/\
 (ys=[]->Q (.ref a) H)/\(ys≠[]->∀p,H p=none->Q (.ref p) (upd H p (.tup (xs++ys))))
end
def zI(n:Nat)(i:Int):Option Nat:=if 0<=i then(if i < n then some i.toNat else none) else if -(n:Int)<=i then some (i+n).toNat else none
def qu{α:Type}(xs:List α)(i:Int):Option α:=(zI xs.length i).bind fun j=>xs[j]?
theorem D0{n:Nat}{i:Int}{j:Nat}(h:zI n i=some j):seqIndex? i n=some j/\j < n/\ -(n:Int)<=i/\i < n:=by
 unfold zI at h;by_cases h0:0<=i
 .rw [if_pos h0] at h;by_cases h1:i < n
  .rw [if_pos h1] at h;have e:i.toNat=j:=Option.some.inj h;exact⟨by rw[seqIndex_of h0 h1,e],by omega,by omega,h1⟩
  .rw [if_neg h1] at h;cases h
 .rw [if_neg h0] at h;by_cases h1: -(n:Int)<=i
  .rw [if_pos h1] at h;have e:(i+n).toNat=j:=Option.some.inj h;exact⟨by rw[seqIndex_neg (by omega) h1,e],by omega,h1,by omega⟩
  .rw [if_neg h1] at h;cases h
theorem tM{α:Type}{xs:List α}{i:Int}{v:α}(h:qu xs i=some v):∃j,seqIndex? i xs.length=some j/\xs[j]? =some v/\j < xs.length/\ -(xs.length:Int)<=i/\i < xs.length:=by
 unfold qu at h;cases e:zI xs.length i with
 | none=>rw [e] at h;cases h
 | some j=>
   rw[e] at h;obtain⟨h1,h2,h3,h4⟩:=D0 e;exact⟨j,h1,h,h2,h3,h4⟩
def pe(b:Expr):Prop:=∀o i,subscripted b false o i=operate [o,i] (getItem o i)
def DP(X:Cx)(r:R2):Prop:=
 ∀(value slice:Expr) (pins:Rn) (s:Shared) (σ:St) (H:Hp) (x y:V) (v u:Value) (Q:VK),Inv X pins σ H s->RelV x v->RelV y u->r x y H Q->
  subscripted slice false v u=operate [v,u] (getItem v u)->wpAny (model X.prog X.w) X.A (subscriptTail value slice v u) (EP X pins σ Q) X.xe s
def NX(X:Cx)(id:String)(r:V->List V->Hp->VK->Prop):Prop:=
 ∀(pins:Rn) (s:Shared) (σ:St) (H:Hp) (x:V) (xs:List V) (v:Value) (us:List Value) (Q:VK),Inv X pins σ H s->RelV x v->Vals xs us->r x xs H Q->
  wpAny (model X.prog X.w) X.A (call (.builtin id) (v ::us)) (EP X pins σ Q) X.xe s
section
variable {X:Cx} {a b:Expr} {ta tb:TE} {pos:Pos}
theorem DP.or{r r':R2}(h:DP X r)(h':DP X r'):DP X (fun x y H Q=>r x y H Q\/r' x y H Q):=by
 intro value slice pins s σ H x y v u Q I rx ry q hs;rcases q with q | q
 .exact h value slice pins s σ H x y v u Q I rx ry q hs
 .exact h' value slice pins s σ H x y v u Q I rx ry q hs
theorem EZ{r:R2}(hr:DP X r)(ha:PE X a ta)(hb:PE X b tb)(hs:pe b):PE X (.Subscript a b pos) (HK r ta tb):=by
 intro pins s σ H Q I h;exact Subscript_ (Hc ha hb I h fun v u s2 x y H2 I2 rx ry q=>hr a b pins s2 σ H2 x y v u Q I2 rx ry q (hs _ _))
def IH(K:W.Frag):R2:=fun x y H Q=>∃p xs i v,x= .ref p/\y= .int i/\mG K H p xs/\qu xs i=some v/\Q v H
def Js(K:W.Frag):R2:=fun x y H Q=>∃p xs i v,x= .ref p/\y= .int i/\oX K H p xs/\qu xs i=some v/\Q v H
def IJ:R2:=fun x y H Q=>∃z i c,x= .str z/\y= .int i/\z.length<=sizeLine/\qu z.cps.toList i=some c/\Q (.str ⟨#[c]⟩) H
theorem Df:DP X (IH X.K):=by
 intro value slice pins s σ H x y v u Q I rx ry h hs;obtain⟨p,xs,i,z,rfl,rfl,hq,he,q⟩:=h;cases rx;obtain⟨t,rfl⟩:=ry;obtain⟨its,r,pl,hz⟩:=I.list hq;obtain⟨j,h1,h2,h3,h4,h5⟩:=tM he;obtain⟨w,ew,CI⟩:=r.get h2;have hl:=r.length;have hn:=qp;have fin:EP X pins σ Q w s:=⟨z,H,I,CI,q⟩;by_cases h0:0<=i
 .have hj:i.toNat=j:=by
   rw[seqIndex_of h0 h5] at h1;exact Option.some.inj h1
  exact item_listR pl.isList h0 (by omega) (by rw[hj];simpa using ew) fin hs
 .have hj:(i+(its.toArray.size:Int)).toNat=j:=by
   rw[seqIndex_neg (by omega) h4] at h1
   rw[List.size_toArray,<-hl];exact Option.some.inj h1
  exact subscriptTail_builtinR (x:=w) pl.isList.typeIs slot_list_getitem.lookup
   (wpAny_getItem_list_neg (Q:=fun r s'=>r=w/\EP X pins σ Q r s') pl.isList (by omega) (by rw[List.size_toArray] <;> omega) (by omega) (by rw[hj];simpa using ew) ⟨rfl,fin⟩) hs
theorem Fu:DP X (Js X.K):=by
 intro value slice pins s σ H x y v u Q I rx ry h hs;obtain⟨p,xs,i,z,rfl,rfl,hq,he,q⟩:=h;cases rx;obtain⟨t,rfl⟩:=ry;obtain⟨its,r,pl,hz⟩:=I.tuple hq;obtain⟨j,h1,h2,h3,h4,h5⟩:=tM he;obtain⟨w,ew,CI⟩:=r.get h2;have hl:=r.length;have hn:=qp;have fin:EP X pins σ Q w s:=⟨z,H,I,CI,q⟩;exact subscriptTail_builtinR (x:=w) pl.typeIs slot_tuple_getitem.lookup
  (getItem_tuple (j:=j) (Q:=fun r s'=>r=w/\EP X pins σ Q r s') pl (by omega) (by omega) (by rw[List.size_toArray,<-hl];exact h1) (by simpa using ew) ⟨rfl,fin⟩) hs
theorem FE:DP X IJ:=by
 intro value slice pins s σ H x y v u Q I rx ry h hs;obtain⟨z,i,c,rfl,rfl,hz,he,q⟩:=h;obtain⟨t,rfl⟩:=rx;obtain⟨t',rfl⟩:=ry;obtain⟨j,h1,h2,h3,h4,h5⟩:=tM he;have hl:z.cps.toList.length=z.length:=by simp [Str.length]
 rw[hl] at h1 h4 h5;have hn:=qp;exact tail_any (typeIs_str s z t) slot_str_getitem.lookup (getItem_str (c:=c) (by
  have e1:decide (i < -(2 ^ 63:Int))=false:=decide_eq_false (by omega)
  have e2:decide (i>=2 ^ 63)=false:=decide_eq_false (by omega)
  rw[e1,e2,Bool.or_false]) (by rw[h1];simpa using h2) ⟨.str ⟨#[c]⟩,H,I.tok _,⟨_,rfl⟩,q⟩) hs
def KG(K:W.Frag):R2:=fun x y H Q=>IH K x y H Q\/Js K x y H Q\/IJ x y H Q
theorem Bo:DP X (KG X.K):=Df.or (Fu.or FE)
def MC:V->V->V->Hp->(Hp->Prop)->Prop:=fun o i v H Q=>∃p xs k j,o= .ref p/\i= .int k/\H p=some (.lst xs)/\zI xs.length k=some j/\Q (upd H p (.lst (xs.set j v)))
theorem tU(lo hi:Option Int)(n:Nat):(sliceBounds lo hi none n).1=((HT.pz n 0 lo:Nat):Int)/\(sliceBounds lo hi none n).2.1=((HT.pz n n hi:Nat):Int)/\(sliceBounds lo hi none n).2.2=1:=by
 refine⟨?_,?_,rfl⟩
 .cases lo with
  | none=>simp [sliceBounds,HT.pz]
  | some i=>
    simp only[sliceBounds,HT.pz,Option.getD_none,show(1:Int) > 0 by decide,if_true]
    by_cases h:i < 0
    .simp only[h,if_true] <;> omega
    .simp only[h,if_false] <;> omega
 .cases hi with
  | none=>simp [sliceBounds,HT.pz]
  | some i=>
    simp only[sliceBounds,HT.pz,Option.getD_none,show(1:Int) > 0 by decide,if_true]
    by_cases h:i < 0
    .simp only[h,if_true] <;> omega
    .simp only[h,if_false] <;> omega
theorem rh(its:List Value)(lo hi:Option Int):slicePick its.toArray lo hi none=((its.drop (HT.pz its.length 0 lo)).take (HT.pz its.length its.length hi - HT.pz its.length 0 lo)).toArray:=by
 obtain⟨h1,h2,h3⟩:=tU lo hi its.toArray.size;unfold slicePick;rw[h1,h2,h3];simp only[sliceRange_one,pick_run,List.size_toArray] <;> rfl
def Ls(K:W.Frag):V->Option Int->Option Int->Hp->VK->Prop:=fun x lo hi H Q=>∃a xs,x= .ref a/\mG K H a xs/\∀p,H p=none->Q (.ref p) (upd H p (.lst (vJ xs lo hi)))
theorem DF:G1 X (Ls X.K):=by
 intro pins s σ H x v vl vu lo hi sl Q I rx hs pl pu h;obtain⟨a,xs,rfl,hx,q⟩:=h;cases rx;obtain⟨its,r,ht,hz⟩:=I.list hx;have hlen:=r.length;refine⟨"list",_,slot_list_getitem.lookup,ht.isList.typeIs,?_⟩;refine wpAny_getItem_list_slice ht.isList hs pl pu .none (by simp) ?_ (by rw[List.size_toArray] <;> omega)
 rw[rh,<-hlen];refine⟨.ref s.heap.objs.size,_,I.laid (t':=s.toks) (o:= .lst (vJ xs lo hi)) (fun b ob q=>Heap.get?_push_of_some _ q) (Nat.le_refl _) ?_,rfl,q _ (I.hok.fresh (Nat.le_refl _))⟩
 exact⟨Nat.le_trans (uj xs lo hi) hz,_,0,(r.drop (HT.pz xs.length 0 lo)).take (HT.pz xs.length xs.length hi - HT.pz xs.length 0 lo),Heap.get?_push_size _ rfl⟩
def kh:V->Bool
 | .cz=>true
 | .bl _=>true
 | .int _=>true
 | .str _=>true
 | _=>false
def EK:V->V->Bool
 | .cz, .cz=>true
 | .bl a, .bl b=>a==b
 | .bl a, .int b=>(if a then 1 else 0)==b
 | .int a, .bl b=>a==(if b then 1 else 0)
 | .int a, .int b=>a==b
 | .str a, .str b=>a==b
 | _,_=>false
theorem G4{s:Shared}{y x:V}{u v:Value}(ry:RelV y u)(rx:RelV x v)(fy:kh y=true)(fx:kh x=true):SeqAt.EqAt A s u v (EK y x):=by
 cases y with
 | cz=>
   cases ry;cases x with
   | cz=>cases rx;exact SeqAt.EqAt.same _
   | bl b=>cases rx;exact SeqAt.EqAt.none_bool b
   | int b=>obtain⟨t,rfl⟩:=rx;exact SeqAt.EqAt.none_int b t
   | str b=>obtain⟨t,rfl⟩:=rx;exact SeqAt.EqAt.none_str b t
   | _=>exact absurd (show false=true from fx) Bool.false_ne_true
 | bl a=>
   cases ry;cases x with
   | cz=>cases rx;exact SeqAt.EqAt.bool_none a
   | bl b=>cases rx;exact SeqAt.EqAt.bool_bool a b
   | int b=>obtain⟨t,rfl⟩:=rx;exact SeqAt.EqAt.bool_int a b t
   | str b=>obtain⟨t,rfl⟩:=rx;exact SeqAt.EqAt.bool_str a b t
   | _=>exact absurd (show false=true from fx) Bool.false_ne_true
 | int a=>
   obtain⟨t',rfl⟩:=ry;cases x with
   | cz=>cases rx;exact SeqAt.EqAt.int_none a t'
   | bl b=>cases rx;exact SeqAt.EqAt.int_bool a t' b
   | int b=>obtain⟨t,rfl⟩:=rx;exact SeqAt.EqAt.int_int a t' b t
   | str b=>obtain⟨t,rfl⟩:=rx;exact SeqAt.EqAt.int_str a t' b t
   | _=>exact absurd (show false=true from fx) Bool.false_ne_true
 | str a=>
   obtain⟨t',rfl⟩:=ry;cases x with
   | cz=>cases rx;exact SeqAt.EqAt.str_none a t'
   | bl b=>cases rx;exact SeqAt.EqAt.str_bool a t' b
   | int b=>obtain⟨t,rfl⟩:=rx;exact SeqAt.EqAt.str_int a t' b t
   | str b=>obtain⟨t,rfl⟩:=rx;exact SeqAt.EqAt.str_str a t' b t
   | _=>exact absurd (show false=true from fx) Bool.false_ne_true
 | _=>exact absurd (show false=true from fy) Bool.false_ne_true
def Dv(x:V)(u:Value):Bool:=match u with
 | .none=>EK .cz x
 | .bool b=>EK (.bl b) x
 | .int i _=>EK (.int i) x
 | .str z _=>EK (.str z) x
 | _=>false
theorem zQ{x y:V}{u:Value}(r:RelV y u)(f:kh y=true):Dv x u=EK y x:=by
 cases y with
 | cz=>cases r;rfl
 | bl b=>cases r;rfl
 | int i=>obtain⟨t,rfl⟩:=r;rfl
 | str z=>obtain⟨t,rfl⟩:=r;rfl
 | _=>exact absurd (show false=true from f) Bool.false_ne_true
theorem tV{x:V}:∀{xs:List V} {us:List Value},Vals xs us->xs.all kh=true->us.any (Dv x)=xs.any fun y=>EK y x
 | _,_, .nil,_=>rfl
 | y ::xs,u ::us, .cons r t,f=>by
   rw[List.all_cons,Bool.and_eq_true] at f;rw[List.any_cons,List.any_cons,zQ r f.1,tV t f.2]
theorem qy{s:Shared}{x:V}{v:Value}(rx:RelV x v)(fx:kh x=true):∀{xs:List V} {us:List Value},Vals xs us->xs.all kh=true->∀u∈us,SeqAt.EqAt A s u v (Dv x u)
 | _,_, .nil,_=>fun u hu=>by cases hu
 | y ::xs,u ::us, .cons r t,f=>fun u' hu=>by
   rw[List.all_cons,Bool.and_eq_true] at f;rcases List.mem_cons.mp hu with rfl | hu
   .rw [zQ r f.1];exact G4 r rx f.1 fx
   .exact qy rx fx t f.2 u' hu
def EV(x:V)(xs:List V):Bool:=xs.any fun y=>EK y x
def ME(K:W.Frag)(neg:Bool):R2:=fun x y H Q=>∃p xs,y= .ref p/\(mG K H p xs\/oX K H p xs)/\kh x=true/\xs.all kh=true/\Q (.bl (if neg then !EV x xs else EV x xs)) H
theorem zt:lA X (compareOp .In) (ME X.K false):=by
 intro pins s σ H x y v u Q I rx ry h;obtain⟨p,xs,rfl,hq,fx,fs,q⟩:=h;cases ry;rcases hq with hq | hq
 .obtain⟨its,r,pl,hz⟩:=I.list hq;refine SeqAt.in_listAt (Dv x) pl.isList (fun w hw=>qy rx fx r fs w (by simpa using hw)) ⟨.bl _,H,I,rfl,?_⟩
  rw[show its.toArray.any (Dv x)=its.any (Dv x) by simp,tV r fs]
  exact q
 .obtain⟨its,r,pl,hz⟩:=I.tuple hq;refine SeqAt.in_tupleAt (Dv x) pl (fun w hw=>qy rx fx r fs w (by simpa using hw)) ⟨.bl _,H,I,rfl,?_⟩
  rw[show its.toArray.any (Dv x)=its.any (Dv x) by simp,tV r fs]
  exact q
theorem rg:lW X (.type "tuple") (fun xs H Q=>∃p ys,xs=[.ref p]/\((mG X.K H p ys/\∀l,H l=none->Q (.ref l) (upd H l (.tup ys)))\/(oX X.K H p ys/\Q (.ref p) H))):=by
 intro pins s σ H xs us Q I r h;obtain⟨p,ys,rfl,h⟩:=h;obtain⟨u,rfl,rx⟩:=vals1 r;cases rx;rcases h with⟨hq,q⟩ | ⟨hq,q⟩
 .obtain⟨its,r',pl,hz⟩:=I.list hq;have hlen:=r'.length;refine call_tuple_list pl.isList (fun h' kp=>?_) (by simp only[List.size_toArray] <;> omega)
  have I1:Inv X pins σ H {s with heap:=h'}:=I.kept (t':=s.toks) kp
  have I2:Inv X pins σ (upd H h'.objs.size (.tup ys)) {s with heap:=h'.push {cls:= .type "tuple",data:= .seq its.toArray}}:=
   I1.laid (t':=s.toks) (fun b o e=>Heap.get?_push_of_some _ e) (Nat.le_refl _) (show ef X.prog X.w _ _ _ (.tup ys) from⟨hz,its,r',IsTup.new _ _⟩)
  exact⟨.ref h'.objs.size,_,I2,rfl,q _ (I1.hok.fresh (Nat.le_refl _))⟩
 .obtain⟨its,r',pl,hz⟩:=I.tuple hq;exact call_tuple_same pl ⟨.ref p,H,I,rfl,q⟩
def Ky(K:W.Frag)(T:String)(x:V)(H:Hp):Prop:=match x with
 | .str _=>T="str"
 | .int _=>T="int"
 | .ref p=>(T="list"/\∃xs,mG K H p xs)\/(T="tuple"/\∃o,K.lookup p=some o/\o.cls= .type "tuple"/\o.dict=none)\/
    (T="dict"/\((∃aP,H p=some (.dK aP))\/∃aP,H p=some (.dT aP)))\/(T="set"/\∃S n,H p=some (.set S n))
 | _=>False
theorem Fy{pins:Rn}{s:Shared}{T:String}{x:V}{v:Value}(I:Inv X pins σ H s)(r:RelV x v)(ty:Ky X.K T x H) :
 s.TypeIs v T/\∀a,v= .ref a->∃ob,s.heap.get? a=some ob/\ob.dict=none:=by
 cases x with
 | str z=>
   obtain⟨t,rfl⟩:=r;cases(show T="str" from ty)
   exact⟨typeIs_str s z t,fun _ e=>nomatch e⟩
 | int i=>
   obtain⟨t,rfl⟩:=r;cases(show T="int" from ty)
   exact⟨typeIs_int s i t,fun _ e=>nomatch e⟩
 | ref p=>
   cases r;rcases ty with⟨rfl,xs,hq⟩ | ⟨rfl,o,hk,hc,hd⟩ | ⟨rfl,hk⟩ | ⟨rfl,S,n,hk⟩
   .obtain⟨its,_,pl,_⟩:=I.list hq;refine⟨pl.isList.typeIs,fun a e=>?_⟩
    cases e;obtain⟨o,n,e,c,hd,_⟩:=pl;exact⟨o,e,hd⟩
   .refine⟨⟨o,I.xD p o hk,hc⟩,fun a e=>?_⟩
    cases e;exact⟨o,I.xD _ o hk,hd⟩
   .have z:∃o,s.heap.get? p=some o/\o.ExactDict:=by
     rcases hk with⟨aP,hk⟩ | ⟨aP,hk⟩
     .obtain⟨_,_,_,_,o,_,_,e,ex,_⟩:=I.hok p _ hk;exact⟨o,e,ex⟩
     .obtain⟨_,_,_,_,o,_,_,e,ex,_⟩:=I.hok p _ hk;exact⟨o,e,ex⟩
    obtain⟨o,e,ex⟩:=z;refine⟨⟨o,e,ex.1⟩,fun a e2=>?_⟩
    cases e2;exact⟨o,e,ex.2.1⟩
   .obtain⟨o,_,_,_,e,ex,_⟩:=I.hok p _ hk;refine⟨⟨o,e,ex.1⟩,fun a e2=>?_⟩
    cases e2;exact⟨o,e,ex.2.1⟩
 | _=>exact False.elim ty
def O3(K:W.Frag)(T:String)(r:V->List V->Hp->VK->Prop)(to:TE):TE:=fun σ H Q=>to σ H fun x H1=>Ky K T x H1/\r x [] H1 Q
def OK(K:W.Frag)(T:String)(r:V->List V->Hp->VK->Prop)(to:TE)(t:TA):TE:=fun σ H Q=>to σ H fun x H1=>Ky K T x H1/\t σ H1 fun xs H2=>r x xs H2 Q
variable {o e:Expr} {es:List Expr} {to:TE} {t:TA} {name:Str} {apos b_:Pos} {T id:String} {r:V->List V->Hp->VK->Prop}
theorem Aq(pa:PlainAttrs T)(slot:Slot T name id)(Pr:typeOf (.builtin id)=pure (.type "method_descriptor"))(hm:NX X id r)(ho:PE X o to)(ha:PA X (e ::es) t)
 (lj:attributeBase o name X.env (eval o X.env)=eval o X.env:=by rfl)
 (qJ:((backTo b_ (starEach (e ::es) X.env)).all (fun x=>!x.1) && (backToKw b_ (keywordEach [] X.env)).all (fun x=>x.1.isSome)
   && decide ((e ::es).length+([]:List Keyword).length+(if([]:List Keyword).isEmpty then 0 else 1) < 30))=true:=by rfl)
 (ll:(apos.endLine==b_.line)=true:=by rfl) (hs:starEach (e ::es) X.env=(false,eval e X.env) ::starEach es X.env:=by rfl) (Hn:(backTo b_ (starEach es X.env)).any (·.1)=false:=by rfl) :
 PE X (.Call (.Attribute o name apos) (e ::es) [] b_) (OK X.K T r to t):=by
 intro pins s σ H Q I h;refine wpAny_Call_method_late lj qJ ll rfl (ee (ho pins s σ H _ I h) fun v s1 ⟨x,H1,I1,r1,ty,q1⟩=>?_)
 obtain⟨h1,h2⟩:=Fy I1 r1 ty;refine⟨T,id,pa,slot,Pr,h1,h2,?_⟩;have hA:=ha b_ pins s1 σ H1 _ I1 q1;rw[hs] at hA ⊢;refine Calls.callWith_builtin (by show(false || (backTo b_ (starEach es X.env)).any (·.1))=false;rw [Hn] <;> rfl) (Calls.evalArgs_plain ?_)
 exact ee hA fun us s2 ⟨vs,H2,I2,r2,q2⟩=>hm pins s2 σ H2 x vs v us Q I2 r1 r2 q2
end
def Mx(X:Cx)(id:String)(r:V->List V->Hp->VK->Prop):Prop:=
 ∀(pins:Rn) (s:Shared) (σ:St) (H:Hp) (x:V) (xs:List V) (v:Value) (us:List Value) (Q:VK),Inv X pins σ H s->RelV x v->Vals xs us->r x xs H Q->
  wpAny (model X.prog X.w) X.A (call (.builtin id) (v ::us)) (EP X pins σ Q) X.xe s
theorem Vals.one:∀{x:V} {us:List Value},Vals [x] us->∃u,us=[u]/\RelV x u
 | _,_, .cons r .nil=>⟨_,rfl,r⟩
section
variable {X:Cx} {pins:Rn} {σ:St} {H:Hp} {s:Shared} {l b:Addr} {xs ys zs:List V}
theorem Inv.IF{its its':List Value}{n:Nat}{f:Array Value->Array Value}{t':Nat}(I:Inv X pins σ H s)(hH:H l=some (.lst xs))
 (e:s.heap.get? l=some {cls:= .type "list",data:= .seq its.toArray n}) (hf:f its.toArray=its'.toArray) (hv:Vals ys its') (hz:ys.length<=sizeLine) :
 Inv X pins σ (upd H l (.lst ys)) {s with heap:=s.heap.update l (Obj.mapSeq f),toks:=t'}:=by
 have q:=PySem.IsL.update e f;rw[hf] at q;refine I.write (x:=l) (e:=l) (by rw[hH];exact trivial) (.inl rfl) (fun b' u hb hu=>(Heap.get?_update_other s.heap (Obj.mapSeq f) (Ne.symm hb)).trans hu) ⟨_,q⟩ ?_
 exact⟨hz,its',_,hv,q⟩
theorem Inv.GU{its:List Value}{t':Nat}(I:Inv X pins σ H s)(hv:Vals ys its)(hz:ys.length<=sizeLine) :
 Inv X pins σ (upd H s.heap.objs.size (.lst ys)) {s with heap:=s.heap.push {cls:= .type "list",data:= .seq its.toArray},toks:=t'}:=
 I.laid (fun _ _ q=>Heap.get?_push_of_some _ q) (Nat.le_refl _) ⟨hz,its,0,hv,Heap.get?_push_size _ rfl⟩
theorem Inv.fresh(I:Inv X pins σ H s):H s.heap.objs.size=none:=I.hok.fresh (Nat.le_refl _)
theorem Inv.Fx(I:Inv X pins σ H s)(hH:H l=some (.lst xs)):xs.length<=sizeLine/\∃(its:List Value) (n:Nat),Vals xs its/\xs.length=its.length/\s.heap.get? l=some {cls:= .type "list",data:= .seq its.toArray n}:=by
 obtain⟨z,its,n,r,e⟩:=I.hok l _ hH;exact⟨z,its,n,r,r.length,e⟩
theorem Bm{n:Nat}(h:n<=sizeLine):Builtin.List.listTooLong n=false:=by
 unfold Builtin.List.listTooLong;exact decide_eq_false (by omega)
end
section
variable {X:Cx}
def C4:V->List V->Hp->VK->Prop:=fun x vs H Q=>∃l xs y,x= .ref l/\vs=[y]/\H l=some (.lst xs)/\xs.length < sizeLine/\Q .cz (upd H l (.lst (xs++[y])))
theorem nC:Mx X "list.append" C4:=by
 intro pins s σ H x vs v us Q I rx rv h;obtain⟨l,xs,y,rfl,rfl,hH,hz,q⟩:=h;cases rx;obtain⟨u,rfl,ru⟩:=rv.one;obtain⟨z,its,n,r,hl,e⟩:=I.Fx hH;refine call_meets F.slot_list_append ⟨_,e,rfl⟩ F.entry_list_append (F.args_list_append_2 _ _) (PySem.list_append l its.toArray n u (by rw[List.size_toArray];omega)) ⟨e,?_⟩
 refine⟨.cz,_,I.IF (its':=its++[u]) hH e (by simp) (r.append (.cons ru .nil)) ?_,rfl,q⟩
 rw[List.length_append,List.length_singleton];omega
def DX:V->List V->Hp->VK->Prop:=fun x vs H Q=>∃l b xs zs,x= .ref l/\vs=[.ref b]/\H l=some (.lst xs)/\H b=some (.lst zs)/\xs.length+zs.length<=sizeLine/\Q .cz (upd H l (.lst (xs++zs)))
theorem yE:Mx X "list.extend" DX:=by
 intro pins s σ H x vs v us Q I rx rv h;obtain⟨l,b,xs,zs,rfl,rfl,hH,hB,hz,q⟩:=h;cases rx;obtain⟨u,rfl,ru⟩:=rv.one;cases ru;obtain⟨z,its,n,r,hl,e⟩:=I.Fx hH;obtain⟨z2,ri,n2,r2,Ex,e2⟩:=I.Fx hB;have vG:its.toArray.size+ri.toArray.size<=sizeLine:=by rw[List.size_toArray,List.size_toArray];omega
 have hlong:¬(!its.toArray.isEmpty && Builtin.List.listTooLong (its.toArray.size+ri.toArray.size))=true:=by
  rw[Bm vG,Bool.and_false];exact Bool.false_ne_true
 refine call_meets F.slot_list_extend ⟨_,e,rfl⟩ F.entry_list_extend (F.args_list_extend_2 _ _)
  (AutoSeq1.list_extend_list_list_0 l its.toArray n b ri.toArray n2 hlong (by rw[List.size_toArray];omega) (by omega)) ⟨e,e2,?_⟩
 refine⟨.cz,_,I.IF (its':=its++ri) hH e (by simp) (r.append r2) ?_,rfl,q⟩
 rw[List.length_append];omega
def Oc:V->List V->Hp->VK->Prop:=fun x vs H Q=>∃l xs y,x= .ref l/\vs=[]/\H l=some (.lst xs)/\xs[xs.length - 1]? =some y/\Q y (upd H l (.lst xs.dropLast))
def LK:V->List V->Hp->VK->Prop:=fun x vs H Q=>∃l xs i k y,x= .ref l/\vs=[.int i]/\H l=some (.lst xs)/\ -(2 ^ 63)<=i/\i < 2 ^ 63/\seqIndex? i xs.length=some k/\xs[k]? =some y/\Q y (upd H l (.lst (xs.eraseIdx k)))
def JK:V->List V->Hp->VK->Prop:=fun x vs H Q=>∃l xs,x= .ref l/\vs=[]/\H l=some (.lst xs)/\Q .cz (upd H l (.lst xs.reverse))
def Kt:V->List V->Hp->VK->Prop:=fun x vs H Q=>∃l xs,x= .ref l/\vs=[]/\H l=some (.lst xs)/\Q .cz (upd H l (.lst []))
def Oe:R2:=fun x y H Q=>∃l b xs zs,x= .ref l/\y= .ref b/\H l=some (.lst xs)/\H b=some (.lst zs)/\xs.length+zs.length<=sizeLine/\∀p,H p=none->Q (.ref p) (upd H p (.lst (xs++zs)))
def Ot:R2:=fun x y H Q=>∃l k xs,x= .ref l/\y= .int k/\H l=some (.lst xs)/\ -(2 ^ 63)<=k/\k < 2 ^ 63/\xs.length*k.toNat<=sizeLine/\
 ∀p,H p=none->Q (.ref p) (upd H p (.lst (List.replicate k.toNat xs).flatten))
end
section
variable {prog:Program} {w:World} {A:Around} {E:Ro} {s:Shared}
set_option maxRecDepth 100000 in
end
section
variable {X:Cx}
end
end L2
namespace Att
open PySem PySem.W PySem.Calls PyProof.Rows
theorem oW{P:Params}:∀(ns:List Int) (vs:List Value),WellAll P h vs (ns.map WData.int)->IntsAre vs ns:=by
 intro ns
 induction ns with
 | nil=>
   intro vs w;rw[List.map_nil] at w;cases w;exact .nil
 | cons n ns ih=>
   intro vs w;rw[List.map_cons] at w;cases w with
   | cons a b=>
     cases a;exact .cons _ _ (ih _ b)
theorem yL{l:OpenLaw}{n:Nat}(hn:l.most=some n){P:Params}{h:Heap}{args:List WData}{vals:List Value}
 (EE:l.row.toRowW.claim.pre args=true) (HR:WellAll P h vals args) :
 ∃a vs ns,vals=[Value.ref a]/\args=[WData.list (ns.map WData.int)]/\h.get? a=some {cls:= .type "list",data:= .seq vs.toArray}/\IntsAre vs ns/\ns.length<=n:=by
 have hsh:WShape.hasAll [] args [.list .int]=true:=(pre_splitW EE).1;have hc:l.pre.holds [] {args:=args}=true:=(pre_splitW EE).2;obtain⟨d,r,rfl,h1,h2⟩:=hasAllW_cons hsh;obtain rfl:=hasAllW_nil h2;obtain⟨xs,rfl,h3⟩:=hasW_list h1;obtain⟨ns,rfl⟩:=items_int h3;have hlen:ns.length<=n:=by
  unfold OpenLaw.pre at hc;have h4:(WTm.not (.lt (.lit (.int (n:Int))) (.len (.arg 0)))).holds [] {args:=[.list (ns.map .int)]}=true:=by
   have h4:=(holds_andW hc).1;rw[hn] at h4;exact h4
  have h5:=condW_of h4 (w_not (w_lt w_lit (w_len_list (w_arg rfl))));rw[List.length_map] at h5;refine Nat.le_of_not_lt fun q=>?_
  have q':(n:Int) < ((ns.length:Nat):Int):=by omega
  first
   | (rw [decide_eq_true q'] at h5;exact absurd h5 (by decide))
   | (simp at h5;omega)
 cases HR with
 | cons w1 w2=>
   cases w2;cases w1 with
   | list ho zH=>exact⟨_,_,ns,rfl,rfl,ho,oW ns _ zH,hlen⟩
theorem y9(l:OpenLaw)(args:List WData):l.row.toRowW.claim.post args (.bool true) args=true:=
 postW_of (r:=l.row.toRowW) (X:=(true==true))
  (show WShape.has [] (.bool true) .bool=true by first | rfl | decide | simp [WShape.has,WShape.arms,WShape.armsAll])
  (show(WTm.eq .res (.lit (.bool true))).value [] {args:=args,res:=some (.bool true),after:=args}=some (.bool (true==true)) from w_eq_bool (w_res rfl) w_lit) rfl
theorem vx{l:OpenLaw}{n:Nat}{q:Program}{loose:List Str}{XP:(Str->Option Value)->Heap->Prop}{YP:World->Heap->Prop}{d:DefRec}
 (hn:l.most=some n) (LO:d.params.defaults=[])
 (call:∀(w:World) (s₀ s₁:Shared) (mg mb:Rt) (fa:Addr) (o:Obj) (pm cd doc:Value) (a:Addr) (vs:List Value) (ns:List Int),
   Ground q loose [] XP w s₀ mg mb s₁.heap->YP w s₁.heap->
   s₁.heap.get? fa=some o->o.data= .func (docDef d.name d.params d.body d.scope pm cd doc)->s₁.heap.CodeRec cd d.name->mg d.name=some (.ref fa)->
   s₁.heap.get? a=some {cls:= .type "list",data:= .seq vs.toArray}->IntsAre vs ns->ns.length<=n->s₁.gens=#[]->
   codeAny (model l.prog w) callerA (.call (.ref fa) ⟨[.ref a],[]⟩) (fun r s'=>r= .ok (.ret (.bool true))/\OldK s₁.heap s'.heap/\s'.os=s₁.os/\AllBare s'.gens) s₁) :
 WalkO q loose XP YP l.row.toRowW d [] (fun f vs=>PySem.call f vs):=by
 intro w s₀ s₁ mg mb G Y fa o pm cd doc dV kV ho hd pb hD J5 hg args vals as EE hlay hrd HR hlo;obtain rfl:dV= .none:=Dflts.none hD LO;obtain rfl:kV= .none:=Dflts.noKw hD;obtain⟨a,vs,ns,rfl,rfl,Hk,hints,hlen⟩:=yL hn EE HR;refine enter_call (codeAny_mono (call w s₀ s₁ mg mb fa o pm cd doc a vs ns G Y ho (fd_plain hd) pb J5 Hk hints hlen hg) fun r s' hq=>?_)
 obtain⟨rfl,h2,h3,h4⟩:=hq;exact⟨.inl ⟨.bool true, .bool true,[],rfl,fun _=>rfl, .bool true,y9 l _,fun _=>⟨List.Pairwise.nil,fun _ hm=>(nomatch hm)⟩⟩,h2,h3,h4⟩
section
variable {prog:Program} {w:World} {A:Around} {E:Ro} {s:Shared} {K:Frag}
def Kz(h:Heap):Heap:={h with objs:=#[]}
def ledger(h:Heap)(L d:Addr):Rn:=(List.range h.objs.size).filterMap fun a=>if a=L\/a=d then none else(h.get? a).map fun o=>(a,o)
end
end Att
namespace L2
open PySem PySem.Spec PyProof.Rows
theorem rP:∀{vs:List Value} {ns:List Int},IntsAre vs ns->Vals (ns.map V.int) vs
 | _,_, .nil=> .nil
 | _,_, .cons n t h=> .cons ⟨t,rfl⟩ (rP h)
def Jg(H:Hp):Prop:=∀b,H b=none\/∃o xs,H b=some (.jk o (.lst xs))
abbrev fN{K:W.Frag}{h:Heap}(_:K.In h):W.Frag:=K
def inClass(s:Stmt)(j:Nat):Stmt:=match s with
 | .ClassDef _ _ _ body _ _ _ _ _ _ _=>body.getD j (.Pass ⟨0,0,0,0⟩)
 | _=> .Pass ⟨0,0,0,0⟩
def iI(s:Stmt):Arguments:=match s with
 | .FunctionDef _ a _ _ _ _ _ _ _ _=>a
 | _=>{posonlyargs:=[],args:=[],vararg:=none,kwonlyargs:=[],kw_defaults:=[],kwarg:=none,defaults:=[]}
def aM(s:Stmt):List Stmt:=match s with
 | .FunctionDef _ _ b _ _ _ _ _ _ _=>b
 | _=>[]
def av(s:Stmt):Scope:=match s with
 | .FunctionDef _ _ _ _ _ _ sc _ _ _=>sc
 | _=>{kind:= .function,names:=[],isGenerator:=false,isCoroutine:=false}
abbrev q8:zT:=fun _ _ _ _ _ _=>False
abbrev E0:XK:=fun _ _ _=>False
theorem ui{X:Cx}:Passes q8 X E0:=fun _ _ _ _ _ _ _ h=>h.elim
structure yh (K:W.Frag) (x qual:Str) (st:Stmt) (f:Addr) (fd:FuncData):Prop where
 ex:∃(oc:Value) (od:Option Addr) (kV doc pm:Value) (an:Option Addr) (dC ct:Value) (CJ:Array (Option Value)),
  fd=PySem.W.fnOf x qual (iI st) (aM st) (av st) .none kV doc pm an dC ct/\K.lookup f=some ⟨oc,od, .func fd,CJ⟩/\PySem.W.codeIn K dC qual=true
 kp:PySem.W.keepIn K (.ref f)=true
section
variable {P:Program} {w:World} {K:W.Frag} {mg:Rt} {base:Heap}
theorem yh.ok{x qual:Str}{st:Stmt}{f:Addr}{fd:FuncData}{N ps:List Str}{k:Nat}{sp:Sp}(F:yh K x qual st f fd)(S:aX N ps (av st))(len:∀vs H Q E,sp vs H Q E->vs.length=ps.length)
 (jL:∀(dC:Value) (A:Around) (outer:List Env) (s:Shared) (H:Hp) (vs:List V) (Q:VK) (E:XK),dR k (A.deeper (envOfC qual (av st) s.heap.objs.size f dC))->sp vs H Q E->
   ∃t,ud (pI q8 P w K mg base N qual (av st) f dC A outer s H E).Es (aM st) t/\t {nx:=fun _ H'=>Q .cz H',rt:=Q} (start N vs) H):gR P w K mg base q8 (k+1) f fd ps sp:=by
 obtain⟨oc,od,kV,doc,pm,an,dC,ct,CJ,rfl,lk,pb⟩:=F.ex;refine IZ lk pb S len fun A outer s H vs Q E hr HU=>?_
 obtain⟨t,h,q⟩:=jL dC A outer s H vs Q E hr HU;exact⟨t,h.Es,q⟩
theorem yh.binds{x qual:Str}{st:Stmt}{f:Addr}{fd:FuncData}{ps:List Str}(F:yh K x qual st f fd)
 (h:∀(kV doc pm:Value) (an:Option Addr) (dC ct:Value) (us:List Value),us.length=ps.length->bindArgs (PySem.W.fnOf x qual (iI st) (aM st) (av st) .none kV doc pm an dC ct) ⟨us,[]⟩=pure (ps.zip us)):Binds K fd ps []:=by
 obtain⟨oc,od,kV,doc,pm,an,dC,ct,CJ,rfl,lk,pb⟩:=F.ex;exact .all (h kV doc pm an dC ct)
theorem tP{x qual:Str}{st:Stmt}{f:Addr}{oc:Value}{od an:Option Addr}{CJ:Array (Option Value)}{kV doc pm dC ct:Value}(l:K.lookup f=some ⟨oc,od, .func (PySem.W.fnOf x qual (iI st) (aM st) (av st) .none kV doc pm an dC ct),CJ⟩)
 (c:PySem.W.codeIn K dC qual=true) (k:PySem.W.keepIn K (.ref f)=true):yh K x qual st f (PySem.W.fnOf x qual (iI st) (aM st) (av st) .none kV doc pm an dC ct):=⟨⟨oc,od,kV,doc,pm,an,dC,ct,CJ,rfl,l,c⟩,k⟩
end
theorem Iv{A:Around}{k:Nat}(hr:dR k A):A.units+1 < cLine:=Nat.lt_of_le_of_lt (Nat.add_le_add_left (by decide:1<=64) _) hr.units
section
variable {X:Cx}
end
theorem Dz{A B:Prop}(h:B):if false=true then A else B:=by
 rw[if_neg Bool.false_ne_true];exact h
theorem CS{A B:Prop}(h:A):if true=true then A else B:=by
 rw[if_pos rfl];exact h
def aK(H H':Hp):Prop:=∀b o,H b=some o->H' b=some o
theorem aK.refl(H:Hp):aK H H:=fun _ _ h=>h
theorem aK.trans(a:aK H H1)(b:aK H1 H2):aK H H2:=fun c o h=>b c o (a c o h)
theorem aK.free{H H':Hp}(e:aK H H'){l:Addr}(h:H' l=Option.none):H l=Option.none:=by
 cases q:H l with
 | none=>rfl
 | some o=>
   rw[e l o q] at h;cases h
section
variable {κ:Type} [DecidableEq κ]
end
end L2
end
section
namespace L2
open PySem PySem.Spec PyProof.Rows
def lM(cells:List (Str × Addr)):List (Str × NameKind)->List (Str × Addr)->List (Str × Addr)
 | [],acc=>acc
 | (n,k) ::r,acc=>lM cells r (if k==NameKind.free then(n,(cells.lookup n).getD 0) ::acc else acc)
theorem jX{env:Env}:∀(names:List (Str × NameKind)) (acc:List (Str × Addr)),(∀y∈names,y.2= .free->∃c,env.cells.lookup y.1=some c)->
 (forIn names acc fun(x:Str × NameKind) (cs:List (Str × Addr))=>(match x with
   | (name,kind)=>if kind== .free then do let a <-cellOf env name;pure (ForInStep.yield ((name,a) ::cs)) else pure (ForInStep.yield cs):Sem (ForInStep (List (Str × Addr)))))=pure (lM env.cells names acc)
 | [],acc,_=>by simp [lM]
 | (n,k) ::r,acc,h=>by
   rw[List.forIn_cons];by_cases hk:k=NameKind.free
   .subst hk;obtain⟨c,hc⟩:=h (n, .free) List.mem_cons_self rfl;have e:cellOf env n=pure c:=by unfold cellOf;rw [hc]
    simp only[beq_self_eq_true,if_true,e,pure_bind,lM,hc,Option.getD_some];exact jX r _ fun y hy=>h y (List.mem_cons_of_mem _ hy)
   .have hb:(k==NameKind.free)=false:=by simpa using hk
    simp only[hb,Bool.false_eq_true,if_false,pure_bind,lM];exact jX r _ fun y hy=>h y (List.mem_cons_of_mem _ hy)
theorem kf{env:Env}{scope:Scope}(h:∀y∈scope.names,y.2= .free->∃c,env.cells.lookup y.1=some c):closureFor scope env=pure (lM env.cells scope.names []):=by
 unfold closureFor;have:=jX (env:=env) scope.names [] h;simp only[bind_pure];exact this
theorem iL{cells:List (Str × Addr)}:∀(names:List (Str × NameKind)) (acc:List (Str × Addr)) {x:Str} {c:Addr},(lM cells names acc).lookup x=some c->
 acc.lookup x=some c\/((x,NameKind.free)∈names/\c=(cells.lookup x).getD 0)
 | [],acc,x,c,h=> .inl h
 | (n,k) ::r,acc,x,c,h=>by
   rcases iL r _ h with q | ⟨q1,q2⟩
   .by_cases hk:k=NameKind.free
    .subst hk;simp only[beq_self_eq_true,if_true] at q;cases hx:x==n with
     | true=>
       have e:x=n:=by simpa using hx
       subst e;rw[List.lookup_cons,hx] at q;exact .inr ⟨List.mem_cons_self,(Option.some.inj q).symm⟩
     | false=>
       rw[List.lookup_cons,hx] at q;exact .inl q
    .have hb:(k==NameKind.free)=false:=by simpa using hk
     simp only[hb,Bool.false_eq_true,if_false] at q;exact .inl q
   .exact .inr ⟨List.mem_cons_of_mem _ q1,q2⟩
theorem uv{cells:List (Str × Addr)}:∀(names:List (Str × NameKind)) (acc:List (Str × Addr)) {x:Str},((x,NameKind.free)∈names\/∃c,acc.lookup x=some c)->∃c,(lM cells names acc).lookup x=some c
 | [],acc,x,h=>by
   rcases h with h | h
   .simp at h
   .exact h
 | (n,k) ::r,acc,x,h=>by
   refine uv r _ ?_;rcases h with h | ⟨c,h⟩
   .rcases List.mem_cons.mp h with e | e
    .cases e;exact .inr ⟨(cells.lookup n).getD 0,by simp [List.lookup_cons]⟩
    .exact .inl e
   .by_cases hk:k=NameKind.free
    .subst hk;simp only[beq_self_eq_true,if_true];cases hx:x==n with
     | true=>exact .inr ⟨(cells.lookup n).getD 0,by rw[List.lookup_cons,hx]⟩
     | false=>exact .inr ⟨c,by rw[List.lookup_cons,hx];exact h⟩
    .have hb:(k==NameKind.free)=false:=by simpa using hk
     simp only[hb,Bool.false_eq_true,if_false];exact .inr ⟨c,h⟩
theorem sC:∀(names:List (Str × NameKind)) (n:Nat) (acc:List (Str × Addr)) {x:Str},(x,NameKind.cell) ∉ names->(cellsFrom n names acc).lookup x=acc.lookup x
 | [],_,_,_,_=>rfl
 | (y,k) ::r,n,acc,x,h=>by
   unfold cellsFrom;split
   .rename_i hk;have hk:k= .cell:=by simpa using hk
    subst hk;rw[sC r _ _ fun z=>h (List.mem_cons_of_mem _ z),List.lookup_cons]
    cases hx:x==y with
    | true=>
      have e:x=y:=by simpa using hx
      subst e;exact absurd List.mem_cons_self h
    | false=>rfl
   .exact sC r _ _ fun z=>h (List.mem_cons_of_mem _ z)
theorem ma:∀(names:List (Str × NameKind)) (n:Nat) (acc:List (Str × Addr)),cellsFrom n names acc=cellsFrom n names []++acc
 | [],_,_=>rfl
 | (y,k) ::r,n,acc=>by
   unfold cellsFrom;split
   .rw [ma r (n+1) ((y,n) ::acc),ma r (n+1) [(y,n)],List.append_assoc];rfl
   .exact ma r n acc
theorem w_{a b:List (Str × Addr)}{c:Addr}(h:(a++b).lookup x=some c):(x,c)∈a\/b.lookup x=some c:=by
 induction a with
 | nil=>exact .inr h
 | cons y r ih=>
   obtain⟨n,v⟩:=y;rw[List.cons_append,List.lookup_cons] at h;cases hx:x==n with
   | true=>
     rw[hx] at h;have e:x=n:=by simpa using hx
     subst e;cases h;exact .inl List.mem_cons_self
   | false=>
     rw[hx] at h;exact(ih h).imp (List.mem_cons_of_mem _) id
theorem kY{a b:List (Str × Addr)}(h:∃c,b.lookup x=some c):∃c,(a++b).lookup x=some c:=by
 induction a with
 | nil=>exact h
 | cons y r ih=>
   rw[List.cons_append,List.lookup_cons];cases x==y.1 with
   | true=>exact⟨_,rfl⟩
   | false=>exact ih
theorem sN{a b:List (Str × Addr)}{c:Addr}(h:a.lookup x=some c):∃c,(a++b).lookup x=some c:=by
 induction a with
 | nil=>cases h
 | cons y r ih=>
   rw[List.cons_append,List.lookup_cons];rw[List.lookup_cons] at h;cases hx:x==y.1 with
   | true=>exact⟨_,rfl⟩
   | false=>rw [hx] at h;exact ih h
theorem rS{M:Model}{A:Around}{E:Ro}{s:Shared}{scope:Scope}{cl:List (Str × Addr)}{qual:Str}{env:Env}{Q:Env->Shared->Prop}(hQ:∀h',h'.Ns s.heap.objs.size (fun _=>none)->(∀b o,s.heap.get? b=some o->h'.get? b=some o)->CellsOk h' (s.heap.objs.size+1) (cellsFrom (s.heap.objs.size+1) scope.names [])->
 Q (newEnv scope s.heap.objs.size env.globals (cellsFrom (s.heap.objs.size+1) scope.names cl) qual none .none (some env) builtinsNs) {s with heap:=h'}) :
 wpAny M A (newFunctionEnv scope env.globals cl [] qual none .none (some env)) Q E s:=by
 simp only[newFunctionEnv,Option.isSome_some,if_true];refine wpAny_bind (wpAny_alloc ?_);refine wpAny_bind (wpAny_layCells _ (fun name kind cells=>by cases hkc:kind==NameKind.cell <;> simp [hkc]) _ _ _ _ ?_)
 have ok:=cellsFrom_ok scope.names (s.heap.push {cls:= .type "dict",data:= .dict #[]}) (s.heap.objs.size+1) [] ⟨fun _ _ hm=>(nomatch hm),List.Pairwise.nil⟩ (by rw[Heap.size_push];exact Nat.le_refl _)
 rw[Heap.size_push] at ok;rw[show({s with heap:=s.heap.push {cls:= .type "dict",data:= .dict #[]}}:Shared).heap.objs.size=s.heap.objs.size+1 from Heap.size_push ..]
 rw[List.forIn_nil];refine wpAny_bind (wpAny_pure (wpAny_pure ?_));exact hQ _ ((Heap.Ns.new s.heap (.type "dict")).keeps (pushCells_keeps _ _)) (fun b o e=>pushCells_keeps _ _ b o (Heap.get?_push_of_some _ e)) ok
def bg(X:Cx)(scope:Scope)(N':List Str)(fp:List Addr)(s:Shared)(H:Hp):Cx where
 prog:=X.prog
 w:=X.w
 K:=X.K
 mg:=X.mg
 base:=X.base
 A:=X.A
 N:=N'
 s₀:=s
 H₀:=H
 env:=compEnvC scope (cellsFrom (s.heap.objs.size+1) scope.names (lM X.env.cells scope.names [])) s.heap.objs.size X.env
 outer:=X.stack
 stack:=X.stack
 ex:=fp
 fn:=fun x=>scope.names.lookup x==some .cell
 calm:=X.calm
 pn:=[]
 xe:=fun _ _=>False
structure bt (X:Cx) (scope:Scope) (own:List Str) (kp:List Nat) (kn:List Str):Prop where
 kind:scope.kind= .function
 cel:∀y∈scope.names,y.2= .cell->scope.names.lookup y.1=some .cell
 nd:∀y∈scope.names,y.2= .local->scope.names.lookup y.1=some .local
 free:∀y∈scope.names,y.2= .free->X.env.kindOf y.1=some .cell\/X.env.kindOf y.1=some .free
 frl:∀y∈scope.names,y.2= .free->scope.names.lookup y.1=some .free
 names:kn.length=kp.length
 at_:∀(j i:Nat) (x:Str),kp[j]? =some i->kn[j]? =some x->X.N[i]? =some x
 isfree:∀x∈kn,scope.names.lookup x=some .free
def cZ(own:List Str)(kp:List Nat)(σ:St):St:=List.replicate own.length none++kp.map fun i=>(σ[i]?).getD none
section
variable {X:Cx} {scope:Scope} {own:List Str} {kp:List Nat} {kn:List Str}
theorem d4{env:Env}:∀{names:List (Str × NameKind)} {x:Str} {k:NameKind},
 (names.map fun(n,k)=>if(k==NameKind.free && env.scope.kind== .function && env.kindOf n==some .cell) then(n,NameKind.cell) else(n,k)).lookup x=some k->
 names.lookup x=some k\/(k= .cell/\names.lookup x=some .free)
 | [],_,_,h=>by simp at h
 | (n,k) ::r,x,k',h=>by
   have ih:=@d4 env r x k';have h:List.lookup x ((if(k==NameKind.free && env.scope.kind== .function && env.kindOf n==some .cell)=true then(n,NameKind.cell) else(n,k)) ::_)=some k':=h
   by_cases hc:(k==NameKind.free && env.scope.kind== .function && env.kindOf n==some .cell)=true
   .rw [if_pos hc] at h;have hkf:k= .free:=by
     simp only[Bool.and_eq_true,beq_iff_eq] at hc;exact hc.1.1
    cases hx:x==n with
    | true=>
      rw[List.lookup_cons,hx] at h;cases h;exact .inr ⟨rfl,by rw[List.lookup_cons,hx,hkf]⟩
    | false=>
      rw[List.lookup_cons,hx] at h;rw[List.lookup_cons,hx];exact ih h
   .rw [if_neg hc] at h;cases hx:x==n with
    | true=>
      rw[List.lookup_cons,hx] at h;rw[List.lookup_cons,hx];exact .inl h
    | false=>
      rw[List.lookup_cons,hx] at h;rw[List.lookup_cons,hx];exact ih h
theorem mn{pins:Rn}{s:Shared}(C:bt X scope own kp kn)(I:Inv X pins σ H s):∀y∈scope.names,y.2= .free->∃c,X.env.cells.lookup y.1=some c:=fun y hy hf=>
 I.ok.has y.1 (C.free y hy hf)
theorem z6{pins:Rn}{σ:St}{H:Hp}{s:Shared}{fp:List Addr}{gM:Heap}{tk:Nat}(C:bt X scope own kp kn)(I:Inv X pins σ H s)(hf:∀b∈fp,o7 X pins H b)(hb:∀b∈fp,b < s.heap.objs.size)
 (hn:gM.Ns s.heap.objs.size (fun _=>none)) (hk:∀b o,s.heap.get? b=some o->gM.get? b=some o) (hC:CellsOk gM (s.heap.objs.size+1) (cellsFrom (s.heap.objs.size+1) scope.names [])):Inv (bg X scope (own++kn) fp s H) [] (cZ own kp σ) H {s with heap:=gM,toks:=tk}:=by
 have cl:∀x c,(lM X.env.cells scope.names []).lookup x=some c->X.env.cells.lookup x=some c:=fun x c e=>by
  rcases iL scope.names [] e with q | ⟨q1,q2⟩
  .simp at q
  .obtain⟨c',zM⟩:=mn C I (x, .free) q1 rfl;have zM:X.env.cells.lookup x=some c':=zM;rw[zM] at q2;rw[zM,q2];rfl
 have clA:∀x c,(cellsFrom (s.heap.objs.size+1) scope.names (lM X.env.cells scope.names [])).lookup x=some c->(x,c)∈cellsFrom (s.heap.objs.size+1) scope.names []\/(lM X.env.cells scope.names []).lookup x=some c:=fun x c e=>by
  rw[ma] at e;exact w_ e
 have old:∀x c,(lM X.env.cells scope.names []).lookup x=some c->c < s.heap.objs.size:=fun x c e=>by
  obtain⟨v,h⟩:=I.cell x c (cl x c e);exact h.lt
 have new:∀x c,(x,c)∈cellsFrom (s.heap.objs.size+1) scope.names []->s.heap.objs.size<=c:=fun x c e=>Nat.le_of_lt (hC.empty x c e).2
 have clh:∀x,scope.names.lookup x=some .free->∃c,(lM X.env.cells scope.names []).lookup x=some c:=fun x hx=>uv scope.names [] (.inl (PySem.mem_of_lookup hx))
 refine⟨⟨I.ok.mod,C.kind,I.ok.glob,I.ok.blt,Nat.le_refl _,fun x y c h1 h2=>?inj,fun x hx=>?_,fun x c hn h=>?cab,I.ok.hd,I.ok.frames, .inl rfl,fun b qL=>⟨Nat.ne_of_lt (hb b qL),fun x c e z=>?exf⟩,
  fun b o e=>I.bs b o e,Nat.le_trans I.ok.bsz I.sz,fun b o e qL=>?_,fun b qL hs=>?_,I.stack,I.xH⟩,
  rfl,I.bare,Un.kept hk,⟨_,hn,fun i x v h1 h2 h3=>?_⟩,fun x c e=>?_,I.hok.fresh (Nat.le_refl _),fun x c e=>?frc,fun p hp=>(by cases hp),I.hok.kept hk,?_⟩
 case inj=>
  rcases clA x c h1 with a | a <;> rcases clA y c h2 with b | b
  .exact name_of_addr hC.apart a b
  .exact absurd (Nat.lt_of_lt_of_le (old y c b) (new x c a)) (Nat.lt_irrefl _)
  .exact absurd (Nat.lt_of_lt_of_le (old x c a) (new y c b)) (Nat.lt_irrefl _)
  .exact I.ok.inj x y c (cl x c a) (cl y c b)
 case cab=>
  have hn:(scope.names.lookup x==some .cell)=true:=hn;rcases clA x c h with a | a
  .exact new x c a
  .rcases iL scope.names [] a with q | ⟨q1,q2⟩
   .simp at q
   .have hx:scope.names.lookup x=some .cell:=by simpa using hn
    have h7:scope.names.lookup x=some .free:=C.frl _ q1 rfl;rw[hx] at h7;cases h7
 case exf=>
  rcases clA x c e with a | a
  .subst z;exact absurd (Nat.lt_of_lt_of_le (hb _ qL) (new x _ a)) (Nat.lt_irrefl _)
  .exact(hf b qL).2.2.2.2.1 x c (cl x c a) z
 case frc=>
  rcases clA x c e with a | a
  .exact I.hok.fresh (new x c a)
  .exact I.freeC x c (cl x c a)
 .have hx:(relabel scope X.env).names.lookup x=some .cell\/(relabel scope X.env).names.lookup x=some .free:=hx;show ∃c,(cellsFrom (s.heap.objs.size+1) scope.names (lM X.env.cells scope.names [])).lookup x=some c;rcases hx with hx | hx
  .rcases d4 hx with q | ⟨_,q⟩
   .rw [ma];obtain⟨c,hc⟩:=pP (n:=s.heap.objs.size+1) q;exact sN hc
   .rw [ma];exact kY (clh x q)
  .rcases d4 hx with q | ⟨q,_⟩
   .rw [ma];exact kY (clh x q)
   .cases q
 .rcases(hf b qL).2.2.2.1 with z | z
  .exact I.ok.noex b o e z
  .exact absurd (Nat.lt_of_lt_of_le (Heap.lt_size (I.ok.bs b o e).1) z) (Nat.lt_irrefl _)
 .rcases List.mem_cons.mp (I.wM b hs) with z | z
  .exact(hf b qL).2.1 z
  .exact(hf b qL).2.2.1 z
 .-- a kept name
  have h1:(own++kn)[i]? =some x:=h1;have h2:(cZ own kp σ)[i]? =some (some v):=h2;unfold cZ at h2;by_cases hi:i < own.length
  .rw [List.getElem?_append_left (by simpa using hi),List.getElem?_replicate] at h2
   split at h2 <;> cases h2
  .rw [List.getElem?_append_right (by simpa using hi),List.length_replicate,List.getElem?_map] at h2
   rw[List.getElem?_append_right (by simpa using hi)] at h1
   cases e:kp[i - own.length]? with
   | none=>rw [e] at h2;cases h2
   | some j=>
     rw[e] at h2;have h2:(σ[j]?).getD none=some v:=Option.some.inj h2;have hj:X.N[j]? =some x:=C.at_ _ j x e h1;have EA:σ[j]? =some (some v):=by
      cases q:σ[j]? with
      | none=>rw [q] at h2;cases h2
      | some y=>rw [q] at h2;exact congrArg some h2
     have hfree:scope.names.lookup x=some .free:=C.isfree x (List.mem_of_getElem? h1);have hkind:=C.free (x, .free) (PySem.mem_of_lookup hfree) rfl;obtain⟨m,hm,hl⟩:=I.loc;obtain⟨u,r,l⟩:=hl j x v hj EA (hkind.elim (fun q=>Or.inr (Or.inl q)) fun q=>Or.inr (Or.inr q))
     refine⟨u,r, .inr ⟨?_,?_⟩⟩
     .have h3:(relabel scope X.env).names.lookup x=some .local\/(relabel scope X.env).names.lookup x=some .cell\/(relabel scope X.env).names.lookup x=some .free:=h3;rcases h3 with q | q | q
      .rcases d4 q with z | ⟨z,_⟩
       .rw [hfree] at z;cases z
       .cases z
      .exact .inl q
      .exact .inr q
     .rcases l with⟨k,_⟩ | ⟨_,c,hc,hcell⟩
      .rcases hkind with q | q
       .rw [show X.env.kindOf x=some .cell from q] at k;cases k
       .rw [show X.env.kindOf x=some .free from q] at k;cases k
      .obtain⟨c',zM⟩:=clh x hfree;have:=cl x c' zM;rw[hc] at this;cases this;obtain⟨o,ho,hd⟩:=hcell;exact⟨c,(sC _ _ _ fun z=>by have:=C.cel _ z rfl;rw [hfree] at this;cases this).trans zM,o,hk c o ho,hd⟩
 .rcases clA x c e with a | a
  .exact⟨_,(hC.empty x c a).1⟩
  obtain⟨v,o,ho,hd⟩:=I.cell x c (cl x c a);exact⟨v,o,hk c o ho,hd⟩
 .show(cZ own kp σ).length=(own++kn).length;unfold cZ;rw[List.length_append,List.length_replicate,List.length_map,List.length_append,C.names]
theorem pC{pins:Rn}{s s':Shared}{fp:List Addr}{N':List Str}(I:Inv X pins σ H s)(hf:∀b∈fp,o7 X pins H b)(J:Inv (bg X scope N' fp s H) [] cX H' s'):Inv X pins σ H' s':=
 I.Ju (ch:=fp) J.os J.base J.hok J.bare fun b hb=>⟨(hf b hb).2.2.2.1,(hf b hb).2.1,(hf b hb).2.2.2.2.1,(hf b hb).2.2.2.2.2⟩
end
def mN(X:Cx)(ifs:List Expr)(t:TT):Prop:=
 ∀(pins:Rn) (s:Shared) (σ:St) (H:Hp) (Q:Bool->Hp->Prop),Inv X pins σ H s->t σ H Q->
  wpAny (model X.prog X.w) X.A (forIn ifs true fun c r=>if r=true then do let ok <-isTrue c X.env (eval c X.env);pure (ForInStep.yield ok) else pure (ForInStep.yield r)) (TP X pins σ Q) X.xe s
def KI:TT:=fun _ H Q=>Q true H
theorem u7{X:Cx}:mN X [] KI:=fun _ _ _ H _ I h=>wpAny_tests_nil ⟨H,I,h⟩
theorem uu{X:Cx}{t:TT}(h:PT X c t):mN X [c] t:=fun pins s σ H Q I hq=>wpAny_tests_one (h pins s σ H Q I hq)
def xt(wi:TI)(g:TG)(tc:TT)(te:TE)(own:List Str)(kp:List Nat):TE:=fun σ H Q=>wi σ H fun J H1=>∀D,H1 D=none->
 ∃W:Nat->Nat->List V->Hp->Prop,(∃m,W 0 m [] (upd H1 D (.lst [])))/\∀i m ys H,W i m ys H->
  (J.stop i H/\Q (.ref D) H)\/(J.go i H/\∀x H',J.yld i H x H'->g x (cZ own kp σ) H' fun ub H2=>tc ub H2 fun c H3=>
    if c=true then te ub H3 fun y H4=>H4 D=some (.lst ys)/\ys.length < sizeLine/\∃m',m' < m/\W (i+1) m' (ys++[y]) (upd H4 D (.lst (ys++[y])))
    else ∃m',m' < m/\W (i+1) m' ys H3)
section
variable {X:Cx} {scope:Scope} {own:List Str} {kp:List Nat} {kn:List Str} {tg iter elt:Expr} {ifs:List Expr} {wi:TI} {g:TG} {tc:TT} {te:TE} {pos:Pos}
theorem u9{pins:Rn}{σ:St}{H:Hp}{s:Shared}{fp:List Addr}{it D:Addr}{tn:Nat->Heap->Prop}{J:It}{Q:VK}{gM:Heap}{tk:Nat}{R:Result->Shared->Prop}
 (hc:X.calm=true) (C:bt X scope own kp kn) (I:Inv X pins σ H s) (hf:∀b∈fp,o7 X pins H b) (hb:∀b∈fp,b < s.heap.objs.size) (T:Turn X.prog X.w X.K tg J fp it tn)
 (hg:PG (bg X scope (own++kn) fp s H) tg g) (hi:mN (bg X scope (own++kn) fp s H) ifs tc) (he:PE (bg X scope (own++kn) fp s H) elt te)
 (hn:gM.Ns s.heap.objs.size (fun _=>none)) (hk:∀b o,s.heap.get? b=some o->gM.get? b=some o) (hC:CellsOk gM (s.heap.objs.size+1) (cellsFrom (s.heap.objs.size+1) scope.names [])) (st:tn 0 s.heap)
 (W:Nat->Nat->List V->Hp->Prop) (w0:∃m,W 0 m [] H)
 (turn:∀i m ys H,W i m ys H->
   (J.stop i H/\Q (.ref D) H)\/(J.go i H/\∀x H',J.yld i H x H'->g x (cZ own kp σ) H' fun ub H2=>tc ub H2 fun c H3=>
     if c=true then te ub H3 fun y H4=>H4 D=some (.lst ys)/\ys.length < sizeLine/\∃m',m' < m/\W (i+1) m' (ys++[y]) (upd H4 D (.lst (ys++[y])))
     else ∃m',m' < m/\W (i+1) m' ys H3))
 (hR:∀H' s' cX,Inv (bg X scope (own++kn) fp s H) [] cX H' s'->Q (.ref D) H'->R (.ok .next) s') :
 codeAny (model X.prog X.w) X.A (.compStart (.ListComp elt [⟨tg,iter,ifs,0⟩] scope pos) 0 (.ref it) (.ref D) (bg X scope (own++kn) fp s H).env) R {s with heap:=gM,toks:=tk}:=by
 have I1:Inv (bg X scope (own++kn) fp s H) [] (cZ own kp σ) H {s with heap:=gM,toks:=tk}:=z6 C I hf hb hn hk hC
 have ND:tn 0 gM:=T.keep _ _ _ st fun b _ o e=>hk b o e
 have fp1:∀{H':Hp} {p:Rn},(∀b∈fp,H' b=none)->(∀b∈fp,∀q∈p,q.1≠b)->∀b∈fp,o7 (bg X scope (own++kn) fp s H) p H' b:=fun {H' p} hn hp b qL=>
  ⟨hn b qL,(I1.ok.exf b qL).1,I1.ok.exfs b qL, .inl qL,fun x c e=>(I1.ok.exf b qL).2 x c e,fun q hq=>hp b qL q hq⟩
 obtain⟨m0,w0⟩:=w0;have loop:codeAny (model X.prog X.w) X.A (.compLoop (.ListComp elt [⟨tg,iter,ifs,0⟩] scope pos) 0 (.ref it) (.ref D) (bg X scope (own++kn) fp s H).env) R {s with heap:=gM,toks:=tk}:=by
  refine codeAny_loop rfl (fun n s'=>∃i ys H',Inv (bg X scope (own++kn) fp s H) [] (cZ own kp σ) H' s'/\tn i s'.heap/\(∀b∈fp,H' b=none)/\W i n ys H') (fun n s' hI=>?_) m0 ⟨0,[],H,I1,ND,fun b qL=>(hf b qL).1,w0⟩
  obtain⟨i,ys,H3,I3,EF,J4,w3⟩:=hI;show wpAny _ _ ((compTurn (.ListComp elt [⟨tg,iter,ifs,0⟩] scope pos) 0 (.ref it) (.ref D) (bg X scope (own++kn) fp s H).env).onRaise (fun x=>do noteFrame x (bg X scope (own++kn) fp s H).env;theTreesLotGoes x)) _ _ s'
  refine wpAny_noted (wpAny_noRaise ?_);rw[compTurn_list];refine wpAny_bind (wpAny_standAt (wpAny_bind ?_));rcases turn i n ys H3 w3 with⟨stop,q⟩ | ⟨go,step⟩
  .refine ee (T.done (bg X scope (own++kn) fp s H) rfl rfl rfl hc i [] s' _ H3 _ I3 (fp1 J4 (fun _ _ q hq=>by cases hq)) EF stop) fun r s4 ⟨hr,I4⟩=>?_
   subst hr;exact wpAny_pure (hR H3 s4 _ I4 q)
  .refine ee (T.item (bg X scope (own++kn) fp s H) rfl rfl rfl hc i [] s' _ H3 _ I3 (fp1 J4 (fun _ _ q hq=>by cases hq)) EF go) fun r s4 ⟨u,hr,h4⟩=>?_
   subst hr;refine wpAny_bind (ee h4 fun _ s5 ⟨x,H5,I5,r5,y5,Ho,L8⟩=>?_)
   have I5':=I5.pinned (fp1 L8 (fun _ _ q hq=>by cases hq)) (T.obj _ _ Ho)
   have keepIt:∀{vD:St} {H7:Hp} {s7:Shared},Inv (bg X scope (own++kn) fp s H) ([]++mi fp s5.heap) vD H7 s7->tn (i+1) s7.heap/\∀b∈fp,H7 b=none:=fun {vD H7 s7} I7=>by
    refine⟨T.keep _ _ _ Ho fun b hb o e=>(I7.pin (b,o) (List.mem_append_right _ (List.mem_append_right _ (j0 hb e)))).1,fun b hb=>?_⟩
    obtain⟨o,e,d⟩:=T.obj _ _ Ho b hb;exact(I7.pin (b,o) (List.mem_append_right _ (List.mem_append_right _ (j0 hb e)))).2.1
   have reset:∀{vD:St} {H7:Hp} {s7:Shared},Inv (bg X scope (own++kn) fp s H) ([]++mi fp s5.heap) vD H7 s7->Inv (bg X scope (own++kn) fp s H) [] (cZ own kp σ) H7 s7:=fun {vD H7 s7} I7=>by
    have I8:=I7.mJ;have hun:Un (zL X.stack) fp H H7 s.heap s7.heap:=I8.base;have I9:Inv X pins σ H7 s7:=pC I hf I8;refine⟨I8.ok,I8.os,I8.bare,I8.base,?_,I8.cell,I8.free,I8.freeC,I8.pin,I8.hok,I1.len⟩;obtain⟨m,hm,_⟩:=I8.loc;refine⟨m,hm,fun i x v h1 h2 h3=>?_⟩
    obtain⟨m1,J1,CK⟩:=I1.loc;obtain⟨u1,r1,l1⟩:=CK i x v h1 h2 h3;have h1:(own++kn)[i]? =some x:=h1;have h2:(cZ own kp σ)[i]? =some (some v):=h2;unfold cZ at h2;by_cases hi:i < own.length
    .rw [List.getElem?_append_left (by simpa using hi),List.getElem?_replicate] at h2
     split at h2 <;> cases h2
    .rw [List.getElem?_append_right (by simpa using hi),List.length_replicate,List.getElem?_map] at h2
     rw[List.getElem?_append_right (by simpa using hi)] at h1
     cases e:kp[i - own.length]? with
     | none=>rw [e] at h2;cases h2
     | some j=>
       rw[e] at h2;have h2:(σ[j]?).getD none=some v:=Option.some.inj h2;have hj:X.N[j]? =some x:=C.at_ _ j x e h1;have EA:σ[j]? =some (some v):=by
        cases q:σ[j]? with
        | none=>rw [q] at h2;cases h2
        | some y=>rw [q] at h2;exact congrArg some h2
       have hfree:scope.names.lookup x=some .free:=C.isfree x (List.mem_of_getElem? h1);have hkind:=C.free (x, .free) (PySem.mem_of_lookup hfree) rfl;obtain⟨m9,Rf,PM⟩:=I9.loc;obtain⟨u,r,l⟩:=PM j x v hj EA (hkind.elim (fun q=>Or.inr (Or.inl q)) fun q=>Or.inr (Or.inr q))
       refine⟨u,r, .inr ?_⟩;rcases l1 with⟨k,k2⟩ | ⟨k,c,hc,hcell⟩
       .have k:(relabel scope X.env).names.lookup x=some .local:=k;rcases d4 k with z | ⟨z,_⟩
        .rw [hfree] at z;cases z
        .cases z
       .refine⟨k,c,hc,?_⟩;rcases l with⟨k',_⟩ | ⟨_,c',zM,Ht⟩
        .rcases hkind with q | q
         .rw [show X.env.kindOf x=some .cell from q] at k';cases k'
         .rw [show X.env.kindOf x=some .free from q] at k';cases k'
        .have hcl:(lM X.env.cells scope.names []).lookup x=some c:=(sC _ _ _ fun z=>by have:=C.cel _ z rfl;rw [hfree] at this;cases this).symm.trans hc
         rcases iL scope.names [] hcl with q | ⟨q1,q2⟩
         .simp at q
         .rw [zM] at q2;have q2:c=c':=q2;rw[q2];exact Ht
   have hmm:=hg ([]++mi fp s5.heap) s5 (cZ own kp σ) H5 x u _ I5' r5 (step x H5 y5);refine wpAny_bind (ee hmm fun _ s6 ⟨JZ,H6,I6,q6⟩=>?_)
   refine wpAny_bind (ee (hi _ s6 JZ H6 _ I6 q6) fun ok s7 ⟨H7,I7,q7⟩=>?_)
   cases ok with
   | false=>
     simp only[Bool.false_eq_true,if_false] at q7 ⊢;obtain⟨m',Hl,w7⟩:=q7;obtain⟨a1,a2⟩:=keepIt I7;exact wpAny_pure ⟨rfl,m',Hl,i+1,ys,H7,reset I7,a1,a2,w7⟩
   | true=>
     simp only[if_true] at q7 ⊢;refine wpAny_bind (wpAny_bind (ee (he _ s7 JZ H7 _ I7 q7) fun yv s8 ⟨y,H8,I8,r8,hD,hlt,m',Hl,w8⟩=>wpAny_bind ?_))
     obtain⟨a1,a2⟩:=keepIt I8;refine ee (nC _ s8 JZ H8 (.ref D) [y] (.ref D) [yv] (fun v H9=>v= .cz/\H9=upd H8 D (.lst (ys++[y]))) I8 rfl (.cons r8 .nil) ⟨D,ys,y,rfl,rfl,hD,hlt,rfl,rfl⟩) fun _ s9 ⟨v9,H9,I9,_,_,e9⟩=>?_
     subst e9;obtain⟨b1,b2⟩:=keepIt I9;exact wpAny_pure (wpAny_pure ⟨rfl,m',Hl,i+1,ys++[y],_,reset I9,b1,b2,w8⟩)
 exact codeAny_compStart_list loop (T.self _ _ _ _ _ ND loop)
theorem xQ(hc:X.calm=true)(C:bt X scope own kp kn)(hi:PI X tg iter wi)(hg:∀fp s H,PG (bg X scope (own++kn) fp s H) tg g)(xc:∀fp s H,mN (bg X scope (own++kn) fp s H) ifs tc)
 (he:∀fp s H,PE (bg X scope (own++kn) fp s H) elt te) (hs:∀x,foldedSetIterable iter X.env x=pure x:=by intro _;rfl):PE X (.ListComp elt [⟨tg,iter,ifs,0⟩] scope pos) (xt wi g tc te own kp):=by
 intro pins s σ H Q I h;rw[eval_ListComp];refine wpAny_comprehension_free (use:=none) rfl hs (kf (mn C I)) C.kind C.nd (ee (hi pins s σ H _ I h) fun v s1 h1=>ee h1 fun Kl s2 h2=>?_)
 obtain⟨it,fp,tn,J,H2,e,I2,T,CN,f2,q⟩:=h2;subst e;refine wpAny_newObj_type ?_;have I3:Inv X pins σ (upd H2 s2.heap.objs.size (.lst [])) {s2 with heap:=s2.heap.push {cls:= .type "list",dict:=none,data:= .seq ([]:List Value).toArray}}:=I2.GU (its:=[]) (t':=s2.toks) .nil (Nat.zero_le _)
 obtain⟨W,w0,turn⟩:=q s2.heap.objs.size I2.fresh;have fne:∀b∈fp,b < s2.heap.objs.size:=fun b hb=>let⟨o,e,_⟩:=T.obj _ _ CN b hb;Heap.lt_size e
 have f3:∀b∈fp,o7 X pins (upd H2 s2.heap.objs.size (.lst [])) b:=fun b hb=>⟨by rw[aS (Nat.ne_of_lt (fne b hb))];exact(f2 b hb).1,(f2 b hb).2⟩
 generalize hs3:({s2 with heap:=s2.heap.push {cls:= .type "list",dict:=none,data:= .seq ([]:List Value).toArray}}:Shared)=s3 at I3 ⊢
 have EF:tn 0 s3.heap:=by rw[<-hs3];exact T.keep _ _ _ CN fun b _ o e=>Heap.get?_push_of_some _ e
 have fne3:∀b∈fp,b < s3.heap.objs.size:=fun b hb=>by rw[<-hs3];exact Nat.lt_of_lt_of_le (fne b hb) (by rw[Heap.size_push];exact Nat.le_succ _)
 refine rS fun gM xk hk hC=>?_
 refine u9 (D:=s2.heap.objs.size) hc C I3 f3 fne3 T (hg fp s3 _) (xc fp s3 _) (he fp s3 _) xk hk hC EF W w0 turn fun H' s' cX J' hq=>?_
 have B:=pC I3 f3 J';obtain⟨m',Hl,_⟩:=J'.loc;refine⟨m',Hl,fun h' sb=>⟨.ref s2.heap.objs.size,H',?_,rfl,hq⟩⟩
 have fC:=I3.tF (H':=H') (b:=s3.heap.objs.size) (Nat.le_refl _) J'.free;exact B.turned (it:=s3.heap.objs.size) (t':=s'.toks) (fun b o hb e=>(sb.2 b hb).trans e) fC.1 fC.2.1 fC.2.2.2.1 fC.2.2.2.2.1 fC.2.2.2.2.2
theorem pQ{i:Nat}{x:Str}{pos' qH:Pos}(hc:X.calm=true)(hN:X.N.Nodup)(hx:X.N[i]? =some x)(Ff:X.env.scope.names.lookup x=some .local)(C:bt X scope own kp kn)(hi:PI X tg iter wi)
 (hg:∀fp s H,PG (bg X scope (own++kn) fp s H) tg g) (xc:∀fp s H,mN (bg X scope (own++kn) fp s H) ifs tc)
 (he:∀fp s H,PE (bg X scope (own++kn) fp s H) elt te)
 (vC:swapsWith (.ListComp elt [⟨tg,iter,ifs,0⟩] scope pos) (some (.Name x pos')) qH.line X.env=pure true:=by rfl)
 (hs:∀x,foldedSetIterable iter X.env x=pure x:=by intro _;rfl) :
 PS X (.Assign [.Name x pos'] (.ListComp elt [⟨tg,iter,ifs,0⟩] scope pos) qH) (Bz (xt wi g tc te own kp) (qf i)):=by
 intro pins s σ H D I h;rw[exec_Assign_Name_used _ _ _ _ vC];refine wpAny_bind (wpAny_standAt (wpAny_bind ?_));show wpAny _ X.A (do let _ <-comprehension (.ListComp elt [⟨tg,iter,ifs,0⟩] scope pos) scope X.env _ (newList []) false (eval iter X.env) (some (assign (.Name x pos') X.env))) _ _ s
 refine wpAny_bind (wpAny_mono (wpAny_comprehension_free (use:=some (assign (.Name x pos') X.env)) (Q:=fun _ s'=>SP X pins D .next s') rfl hs (kf (mn C I)) C.kind C.nd
  (ee (hi pins s σ H _ I h) fun v s1 h1=>ee h1 fun Kl s2 h2=>?_)) (fun _ s' hq=>wpAny_pure (wpAny_pure hq)) fun _ _ e=>e)
 obtain⟨it,fp,tn,J,H2,e,I2,T,CN,f2,q⟩:=h2;subst e;refine wpAny_newObj_type ?_;have I3:Inv X pins σ (upd H2 s2.heap.objs.size (.lst [])) {s2 with heap:=s2.heap.push {cls:= .type "list",dict:=none,data:= .seq ([]:List Value).toArray}}:=I2.GU (its:=[]) (t':=s2.toks) .nil (Nat.zero_le _)
 obtain⟨W,w0,turn⟩:=q s2.heap.objs.size I2.fresh;have fne:∀b∈fp,b < s2.heap.objs.size:=fun b hb=>let⟨o,e,_⟩:=T.obj _ _ CN b hb;Heap.lt_size e
 have f3:∀b∈fp,o7 X pins (upd H2 s2.heap.objs.size (.lst [])) b:=fun b hb=>⟨by rw[aS (Nat.ne_of_lt (fne b hb))];exact(f2 b hb).1,(f2 b hb).2⟩
 generalize hs3:({s2 with heap:=s2.heap.push {cls:= .type "list",dict:=none,data:= .seq ([]:List Value).toArray}}:Shared)=s3 at I3 ⊢
 have EF:tn 0 s3.heap:=by rw[<-hs3];exact T.keep _ _ _ CN fun b _ o e=>Heap.get?_push_of_some _ e
 have fne3:∀b∈fp,b < s3.heap.objs.size:=fun b hb=>by rw[<-hs3];exact Nat.lt_of_lt_of_le (fne b hb) (by rw[Heap.size_push];exact Nat.le_succ _)
 refine rS fun gM xk hk hC=>?_
 refine u9 (Q:=fun x H1=>qf i x σ H1 D.nx) (D:=s2.heap.objs.size) hc C I3 f3 fne3 T (hg fp s3 _) (xc fp s3 _) (he fp s3 _) xk hk hC EF W w0 turn fun H' s' cX J' hq=>?_
 have B:=pC I3 f3 J';obtain⟨m',Hl,_⟩:=J'.loc;have fC:=I3.tF (H':=H') (b:=s3.heap.objs.size) (Nat.le_refl _) J'.free;show wpAny _ X.A (assign (.Name x pos') X.env (.ref s2.heap.objs.size)) _ _ s';refine wpAny_assign_Name (rL B hN hx (.inl Ff) (v:= .ref s2.heap.objs.size) rfl (fun s4 I4 ⟨a,sb,ha⟩=>?_) (.inr Ff))
 have ha':s3.heap.objs.size≠a:=by
  rcases ha with rfl | z
  .exact fC.2.1
  .exact fun e=>fC.2.2.2.2.1 x a z e.symm
 refine⟨m',Hl.sameBut sb ha',fun h' Qs=>⟨_,H',?_,hq⟩⟩
 exact I4.turned (it:=s3.heap.objs.size) (t':=s4.toks) (fun b o hb e=>(Qs.2 b hb).trans e) fC.1 fC.2.1 fC.2.2.2.1 fC.2.2.2.2.1 fC.2.2.2.2.2
end
end L2
end
section
namespace L2
open PySem PySem.Spec PyProof.Rows
inductive D where
 | cz | bl (b:Bool) | int (i:Int) | str (x:Str) | lst (ds:List D) | tup (ds:List D) | dct (ks:List Key) (ds:List D)
inductive R (α:Type) where
 | ok (a:α) | ex (c:Nat) | no
def R.bind{α β:Type}:R α->(α->R β)->R β
 | .ok a,f=>f a
 | .ex c,_=> .ex c
 | .no,_=> .no
theorem R.ai{α β:Type}{r:R α}{f:α->R β}{b:β}(h:r.bind f= .ok b):∃a,r= .ok a/\f a= .ok b:=by
 cases r with
 | ok a=>exact⟨a,rfl,h⟩
 | ex c=>cases h
 | no=>cases h
@[simp] theorem R.aJ{α β:Type}(a:α)(f:α->R β):(R.ok a).bind f=f a:=rfl
def R.aU{α:Type}(c:Bool)(r:R α):R α:=if c then r else .no
theorem R.aT{α:Type}{c:Bool}{r:R α}{a:α}(h:R.aU c r= .ok a):c=true/\r= .ok a:=by
 cases c with
 | true=>exact⟨rfl,h⟩
 | false=>cases h
@[simp] theorem R.HH{α:Type}(r:R α):R.aU true r=r:=rfl
def tj(K:W.Frag)(B:List Addr)(H:Hp)(a:Addr)(xs:List V):Prop:=
 (a ∉ B/\Rd H a (.lst xs))\/∃(its:List Value) (n:Nat),K.lookup a=some {cls:= .type "list",data:= .seq its.toArray n}/\xs.length<=sizeLine/\Vals xs its
def sf(K:W.Frag)(B:List Addr)(H:Hp)(a:Addr)(xs:List V):Prop:=
 (a ∉ B/\Rd H a (.tup xs))\/∃(o:Obj) (its:Array Value) (n:Nat),K.lookup a=some o/\o.cls= .type "tuple"/\o.data= .seq its n/\its.size<=sizeLine/\Vals xs its.toList
theorem tj.sq{K:W.Frag}{B:List Addr}{a:Addr}{xs:List V}(h:tj K B H a xs):mG K H a xs:=by
 rcases h with z | ⟨its,n,hk,hz,r⟩
 .exact .inl z.2
 .exact .inr ⟨_,its.toArray,n,hk,rfl,rfl,rfl,by rw[List.size_toArray,<-r.length];exact hz,by simpa using r⟩
theorem sf.sq{K:W.Frag}{B:List Addr}{a:Addr}{xs:List V}(h:sf K B H a xs):oX K H a xs:=h.elim (fun z=> .inl z.2) .inr
mutual
def Rep(K:W.Frag)(B:List Addr)(H:Hp):D->V->Prop
 | .cz,v=>v= .cz
 | .bl b,v=>v= .bl b
 | .int i,v=>v= .int i
 | .str x,v=>v= .str x
 | .lst ds,v=>∃a xs,v= .ref a/\tj K B H a xs/\aw K B H ds xs
 | .tup ds,v=>∃a xs,v= .ref a/\sf K B H a xs/\aw K B H ds xs
 | .dct ks ds,v=>∃(a:Addr) (aP:List (Key × V)),v= .ref a/\(a ∉ B/\H a=some (.dK aP))/\aP.map (·.1)=ks/\aw K B H ds (aP.map (·.2))
def aw(K:W.Frag)(B:List Addr)(H:Hp):List D->List V->Prop
 | [],xs=>xs=[]
 | d ::ds,xs=>∃x r,xs=x ::r/\Rep K B H d x/\aw K B H ds r
end
def c5(B:List Addr)(H:Hp)(B':List Addr)(H':Hp):Prop:=∀b o,H b=some o->b ∉ B->H' b=some o/\b ∉ B'
theorem c5.rd{B B':List Addr}(p:c5 B H B' H'){a:Addr}{u:HO}(h:Rd H a u)(n:a ∉ B):Rd H' a u/\a ∉ B':=by
 rcases h with e | ⟨o,e⟩
 .exact⟨.inl (p a _ e n).1,(p a _ e n).2⟩
 .exact⟨.inr ⟨o,(p a _ e n).1⟩,(p a _ e n).2⟩
theorem c5.trans{B B' JW:List Addr}(p:c5 B H B' H')(q:c5 B' H' JW l7):c5 B H JW l7:=fun b o e n=>
 let⟨e1,n1⟩:=p b o e n;q b o e1 n1
theorem c5.same{B:List Addr}(s:aK H H'):c5 B H B H':=fun b o e n=>⟨s b o e,n⟩
theorem c5.refl(B:List Addr)(H:Hp):c5 B H B H:=c5.same (aK.refl H)
theorem tj.aY{K:W.Frag}{B B':List Addr}(p:c5 B H B' H'){a:Addr}{xs:List V}(l:tj K B H a xs):tj K B' H' a xs:=
 l.elim (fun z=> .inl ⟨(p.rd z.2 z.1).2,(p.rd z.2 z.1).1⟩) .inr
mutual
theorem Rep.aY{K:W.Frag}{B B':List Addr}(p:c5 B H B' H'):∀{d:D} {v:V},Rep K B H d v->Rep K B' H' d v
 | .cz,_,h=>h
 | .bl _,_,h=>h
 | .int _,_,h=>h
 | .str _,_,h=>h
 | .lst ds,v,h=>by
   unfold Rep at h ⊢;obtain⟨a,xs,e,l,r⟩:=h;exact⟨a,xs,e,l.aY p,aw.aY p r⟩
 | .tup ds,v,h=>by
   unfold Rep at h ⊢;obtain⟨a,xs,e,l,r⟩:=h;exact⟨a,xs,e,l.elim (fun z=> .inl ⟨(p.rd z.2 z.1).2,(p.rd z.2 z.1).1⟩) .inr,aw.aY p r⟩
 | .dct ks ds,v,h=>by
   unfold Rep at h ⊢;obtain⟨a,aP,e,⟨n,l⟩,k,r⟩:=h;exact⟨a,aP,e,⟨(p a _ l n).2,(p a _ l n).1⟩,k,aw.aY p r⟩
theorem aw.aY{K:W.Frag}{B B':List Addr}(p:c5 B H B' H'):∀{ds:List D} {xs:List V},aw K B H ds xs->aw K B' H' ds xs
 | [],_,h=>h
 | d ::ds,xs,h=>by
   unfold aw at h ⊢;obtain⟨x,r,e,h1,h2⟩:=h;exact⟨x,r,e,Rep.aY p h1,aw.aY p h2⟩
end
theorem Rep.same{K:W.Frag}{B:List Addr}{d:D}{v:V}(h:Rep K B H d v)(s:aK H H'):Rep K B H' d v:=h.aY (c5.same s)
theorem aw.same{K:W.Frag}{B:List Addr}{d:List D}{v:List V}(h:aw K B H d v)(s:aK H H'):aw K B H' d v:=h.aY (c5.same s)
theorem aw.nil{K:W.Frag}{B:List Addr}:aw K B H [] []:=by unfold aw;rfl
theorem aw.cons{K:W.Frag}{B:List Addr}{d:D}{ds:List D}{x:V}{xs:List V}(h:Rep K B H d x)(t:aw K B H ds xs):aw K B H (d ::ds) (x ::xs):=by
 unfold aw;exact⟨x,xs,rfl,h,t⟩
theorem aw.bM{K:W.Frag}{B:List Addr}{d:D}{ds:List D}{xs:List V}(h:aw K B H (d ::ds) xs):∃x r,xs=x ::r/\Rep K B H d x/\aw K B H ds r:=by
 unfold aw at h;exact h
theorem aw.length{K:W.Frag}{B:List Addr}:∀{ds:List D} {xs:List V},aw K B H ds xs->ds.length=xs.length
 | [],_,h=>by unfold aw at h;rw [h];rfl
 | d ::ds,xs,h=>by
   obtain⟨x,r,rfl,_,h2⟩:=h.bM;simp [h2.length]
theorem aw.get{K:W.Frag}{B:List Addr}:∀{ds:List D} {xs:List V} {i:Nat} {d:D},aw K B H ds xs->ds[i]? =some d->∃x,xs[i]? =some x/\Rep K B H d x
 | [],_,_,_,_,e=>by simp at e
 | d ::ds,xs,0,d',h,e=>by
   obtain⟨x,r,rfl,h1,h2⟩:=h.bM;simp at e;subst e;exact⟨x,rfl,h1⟩
 | d ::ds,xs,i+1,d',h,e=>by
   obtain⟨x,r,rfl,h1,h2⟩:=h.bM;obtain⟨y,e1,e2⟩:=aw.get (i:=i) h2 (by simpa using e)
   exact⟨y,by simpa using e1,e2⟩
theorem aw.append{K:W.Frag}{B:List Addr}:∀{ds es:List D} {xs ys:List V},aw K B H ds xs->aw K B H es ys->aw K B H (ds++es) (xs++ys)
 | [],_,_,_,h,t=>by unfold aw at h;subst h;exact t
 | d ::ds,es,xs,ys,h,t=>by
   obtain⟨x,r,rfl,h1,h2⟩:=h.bM;exact aw.cons h1 (aw.append h2 t)
theorem aw.drop{K:W.Frag}{B:List Addr}:∀{ds:List D} {xs:List V} (n:Nat),aw K B H ds xs->aw K B H (ds.drop n) (xs.drop n)
 | _,_,0,h=>h
 | [],_,n+1,h=>by unfold aw at h;subst h;exact aw.nil
 | d ::ds,xs,n+1,h=>by
   obtain⟨x,r,rfl,h1,h2⟩:=h.bM;exact aw.drop n h2
theorem aw.take{K:W.Frag}{B:List Addr}:∀{ds:List D} {xs:List V} (n:Nat),aw K B H ds xs->aw K B H (ds.take n) (xs.take n)
 | _,_,0,h=>aw.nil
 | [],_,n+1,h=>by unfold aw at h;subst h;exact aw.nil
 | d ::ds,xs,n+1,h=>by
   obtain⟨x,r,rfl,h1,h2⟩:=h.bM;exact aw.cons h1 (aw.take n h2)
def D.atom:D->Bool
 | .cz=>true | .bl _=>true | .int _=>true | .str _=>true | _=>false
theorem Rep.atom{K:W.Frag}{B B':List Addr}{d:D}{v:V}(a:d.atom=true)(h:Rep K B H d v):Rep K B' H' d v:=by
 cases d <;> first | exact h | cases a
inductive Sl where
 | un | val (d:D) | bld (ds:List D)
abbrev ak:=List Sl
structure dA (K:W.Frag) (Z B:List Addr) (H:Hp) (σ:St) (δ:ak):Prop where
 len:δ.length=σ.length
 bs:∀a∈B,∃o,H a=some o
 zb:∀a∈Z,a∈B
 val:∀(i:Nat) (d:D),δ[i]? =some (.val d)->∃v,σ[i]? =some (some v)/\Rep K B H d v
 bld:∀(i:Nat) (ds:List D),δ[i]? =some (.bld ds)->∃a xs,σ[i]? =some (some (.ref a))/\a∈B/\a ∉ Z/\H a=some (.lst xs)/\aw K B H ds xs
 dis:∀(i j:Nat) (a:Addr) (ds es:List D),δ[i]? =some (.bld ds)->δ[j]? =some (.bld es)->σ[i]? =some (some (.ref a))->σ[j]? =some (some (.ref a))->i=j
theorem dA.same{K:W.Frag}{Z B:List Addr}{δ:ak}(E:dA K Z B H σ δ)(s:aK H H'):dA K Z B H' σ δ where
 len:=E.len
 bs:=fun a ha=>let⟨o,e⟩:=E.bs a ha;⟨o,s a o e⟩
 zb:=E.zb
 val:=fun i d e=>let⟨v,h1,h2⟩:=E.val i d e;⟨v,h1,h2.same s⟩
 bld:=fun i ds e=>let⟨a,xs,h1,h2,h3,h4,h5⟩:=E.bld i ds e;⟨a,xs,h1,h2,h3,s a _ h4,h5.same s⟩
 dis:=E.dis
def JB(δ:ak):ak:=δ.map fun x=>match x with | .bld ds=> .val (.lst ds) | y=>y
theorem PE.imp{X:Cx}{t t':TE}(h:PE X e t)(w:∀σ H Q,t' σ H Q->t σ H Q):PE X e t':=fun pins s σ H Q I hq=>h pins s σ H Q I (w σ H Q hq)
theorem PT.imp{X:Cx}{t t':TT}(h:PT X e t)(w:∀σ H Q,t' σ H Q->t σ H Q):PT X e t':=fun pins s σ H Q I hq=>h pins s σ H Q I (w σ H Q hq)
theorem PA.imp{X:Cx}{t t':TA}(h:PA X e t)(w:∀σ H Q,t' σ H Q->t σ H Q):PA X e t':=fun pos pins s σ H Q I hq=>h pos pins s σ H Q I (w σ H Q hq)
theorem PS.imp{X:Cx}{t t':TS}(h:PS X e t)(w:∀D σ H,t' D σ H->t D σ H):PS X e t':=fun pins s σ H D I hq=>h pins s σ H D I (w D σ H hq)
theorem ud.imp{X:Cx}{t t':TS}(h:ud X e t)(w:∀D σ H,t' D σ H->t D σ H):ud X e t':=fun pins s σ H D I hq=>h pins s σ H D I (w D σ H hq)
theorem PG.imp{X:Cx}{t t':TG}(h:PG X e t)(w:∀v σ H Q,t' v σ H Q->t v σ H Q):PG X e t':=fun pins s σ H v u Q I r hq=>h pins s σ H v u Q I r (w v σ H Q hq)
theorem PI.imp{X:Cx}{t t':TI}(h:PI X tg e t)(w:∀σ H Q,t' σ H Q->t σ H Q):PI X tg e t':=fun pins s σ H Q I hq=>h pins s σ H Q I (w σ H Q hq)
abbrev FD:=ak->R D
def tD(K:W.Frag)(f:FD):TE:=fun σ H Q=>∃Z B δ d,dA K Z B H σ δ/\f δ= .ok d/\∀v H',aK H H'->Rep K B H' d v->Q v H'
def tN(K:W.Frag)(f:ak->R (List D)):TE:=fun σ H Q=>∃Z B δ ds,dA K Z B H σ δ/\f δ= .ok ds/\∀a xs H',aK H H'->H a=none->H' a=some (.lst xs)->aw K (a ::B) H' ds xs->Q (.ref a) H'
def ET(K:W.Frag)(f:ak->R Bool):TT:=fun σ H Q=>∃Z B δ b,dA K Z B H σ δ/\f δ= .ok b/\∀H',aK H H'->Q b H'
def Nf(K:W.Frag)(f:ak->R (List D)):TA:=fun σ H Q=>∃Z B δ ds,dA K Z B H σ δ/\f δ= .ok ds/\∀vs H',aK H H'->aw K B H' ds vs->Q vs H'
abbrev PD(X:Cx)(e:Expr)(f:FD):Prop:=PE X e (tD X.K f)
abbrev PN(X:Cx)(e:Expr)(f:ak->R (List D)):Prop:=PE X e (tN X.K f)
abbrev PB(X:Cx)(e:Expr)(f:ak->R Bool):Prop:=PT X e (ET X.K f)
abbrev CB(X:Cx)(es:List Expr)(f:ak->R (List D)):Prop:=PA X es (Nf X.K f)
section
variable {X:Cx}
def eNew(f:ak->R (List D)):FD:=fun δ=>(f δ).bind fun ds=> .ok (.lst ds)
theorem GV{f:ak->R (List D)}(h:PN X e f):PD X e (eNew f):=h.imp fun σ H Q ⟨Z,B,δ,d,E,hf,q⟩=>by
 obtain⟨ds,h1,h2⟩:=R.ai hf;cases h2;refine⟨Z,B,δ,ds,E,h1,fun a xs H' s n e r=>q _ H' s ?_⟩
 unfold Rep;refine⟨a,xs,rfl, .inl ⟨fun ha=>?_, .inl e⟩,r.aY fun b o e nb=>⟨e,fun hb=>nb (List.mem_cons_of_mem _ hb)⟩⟩
 obtain⟨o,ho⟩:=E.bs a ha;rw[n] at ho;cases ho
theorem uh{B:List Addr}{H:Hp}{p:Addr}{o:HO}(h:H p=none):c5 B H (p ::B) (upd H p o):=fun b u e nb=>
 ⟨by rw[aS (cg e h)];exact e,fun hb=>by
   rcases List.mem_cons.mp hb with z | z
   .exact cg e h z
   .exact nb z⟩
def MX(f:FD):FD:=fun δ=>(f (JB δ)).bind fun d=>R.aU d.atom (.ok d)
def Ms(f:ak->R Bool):ak->R Bool:=fun δ=>f (JB δ)
def ag(i:Nat):FD:=fun δ=>match δ[i]? with | some (.val d)=> .ok d | _=> .no
def eC(d:D):FD:=fun _=> .ok d
theorem Fw(i:Nat){x:Str}{pos:Pos}(hN:X.N[i]? =some x:=by rfl)(hv:Cz X.env.scope x:=by first | exact Or.inl rfl | exact Or.inr (Or.inl rfl) | exact Or.inr (Or.inr rfl))(hd:(x==("__debug__":Str))=false:=by decide)
 (pb:(x==("__classdict__":Str))=false:=by decide):PD X (.Name x pos) (ag i):=(qh hN hv hd pb).imp fun σ H Q ⟨Z,B,δ,d,E,hf,q⟩=>by
 unfold ag at hf;split at hf
 .rename_i d' e;cases hf;obtain⟨v,h1,h2⟩:=E.val i d e;exact⟨v,h1,q v H (aK.refl H) h2⟩
 .cases hf
theorem p_{v:V}{d:D}(h:PE X e (tC v))(r:∀B H,Rep X.K B H d v):PD X e (eC d):=h.imp fun σ H Q ⟨Z,B,δ,d',E,hf,q⟩=>by
 cases hf;exact q v H (aK.refl H) (r B H)
theorem G_{i j pos}:PD X (.Constant (.int i) j pos) (eC (.int i)):=p_ pO fun _ _=>by unfold Rep;rfl
theorem II{b j pos}:PD X (.Constant (.bool b) j pos) (eC (.bl b)):=p_ Ic fun _ _=>by unfold Rep;rfl
theorem Gb{x j pos}:PD X (.Constant (.str x) j pos) (eC (.str x)):=p_ qo fun _ _=>by unfold Rep;rfl
def Glob(K:W.Frag)(mg:Rt)(x:Str)(d:D):Prop:=∃(u:Value) (v:V),mg x=some u/\RelV v u/\∀B H,Rep K B H d v
def aD:ak->R (List D):=fun _=> .ok []
def ah(f:FD)(g:ak->R (List D)):ak->R (List D):=fun δ=>(f δ).bind fun d=>(g δ).bind fun ds=> .ok (d ::ds)
theorem El:CB X [] aD:=gK.imp fun σ H Q ⟨Z,B,δ,d,E,hf,q⟩=>by
 cases hf;exact q [] H (aK.refl H) aw.nil
theorem zU{g:ak->R (List D)}(h:PD X e f)(t:CB X es g)(hs:starEach (e ::es) X.env=(false,eval e X.env) ::starEach es X.env:=by rfl):CB X (e ::es) (ah f g):=
 (dM h t hs).imp fun σ H Q ⟨Z,B,δ,d,E,hf,q⟩=>by
   obtain⟨d1,h1,h2⟩:=R.ai hf;obtain⟨ds,h3,h4⟩:=R.ai h2;cases h4;exact⟨Z,B,δ,d1,E,h1,fun v H1 s1 r1=>⟨Z,B,δ,ds,E.same s1,h3,fun vs H2 s2 r2=>q _ H2 (s1.trans s2) (aw.cons (r1.same s2) r2)⟩⟩
def bZ(g:ak->R (List D)):FD:=fun δ=>(g δ).bind fun ds=>R.aU (decide (ds.length<=sizeLine)) (.ok (.tup ds))
def fK(g:ak->R (List D)):ak->R (List D):=fun δ=>(g δ).bind fun ds=>R.aU (decide (ds.length<=sizeLine)) (.ok ds)
theorem aW{H:Hp}{p:Addr}{o:HO}(h:H p=none):aK H (upd H p o):=fun b u e=>by rw[aS (cg e h)];exact e
theorem GB{g:ak->R (List D)}{x1 pos}(h:CB X es g):PD X (.Tuple es x1 pos) (bZ g):=(AW h).imp fun σ H Q ⟨Z,B,δ,d,E,hf,q⟩=>by
 obtain⟨ds,h1,h2⟩:=R.ai hf;obtain⟨hl,h3⟩:=R.aT h2;cases h3;refine⟨Z,B,δ,ds,E,h1,fun vs H1 s1 r1=>⟨by rw[<-r1.length];exact of_decide_eq_true hl,fun p hp=>q _ _ (s1.trans (aW hp)) ?_⟩⟩
 unfold Rep;refine⟨p,vs,rfl, .inl ⟨fun ha=>?_, .inl aV⟩,r1.same (aW hp)⟩
 obtain⟨o,ho⟩:=(E.same s1).bs p ha;rw[hp] at ho;cases ho
theorem GC{g:ak->R (List D)}{pos}(h:CB X es g):PN X (.List es pos) (fK g):=(GR h).imp fun σ H Q ⟨Z,B,δ,d,E,hf,q⟩=>by
 obtain⟨ds,h1,h2⟩:=R.ai hf;obtain⟨hl,h3⟩:=R.aT h2;cases h3;exact⟨Z,B,δ,_,E,h1,fun vs H1 s1 r1=>⟨by rw[<-r1.length];exact of_decide_eq_true hl,fun p hp=>q p vs _ (s1.trans (aW hp)) (s1.free hp) aV (r1.aY (uh hp))⟩⟩
def ki(X:Cx)(f:Value->Value->Sem Value)(g:D->D->R D):Prop:=
 ∀(pins:Rn) (s:Shared) (σ:St) (H:Hp) (B:List Addr) (da db d:D) (x y:V) (v u:Value),Inv X pins σ H s->(∀a∈B,∃o,H a=some o)->RelV x v->RelV y u->Rep X.K B H da x->Rep X.K B H db y->g da db= .ok d->
  wpAny (model X.prog X.w) X.A (f v u) (EP X pins σ fun z H'=>aK H H'/\Rep X.K B H' d z) X.xe s
def e2(g:D->D->R D)(fa fb:FD):FD:=fun δ=>(fa δ).bind fun a=>(fb δ).bind fun b=>g a b
theorem ki.r{f:Value->Value->Sem Value}{g:D->D->R D}(h:ki X f g):lA X f (fun x y H Q=>∃B da db d,(∀a∈B,∃o,H a=some o)/\Rep X.K B H da x/\Rep X.K B H db y/\g da db= .ok d/\∀z H',aK H H'->Rep X.K B H' d z->Q z H'):=by
 intro pins s σ H x y v u Q I rx ry ⟨B,da,db,d,hb,ha,qL,hg,q⟩;exact ee (h pins s σ H B da db d x y v u I hb rx ry ha qL hg) fun z s' ⟨zv,H',I',r',s1,r1⟩=>⟨zv,H',I',r',q zv H' s1 r1⟩
theorem Hf{K:W.Frag}{g:D->D->R D}{Q:VK}(h:tD K (e2 g fa fb) σ H Q) :
 HK (fun x y H Q=>∃B da db d,(∀a∈B,∃o,H a=some o)/\Rep K B H da x/\Rep K B H db y/\g da db= .ok d/\∀z H',aK H H'->Rep K B H' d z->Q z H') (tD K fa) (tD K fb) σ H Q:=by
 obtain⟨Z,B,δ,d,E,hf,q⟩:=h;obtain⟨d1,h1,h2⟩:=R.ai hf;obtain⟨d2,h3,h4⟩:=R.ai h2;exact⟨Z,B,δ,d1,E,h1,fun v1 H1 s1 r1=>⟨Z,B,δ,d2,E.same s1,h3,fun v2 H2 s2 r2=>⟨B,d1,d2,d,(E.same (s1.trans s2)).bs,r1.same s2,r2,h4,fun z H' s3 r3=>q z H' (s1.trans (s2.trans s3)) r3⟩⟩⟩
theorem Iz{op:Operator}{g:D->D->R D}(ho:ki X (binaryOp op) g)(ha:PD X a fa)(hb:PD X b fb):PD X (.BinOp a op b pos) (e2 g fa fb):=
 (Jw ho.r ha hb).imp fun σ H Q h=>Hf h
theorem Fz{op:CmpOp}{g:D->D->R D}(ho:ki X (compareOp op) g)(ha:PD X a fa)(hb:PD X b fb)(hm:behindInMarks op b=false):PD X (.Compare a [op] [b] pos) (e2 g fa fb):=
 (xC ho.r ha hb hm).imp fun σ H Q h=>Hf h
def b2(g:D->D->R D)(fa fb:FD):ak->R Bool:=fun δ=>(e2 g fa fb δ).bind fun d=>match d with | .bl b=> .ok b | _=> .no
theorem Gw{op:CmpOp}{g:D->D->R D}(ho:ki X (compareOp op) g)(ha:PD X a fa)(hb:PD X b fb)(hm:behindInMarks op b=false):PB X (.Compare a [op] [b] pos) (b2 g fa fb):=
 (xX ho.r ha hb hm).imp fun σ H Q ⟨Z,B,δ,b,E,hf,q⟩=>by
   obtain⟨d,h1,h2⟩:=R.ai hf;cases d with
   | bl k=>
     cases h2;exact Hf (g:=g) (Q:=fun x H'=>∃k,x= .bl k/\Q k H') ⟨Z,B,δ, .bl b,E,h1,fun v H' s r=>⟨b,by unfold Rep at r;exact r,q H' s⟩⟩
   | _=>cases h2
def Lz(g g':D->D->R D)(fa fb fc:FD):FD:=fun δ=>(fa δ).bind fun a=>(fb δ).bind fun b=>(g a b).bind fun r=>match r with
 | .bl true=>(fc δ).bind fun c=>g' b c
 | .bl false=> .ok (.bl false)
 | _=> .no
def Dw:D->R Bool
 | .cz=> .ok false
 | .bl b=> .ok b
 | .int i=> .ok (i !=0)
 | .str x=>R.aU (decide (x.length<=sizeLine)) (.ok ((x.length:Int) !=0))
 | .lst ds=> .ok (!ds.isEmpty)
 | .tup ds=> .ok (!ds.isEmpty)
 | .dct _ _=> .no
def sG(f:FD):ak->R Bool:=fun δ=>(f δ).bind Dw
theorem aw.isEmpty{K:W.Frag}{B:List Addr}{ds:List D}{xs:List V}(h:aw K B H ds xs):ds.isEmpty=xs.isEmpty:=by
 have:=h.length;cases ds <;> cases xs <;> simp_all
theorem AX{K:W.Frag}{B:List Addr}{d:D}{v:V}{b:Bool}(r:Rep K B H d v)(h:Dw d= .ok b):D9 K v H b:=by
 cases d with
 | cz=>unfold Rep at r;subst r;cases h;exact rfl
 | bl k=>unfold Rep at r;subst r;cases h;exact rfl
 | int i=>unfold Rep at r;subst r;cases h;exact rfl
 | str x=>unfold Rep at r;subst r;obtain⟨h1,h2⟩:=R.aT h;cases h2;exact⟨of_decide_eq_true h1,rfl⟩
 | lst ds=>unfold Rep at r;obtain⟨a,xs,rfl,l,r⟩:=r;cases h;exact .inl ⟨xs,l.sq,by rw[r.isEmpty]⟩
 | tup ds=>unfold Rep at r;obtain⟨a,xs,rfl,l,r⟩:=r;cases h;exact .inr (.inl ⟨xs,l.sq,by rw[r.isEmpty]⟩)
 | dct _ _=>cases h
theorem Hb{a:Expr}(ha:PD X a f)(he:∀whole,isTrue a X.env whole=(do let v <-whole;standAt a.pos;holding [v] (truthy v)):=by intro _;rfl):PB X a (sG f):=
 (uq ha he).imp fun σ H Q ⟨Z,B,δ,b,E,hf,q⟩=>by
   obtain⟨d,h1,h2⟩:=R.ai hf;exact⟨Z,B,δ,d,E,h1,fun v H' s r=>⟨b,AX r h2,q H' s⟩⟩
def Pl(f g:ak->R Bool):ak->R Bool:=fun δ=>(f δ).bind fun b=>if b then g δ else .ok false
def Q0(f g:ak->R Bool):ak->R Bool:=fun δ=>(f δ).bind fun b=>if b then .ok true else g δ
def sJ(f:ak->R Bool):ak->R Bool:=fun δ=>(f δ).bind fun b=> .ok (!b)
def Pj(X:Cx)(e:Expr)(f:ak->R Bool):Prop:=PW X e (ET X.K f)
theorem F3{f:ak->R Bool}(ha:PB X a f):PB X (.UnaryOp .Not a pos) (sJ f):=(Gq ha).imp fun σ H Q ⟨Z,B,δ,k,E,hf,q⟩=>by
 obtain⟨c,h1,h2⟩:=R.ai hf;cases h2;exact⟨Z,B,δ,c,E,h1,fun H1 s1=>q H1 s1⟩
def EX(f:FD):ak->R Bool:=fun δ=>(f δ).bind fun d=>match d with | .bl b=> .ok b | _=> .no
def Ek(f g:FD):FD:=fun δ=>(EX f δ).bind fun b=>if b then g δ else .ok (.bl false)
def Q1(f g:FD):FD:=fun δ=>(EX f δ).bind fun b=>if b then .ok (.bl true) else g δ
def Ow(f:FD):FD:=fun δ=>(EX f δ).bind fun b=> .ok (.bl (!b))
theorem FY{f:FD}{δ:ak}{b:Bool}(h:EX f δ= .ok b):f δ= .ok (.bl b):=by
 obtain⟨d,h1,h2⟩:=R.ai h;cases d with
 | bl k=>cases h2;exact h1
 | _=>cases h2
theorem Gh{op}(h:PD X a f):PD X (.BoolOp op [a] pos) f:=Ft h
theorem Gp{rest:List Expr}(ha:PD X a f)(hb:PD X (.BoolOp .And (b ::rest) pos) g):PD X (.BoolOp .And (a ::b ::rest) pos) (Ek f g):=(FC ha hb).imp fun σ H Q ⟨Z,B,δ,k,E,hf,q⟩=>by
 obtain⟨c,h1,h2⟩:=R.ai hf;refine⟨Z,B,δ, .bl c,E,FY h1,fun v H1 s1 r1=>⟨c,by unfold Rep at r1;exact r1,?_⟩⟩
 cases c with
 | true=>rw [if_pos rfl] at h2 ⊢;exact⟨Z,B,δ,k,E.same s1,h2,fun v H' s2 r2=>q v H' (s1.trans s2) r2⟩
 | false=>rw [if_neg (by decide)] at h2 ⊢;cases h2;exact q _ H1 s1 (by unfold Rep;rfl)
def HI(c:ak->R Bool)(f g:FD):FD:=fun δ=>(c δ).bind fun b=>if b then f δ else g δ
theorem Iy{fc:ak->R Bool}(hc:PB X c fc)(ha:PD X a f)(hb:PD X b g):PD X (.IfExp c a b pos) (HI fc f g):=(AE hc ha hb).imp fun σ H Q ⟨Z,B,δ,k,E,hf,q⟩=>by
 obtain⟨c,h1,h2⟩:=R.ai hf;refine⟨Z,B,δ,c,E,h1,fun H1 s1=>?_⟩
 cases c with
 | true=>rw [if_pos rfl] at h2 ⊢;exact⟨Z,B,δ,k,E.same s1,h2,fun v H' s2 r2=>q v H' (s1.trans s2) r2⟩
 | false=>rw [if_neg (by decide)] at h2 ⊢;exact⟨Z,B,δ,k,E.same s1,h2,fun v H' s2 r2=>q v H' (s1.trans s2) r2⟩
def cD(X:Cx)(f:Value)(g:List D->R D):Prop:=
 ∀(pins:Rn) (s:Shared) (σ:St) (H:Hp) (B:List Addr) (ds:List D) (d:D) (xs:List V) (us:List Value),Inv X pins σ H s->(∀a∈B,∃o,H a=some o)->Vals xs us->aw X.K B H ds xs->g ds= .ok d->
  wpAny (model X.prog X.w) X.A (call f us) (EP X pins σ fun z H'=>aK H H'/\Rep X.K B H' d z) X.xe s
def aQ(g:List D->R D)(fs:ak->R (List D)):FD:=fun δ=>(fs δ).bind g
theorem cD.r{f:Value}{g:List D->R D}(h:cD X f g):lW X f (fun xs H Q=>∃B ds d,(∀a∈B,∃o,H a=some o)/\aw X.K B H ds xs/\g ds= .ok d/\∀z H',aK H H'->Rep X.K B H' d z->Q z H'):=by
 intro pins s σ H xs us Q I rx ⟨B,ds,d,hb,hr,hg,q⟩;exact ee (h pins s σ H B ds d xs us I hb rx hr hg) fun z s' ⟨zv,H',I',r',s1,r1⟩=>⟨zv,H',I',r',q zv H' s1 r1⟩
theorem x8{K:W.Frag}{g:List D->R D}{fs:ak->R (List D)}{Q:VK}(h:tD K (aQ g fs) σ H Q) :
 Nf K fs σ H fun vs H1=>∃B ds d,(∀a∈B,∃o,H1 a=some o)/\aw K B H1 ds vs/\g ds= .ok d/\∀z H',aK H1 H'->Rep K B H' d z->Q z H':=by
 obtain⟨Z,B,δ,d,E,hf,q⟩:=h;obtain⟨ds,h1,h2⟩:=R.ai hf;exact⟨Z,B,δ,ds,E,h1,fun vs H1 s1 r1=>⟨B,ds,d,(E.same s1).bs,r1,h2,fun z H' s2 r2=>q z H' (s1.trans s2) r2⟩⟩
theorem z8{g:List D->R D}{x:Str}{id:String}{p pos:Pos}{e:Expr}{es:List Expr}{fs:ak->R (List D)}(hc:cD X (.builtin id) g)(hg:Gl X x)(hm:X.mg x=none)(hv:bootBuiltins x=some (.builtin id))(ha:CB X (e ::es) fs)(hn:x≠"__name__":=by decide)(oA:(x==("__debug__":Str))=false:=by decide)
 (he:starEach (e ::es) X.env=(false,eval e X.env) ::starEach es X.env:=by rfl) (kx:(backTo pos (starEach es X.env)).any (·.1)=false:=by rfl):PD X (.Call (.Name x p) (e ::es) [] pos) (aQ g fs):=
 (Ay hc.r hg hm hv ha hn oA he kx).imp fun σ H Q h=>x8 h
theorem zr{g:List D->R D}{x:Str}{T:String}{p pos:Pos}{e:Expr}{es:List Expr}{fs:ak->R (List D)}(hc:cD X (.type T) g)(hg:Gl X x)(hm:X.mg x=none)(hv:bootBuiltins x=some (.type T))(ha:CB X (e ::es) fs)(hn:x≠"__name__":=by decide)(oA:(x==("__debug__":Str))=false:=by decide)
 (he:starEach (e ::es) X.env=(false,eval e X.env) ::starEach es X.env:=by rfl) (kx:(backTo pos (starEach es X.env)).any (·.1)=false:=by rfl):PD X (.Call (.Name x p) (e ::es) [] pos) (aQ g fs):=
 (zq hc.r hg hm hv ha hn oA he kx).imp fun σ H Q h=>x8 h
def B7(K:W.Frag)(n:Nat)(g:List D->R D):Sp:=fun vs H Q _=>vs.length=n/\∃B ds d,(∀a∈B,∃o,H a=some o)/\aw K B H ds vs/\g ds= .ok d/\∀z H',aK H H'->Rep K B H' d z->Q z H'
theorem DW{g:List D->R D}{k n:Nat}{f:Addr}{fd:FuncData}{ps:List Str}{x:Str}{p pos:Pos}{e:Expr}{es:List Expr}{fs:ak->R (List D)}
 (F:gR X.prog X.w X.K X.mg X.base q8 k f fd ps (B7 X.K n g)) (hr:dR k X.A) (hg:Gl X x) (hm:X.mg x=some (.ref f)) (hk:PySem.W.keepIn X.K (.ref f)=true) (hb:Binds X.K fd ps []) (ha:CB X (e ::es) fs)
 (hn:∀δ ds,fs δ= .ok ds->ds.length=n) (oA:(x==("__debug__":Str))=false:=by decide) (he:starEach (e ::es) X.env=(false,eval e X.env) ::starEach es X.env:=by rfl) (kx:(backTo pos (starEach es X.env)).any (·.1)=false:=by rfl) :
 PD X (.Call (.Name x p) (e ::es) [] pos) (aQ g fs):=
 (tq F hr hg hm hk hb .nil ui ha oA he kx).imp fun σ H Q ⟨Z,B,δ,d,E,hf,q⟩=>by
   obtain⟨ds,h1,h2⟩:=R.ai hf;refine⟨Z,B,δ,ds,E,h1,fun vs H1 s1 r1=>?_⟩
   show B7 X.K n g (vs++[]) H1 Q E0;rw[List.append_nil];exact⟨by rw[<-r1.length];exact hn δ ds h1,B,ds,d,(E.same s1).bs,r1,h2,fun z H' s2 r2=>q z H' (s1.trans s2) r2⟩
end
end L2
end
section
namespace L2
open PySem PySem.Spec PyProof.Rows
inductive Out where
 | nx (δ:ak) | rt (d:D)
abbrev FS:=ak->R Out
structure Ev (Z B:List Addr) (H:Hp) (B':List Addr) (H':Hp):Prop where
 aY:c5 B H B' H'
 zs:∀b o,H b=some o->b∈Z->H' b=some o/\b∈B'
theorem Ev.refl(Z B:List Addr)(H:Hp)(zb:∀a∈Z,a∈B):Ev Z B H B H:=⟨c5.refl B H,fun b o e z=>⟨e,zb b z⟩⟩
theorem Ev.trans{Z B B' JW:List Addr}(a:Ev Z B H B' H')(b:Ev Z B' H' JW l7):Ev Z B H JW l7:=
 ⟨a.aY.trans b.aY,fun c o e z=>let⟨e1,_⟩:=a.zs c o e z;b.zs c o e1 z⟩
theorem Ev.same{Z B:List Addr}(zb:∀a∈Z,a∈B)(s:aK H H'):Ev Z B H B H':=⟨c5.same s,fun b o e z=>⟨s b o e,zb b z⟩⟩
def xS(K:W.Frag)(Z B:List Addr)(H:Hp)(D:Ends):Out->Prop
 | .nx dH=>∀cX B' H',Ev Z B H B' H'->dA K Z B' H' cX dH->D.nx cX H'
 | .rt d=>∀v B' H',Ev Z B H B' H'->(∀a∈Z,a∈B')->Rep K B' H' d v->D.rt v H'
theorem xS.ev{K:W.Frag}{Z B B1:List Addr}{D:Ends}{o:Out}(q:xS K Z B H D o)(ev:Ev Z B H B1 H1):xS K Z B1 H1 D o:=by
 cases o with
 | nx dH=>exact fun cX B' H' Cs E'=>q cX B' H' (ev.trans Cs) E'
 | rt d=>exact fun v B' H' Cs z r=>q v B' H' (ev.trans Cs) z r
def sD(K:W.Frag)(F:FS):TS:=fun D σ H=>∃Z B δ o,dA K Z B H σ δ/\F δ= .ok o/\xS K Z B H D o
abbrev A3(X:Cx)(st:Stmt)(F:FS):Prop:=PS X st (sD X.K F)
abbrev oY(X:Cx)(st:List Stmt)(F:FS):Prop:=ud X st (sD X.K F)
section
variable {X:Cx}
def nB:FS:=fun δ=> .ok (.nx δ)
def dJ(F G:FS):FS:=fun δ=>(F δ).bind fun o=>match o with | .nx dH=>G dH | .rt d=> .ok (.rt d)
theorem Ej:oY X [] nB:=xE.imp fun D σ H ⟨Z,B,δ,o,E,hf,q⟩=>by
 cases hf;exact q σ B H (Ev.refl Z B H E.zb) E
theorem F_{K:W.Frag}{F G:FS}{D:Ends}(h:sD K (dJ F G) D σ H):Ie (sD K F) (sD K G) D σ H:=by
 obtain⟨Z,B,δ,o,E,hf,q⟩:=h;obtain⟨o1,h1,h2⟩:=R.ai hf;refine⟨Z,B,δ,o1,E,h1,?_⟩;cases o1 with
 | nx cY=>
   intro J3 B1 H1 ev E1;refine⟨Z,B1,cY,o,E1,h2,?_⟩;cases o with
   | nx dj=>exact fun cX B' H' Cs E'=>q cX B' H' (ev.trans Cs) E'
   | rt d=>exact fun v B' H' Cs z r=>q v B' H' (ev.trans Cs) z r
 | rt d=>
   cases h2;exact q
theorem BY{st:Stmt}{rest:List Stmt}{F G:FS}(h1:A3 X st F)(h2:oY X rest G):oY X (st ::rest) (dJ F G):=(uw h1 h2).imp fun D σ H h=>F_ h
theorem En{st:Stmt}{F:FS}(h1:A3 X st F):oY X [st] F:=xq h1
theorem dA.set{K:W.Frag}{Z B:List Addr}{σ:St}{δ:ak}(E:dA K Z B H σ δ){i:Nat}{d:D}{v:V}(hi:i < σ.length)(r:Rep K B H d v):dA K Z B H (σ.set i (some v)) (δ.set i (.val d)) where
 len:=by rw[List.length_set,List.length_set];exact E.len
 bs:=E.bs
 zb:=E.zb
 val:=fun j d' e=>by
  by_cases h:i=j
  .subst h;rw[List.getElem?_set_self (by rw[E.len];exact hi)] at e
   cases e;exact⟨v,List.getElem?_set_self hi,r⟩
  .rw [List.getElem?_set_ne h] at e ⊢;exact E.val j d' e
 bld:=fun j ds e=>by
  by_cases h:i=j
  .subst h;rw[List.getElem?_set_self (by rw[E.len];exact hi)] at e
   cases e
  .rw [List.getElem?_set_ne h] at e ⊢;exact E.bld j ds e
 dis:=fun j k a ds es e1 e2 e3 e4=>by
  by_cases h:i=j
  .subst h;rw[List.getElem?_set_self (by rw[E.len];exact hi)] at e1
   cases e1
  .by_cases h':i=k
   .subst h';rw[List.getElem?_set_self (by rw[E.len];exact hi)] at e2
    cases e2
   .rw [List.getElem?_set_ne h] at e1 e3;rw[List.getElem?_set_ne h'] at e2 e4;exact E.dis j k a ds es e1 e2 e3 e4
theorem dA.setB{K:W.Frag}{Z B:List Addr}{H:Hp}{σ:St}{δ:ak}(E:dA K Z B H σ δ){i:Nat}{ds:List D}{a:Addr}{xs:List V}(hi:i < σ.length)(hB:a∈B)(hZ:a ∉ Z)(hH:H a=some (.lst xs))(r:aw K B H ds xs)
 (new:∀j es,j≠i->δ[j]? =some (.bld es)->σ[j]?≠some (some (.ref a))):dA K Z B H (σ.set i (some (.ref a))) (δ.set i (.bld ds)) where
 len:=by rw[List.length_set,List.length_set];exact E.len
 bs:=E.bs
 zb:=E.zb
 val:=fun j d' e=>by
  by_cases h:i=j
  .subst h;rw[List.getElem?_set_self (by rw[E.len];exact hi)] at e
   cases e
  .rw [List.getElem?_set_ne h] at e ⊢;exact E.val j d' e
 bld:=fun j es e=>by
  by_cases h:i=j
  .subst h;rw[List.getElem?_set_self (by rw[E.len];exact hi)] at e
   cases e;exact⟨a,xs,List.getElem?_set_self hi,hB,hZ,hH,r⟩
  .rw [List.getElem?_set_ne h] at e ⊢;exact E.bld j es e
 dis:=fun j k b JU JY e1 e2 e3 e4=>by
  by_cases h:i=j
  .subst h;by_cases h':i=k
   .exact h'
   .rw [List.getElem?_set_self hi] at e3;cases e3;rw[List.getElem?_set_ne h'] at e2 e4;exact absurd e4 (new k JY (Ne.symm h') e2)
  .by_cases h':i=k
   .subst h';rw[List.getElem?_set_self hi] at e4;cases e4;rw[List.getElem?_set_ne h] at e1 e3;exact absurd e3 (new j JU (Ne.symm h) e1)
   .rw [List.getElem?_set_ne h] at e1 e3;rw[List.getElem?_set_ne h'] at e2 e4;exact E.dis j k b JU JY e1 e2 e3 e4
def jC(i:Nat)(f:FD):FS:=fun δ=>(f δ).bind fun d=>R.aU (decide (i < δ.length)) (.ok (.nx (δ.set i (.val d))))
theorem FI{K:W.Frag}{i:Nat}{D:Ends}(h:sD K (jC i f) D σ H):Bz (tD K f) (qf i) D σ H:=by
 obtain⟨Z,B,δ,o,E,hf,q⟩:=h;obtain⟨d,h1,h2⟩:=R.ai hf;obtain⟨hi,h3⟩:=R.aT h2;cases h3;refine⟨Z,B,δ,d,E,h1,fun v H1 s1 r1=>?_⟩
 exact q _ B H1 (Ev.same E.zb s1) ((E.same s1).set (by rw[<-E.len];exact of_decide_eq_true hi) r1)
theorem Dh{i:Nat}{pos pos':Pos}(hN:X.N.Nodup)(hi:X.N[i]? =some x)(hx:Loc X.env.scope x)(he:PD X e f)(hs:swapsWith e (some (.Name x pos')) pos.line X.env=pure false:=by rfl)(hf:X.fn x=true\/X.env.scope.names.lookup x=some .local:=by first | exact .inl rfl | exact .inr rfl | assumption) :
 A3 X (.Assign [.Name x pos'] e pos) (jC i f):=(wy hN hi hx he hs hf).imp fun D σ H h=>FI h
def tf(i:Nat)(f:ak->R (List D)):FS:=fun δ=>(f δ).bind fun ds=>R.aU (decide (i < δ.length)) (.ok (.nx (δ.set i (.bld ds))))
theorem AL{K:W.Frag}{i:Nat}{f:ak->R (List D)}{D:Ends}(h:sD K (tf i f) D σ H):Bz (tN K f) (qf i) D σ H:=by
 obtain⟨Z,B,δ,o,E,hf,q⟩:=h;obtain⟨ds,h1,h2⟩:=R.ai hf;obtain⟨hi,h3⟩:=R.aT h2;cases h3;refine⟨Z,B,δ,ds,E,h1,fun a xs H1 s1 n e r=>?_⟩
 have E1:=E.same s1;have aB:a ∉ B:=fun ha=>by obtain⟨o,ho⟩:=E.bs a ha;rw [n] at ho;cases ho
 have nZ:a ∉ Z:=fun ha=>aB (E.zb a ha)
 have p0:c5 B H (a ::B) H1:=fun b o e' nb=>⟨s1 b o e',fun hb=>by
  rcases List.mem_cons.mp hb with z | z
  .subst z;rw [n] at e';cases e'
  .exact nb z⟩
 have E2:dA K Z (a ::B) H1 σ δ:={
  len:=E.len
  bs:=fun b hb=>by
   rcases List.mem_cons.mp hb with z | z
   .subst z;exact⟨_,e⟩
   .exact E1.bs b z
  zb:=fun b hb=>List.mem_cons_of_mem _ (E.zb b hb)
  val:=fun j d e=>let⟨v,q1,q2⟩:=E.val j d e;⟨v,q1,q2.aY p0⟩
  bld:=fun j es e=>let⟨b,ys,q1,q2,q3,q4,q5⟩:=E.bld j es e;⟨b,ys,q1,List.mem_cons_of_mem _ q2,q3,s1 b _ q4,q5.aY p0⟩
  dis:=E.dis}
 refine q _ (a ::B) H1 ⟨p0,fun b o e' hb=>⟨s1 b o e',List.mem_cons_of_mem _ (E.zb b hb)⟩⟩ (E2.setB (by rw[<-E.len];exact of_decide_eq_true hi) List.mem_cons_self nZ e r fun j es hj ej EA=>?_)
 obtain⟨b,ys,q1,_,_,q4,_⟩:=E.bld j es ej;rw[EA] at q1;cases q1;rw[n] at q4;cases q4
theorem CY{i:Nat}{f:ak->R (List D)}{pos pos':Pos}(hN:X.N.Nodup)(hi:X.N[i]? =some x)(hx:Loc X.env.scope x)(he:PN X e f)(hs:swapsWith e (some (.Name x pos')) pos.line X.env=pure false:=by rfl)(hf:X.fn x=true\/X.env.scope.names.lookup x=some .local:=by first | exact .inl rfl | exact .inr rfl | assumption) :
 A3 X (.Assign [.Name x pos'] e pos) (tf i f):=(wy hN hi hx he hs hf).imp fun D σ H h=>AL h
theorem dA.grow{K:W.Frag}{Z B:List Addr}{H:Hp}{σ:St}{δ:ak}(E:dA K Z B H σ δ){i:Nat}{ds es:List D}{a:Addr}{xs ys:List V}(hd:δ[i]? =some (.bld ds))(EA:σ[i]? =some (some (.ref a)))(hB:a∈B)(hH:H a=some (.lst xs))(r:aw K B H es ys) :
 dA K Z B (upd H a (.lst ys)) σ (δ.set i (.bld es))/\c5 B H B (upd H a (.lst ys)):=by
 have p:c5 B H B (upd H a (.lst ys)):=fun b o e nb=>⟨by rw[aS (fun(z:b=a)=>nb (by rw[z];exact hB))];exact e,nb⟩
 have hi:i < δ.length:=(List.getElem?_eq_some_iff.mp hd).1;refine⟨{
  len:=by rw[List.length_set];exact E.len
  bs:=fun b hb=>by
   by_cases z:b=a
   .subst z;exact⟨_,aV⟩
   .rw [aS z];exact E.bs b hb
  zb:=E.zb
  val:=fun j d e=>by
   by_cases h:i=j
   .subst h;rw [List.getElem?_set_self hi] at e;cases e
   .rw [List.getElem?_set_ne h] at e;obtain⟨v,q1,q2⟩:=E.val j d e;exact⟨v,q1,q2.aY p⟩
  bld:=fun j fs e=>by
   by_cases h:i=j
   .subst h;rw [List.getElem?_set_self hi] at e;cases e;obtain⟨b,zs,q1,q2,q3,_,_⟩:=E.bld i ds hd;rw[EA] at q1;cases q1;exact⟨a,ys,EA,hB,q3,aV,r.aY p⟩
   .rw [List.getElem?_set_ne h] at e;obtain⟨b,zs,q1,q2,q3,q4,q5⟩:=E.bld j fs e;have ne:b≠a:=fun z=>by subst z;exact h (E.dis i j b ds fs hd e EA q1)
    exact⟨b,zs,q1,q2,q3,by rw[aS ne];exact q4,q5.aY p⟩
  dis:=fun j k b JU JY e1 e2 e3 e4=>by
   have f1:∃fs,δ[j]? =some (.bld fs):=by
    by_cases h:i=j
    .subst h;exact⟨ds,hd⟩
    .rw [List.getElem?_set_ne h] at e1;exact⟨_,e1⟩
   have f2:∃fs,δ[k]? =some (.bld fs):=by
    by_cases h:i=k
    .subst h;exact⟨ds,hd⟩
    .rw [List.getElem?_set_ne h] at e2;exact⟨_,e2⟩
   obtain⟨_,f1⟩:=f1;obtain⟨_,f2⟩:=f2;exact E.dis j k b _ _ f1 f2 e3 e4},p⟩
theorem Ev.grow{Z B:List Addr}{a:Addr}{o:HO}(zb:∀a∈Z,a∈B)(hZ:a ∉ Z)(p:c5 B H B (upd H a o)):Ev Z B H B (upd H a o):=
 ⟨p,fun b u e hb=>⟨by rw[aS (fun(z:b=a)=>hZ (by rw[<-z];exact hb))];exact e,zb b hb⟩⟩
def nk(δ:ak)(i:Nat):R (List D):=match δ[i]? with | some (.bld ds)=> .ok ds | _=> .no
theorem vi{δ:ak}{i:Nat}{ds:List D}(h:nk δ i= .ok ds):δ[i]? =some (.bld ds):=by
 unfold nk at h;split at h
 .rename_i q;cases h;exact q
 .cases h
def AG(i:Nat)(f:FD):FS:=fun δ=>(f δ).bind fun d=>(nk δ i).bind fun ds=>R.aU (decide (ds.length < sizeLine)) (.ok (.nx (δ.set i (.bld (ds++[d])))))
theorem D_{i:Nat}{x:Str}{e:Expr}{f:FD}{fG apos b_ pos:Pos}(hN:X.N[i]? =some x)(hv:Cz X.env.scope x)(he:PD X e f)
 (hd:(x==("__debug__":Str))=false:=by decide) (pb:(x==("__classdict__":Str))=false:=by decide)
 (hs:starEach [e] X.env=(false,eval e X.env) ::starEach [] X.env:=by rfl) (ll:(apos.endLine==b_.line)=true:=by rfl)
 (qJ:((backTo b_ (starEach [e] X.env)).all (fun x=>!x.1) && (backToKw b_ (keywordEach [] X.env)).all (fun x=>x.1.isSome)
   && decide (([e]:List Expr).length+([]:List Keyword).length+(if([]:List Keyword).isEmpty then 0 else 1) < 30))=true:=by rfl)
 (vC:swapsWith (.Call (.Attribute (.Name x fG) "append" apos) [e] [] b_) none pos.line X.env=pure false:=by rfl)
 (lj:attributeBase (.Name x fG) "append" X.env (eval (.Name x fG) X.env)=eval (.Name x fG) X.env:=by rfl) :
 A3 X (.Expr (.Call (.Attribute (.Name x fG) "append" apos) [e] [] b_) pos) (AG i f):=by
 refine(tG (Aq (X:=X) PySem.F.plainAttrs_list PySem.F.slot_list_append PySem.F.type_list_append nC (qh hN hv hd pb) (dM he gK hs) lj qJ ll hs) vC).imp fun D σ H ⟨Z,B,δ,o,E,hf,q⟩=>?_
 obtain⟨d,h1,h2⟩:=R.ai hf;obtain⟨ds,h3,h4⟩:=R.ai h2;obtain⟨hl,h5⟩:=R.aT h4;cases h5;have hb:=vi h3;obtain⟨a,xs,q1,q2,q3,q4,q5⟩:=E.bld i ds hb;refine⟨.ref a,q1, .inl ⟨rfl,xs,mG.of q4⟩,⟨Z,B,δ,d,E,h1,fun v H1 s1 r1=>?_⟩⟩
 have E1:=E.same s1;refine⟨a,xs,v,rfl,rfl,s1 a _ q4,by rw[<-q5.length];exact of_decide_eq_true hl,?_⟩
 obtain⟨E2,p2⟩:=E1.grow (es:=ds++[d]) (ys:=xs++[v]) hb q1 q2 (s1 a _ q4) ((q5.same s1).append (aw.cons r1 aw.nil));exact q σ B _ ((Ev.same E.zb s1).trans (Ev.grow E.zb q3 p2)) E2
def C2(i:Nat)(f:ak->R (List D)):FS:=fun δ=>(f δ).bind fun es=>(nk δ i).bind fun ds=>R.aU (decide (ds.length+es.length<=sizeLine)) (.ok (.nx (δ.set i (.bld (ds++es)))))
theorem DS{i:Nat}{x:Str}{e:Expr}{f:ak->R (List D)}{fG apos b_ pos:Pos}(hN:X.N[i]? =some x)(hv:Cz X.env.scope x)(he:PN X e f)
 (hd:(x==("__debug__":Str))=false:=by decide) (pb:(x==("__classdict__":Str))=false:=by decide)
 (hs:starEach [e] X.env=(false,eval e X.env) ::starEach [] X.env:=by rfl) (ll:(apos.endLine==b_.line)=true:=by rfl)
 (qJ:((backTo b_ (starEach [e] X.env)).all (fun x=>!x.1) && (backToKw b_ (keywordEach [] X.env)).all (fun x=>x.1.isSome)
   && decide (([e]:List Expr).length+([]:List Keyword).length+(if([]:List Keyword).isEmpty then 0 else 1) < 30))=true:=by rfl)
 (vC:swapsWith (.Call (.Attribute (.Name x fG) "extend" apos) [e] [] b_) none pos.line X.env=pure false:=by rfl)
 (lj:attributeBase (.Name x fG) "extend" X.env (eval (.Name x fG) X.env)=eval (.Name x fG) X.env:=by rfl) :
 A3 X (.Expr (.Call (.Attribute (.Name x fG) "extend" apos) [e] [] b_) pos) (C2 i f):=by
 refine(tG (Aq (X:=X) PySem.F.plainAttrs_list PySem.F.slot_list_extend PySem.F.type_list_extend yE (qh hN hv hd pb) (dM he gK hs) lj qJ ll hs) vC).imp fun D σ H ⟨Z,B,δ,o,E,hf,q⟩=>?_
 obtain⟨es,h1,h2⟩:=R.ai hf;obtain⟨ds,h3,h4⟩:=R.ai h2;obtain⟨hl,h5⟩:=R.aT h4;cases h5;have hb:=vi h3;obtain⟨a,xs,q1,q2,q3,q4,q5⟩:=E.bld i ds hb;refine⟨.ref a,q1, .inl ⟨rfl,xs,mG.of q4⟩,⟨Z,B,δ,es,E,h1,fun b ys H1 s1 n e r=>?_⟩⟩
 have E1:=E.same s1;have r':aw X.K B H1 es ys:=r.aY fun b o e nb=>⟨e,fun hb=>nb (List.mem_cons_of_mem _ hb)⟩
 refine⟨a,b,xs,ys,rfl,rfl,s1 a _ q4,e,by rw[<-q5.length,<-r'.length];exact of_decide_eq_true hl,?_⟩
 obtain⟨E2,p2⟩:=E1.grow (es:=ds++es) (ys:=xs++ys) hb q1 q2 (s1 a _ q4) ((q5.same s1).append r');exact q σ B _ ((Ev.same E.zb s1).trans (Ev.grow E.zb q3 p2)) E2
def jk(i:Nat)(δ:ak):ak:=match δ[i]? with | some (.bld ds)=>δ.set i (.val (.lst ds)) | _=>δ
theorem dA.jk{K:W.Frag}{Z B:List Addr}{δ:ak}(E:dA K Z B H σ δ)(i:Nat):∃B',Ev Z B H B' H/\dA K Z B' H σ (jk i δ):=by
 unfold L2.jk;cases hd:δ[i]? with
 | none=>exact⟨B,Ev.refl Z B H E.zb,E⟩
 | some x=>
   cases x with
   | un=>exact⟨B,Ev.refl Z B H E.zb,E⟩
   | val d=>exact⟨B,Ev.refl Z B H E.zb,E⟩
   | bld ds=>
     obtain⟨a,xs,q1,q2,q3,q4,q5⟩:=E.bld i ds hd;have hi:i < δ.length:=(List.getElem?_eq_some_iff.mp hd).1;have p:c5 B H (B.filter fun b=>decide (b≠a)) H:=fun b o e nb=>⟨e,fun hb=>nb (List.mem_filter.mp hb).1⟩
     have zb:∀b∈Z,b∈B.filter fun b=>decide (b≠a):=fun b hb=>List.mem_filter.mpr ⟨E.zb b hb,decide_eq_true fun z=>q3 (z▸hb)⟩
     refine⟨B.filter fun b=>decide (b≠a),⟨p,fun b o e hb=>⟨e,zb b hb⟩⟩,{
      len:=by rw[List.length_set];exact E.len
      bs:=fun b hb=>E.bs b (List.mem_filter.mp hb).1
      zb:=zb
      val:=fun j d e=>by
       by_cases h:i=j
       .subst h;rw [List.getElem?_set_self hi] at e;cases e;refine⟨.ref a,q1,?_⟩;unfold Rep;exact⟨a,xs,rfl, .inl ⟨fun hb=>by simpa using(List.mem_filter.mp hb).2, .inl q4⟩,q5.aY p⟩
       .rw [List.getElem?_set_ne h] at e;obtain⟨v,z1,z2⟩:=E.val j d e;exact⟨v,z1,z2.aY p⟩
      bld:=fun j fs e=>by
       by_cases h:i=j
       .subst h;rw [List.getElem?_set_self hi] at e;cases e
       .rw [List.getElem?_set_ne h] at e;obtain⟨b,zs,z1,z2,z3,z4,z5⟩:=E.bld j fs e;exact⟨b,zs,z1,List.mem_filter.mpr ⟨z2,decide_eq_true fun z=>by subst z;exact h (E.dis i j b ds fs hd e q1 z1)⟩,z3,z4,z5.aY p⟩
      dis:=fun j k b JU JY e1 e2 e3 e4=>by
       by_cases h:i=j
       .subst h;rw [List.getElem?_set_self hi] at e1;cases e1
       .by_cases h':i=k
        .subst h';rw [List.getElem?_set_self hi] at e2;cases e2
        .rw [List.getElem?_set_ne h] at e1;rw[List.getElem?_set_ne h'] at e2;exact E.dis j k b JU JY e1 e2 e3 e4}⟩
def Aj(i:Nat)(F:FS):FS:=fun δ=>F (jk i δ)
theorem GQ{K:W.Frag}{i:Nat}{F:FS}{D:Ends}(h:sD K (Aj i F) D σ H):sD K F D σ H:=by
 obtain⟨Z,B,δ,o,E,hf,q⟩:=h;obtain⟨B1,ev,E1⟩:=E.jk i;refine⟨Z,B1,L2.jk i δ,o,E1,hf,?_⟩;cases o with
 | nx dH=>exact fun cX B' H' Cs E'=>q cX B' H' (ev.trans Cs) E'
 | rt d=>exact fun v B' H' Cs z r=>q v B' H' (ev.trans Cs) z r
theorem CW(i:Nat){F:FS}(h:oY X Fp F):oY X Fp (Aj i F):=h.imp fun D σ H h=>GQ h
def eu(f:FD):FS:=fun δ=>(f δ).bind fun d=> .ok (.rt d)
theorem Dn(he:PD X e f):A3 X (.Return (some e) pos) (eu f):=(AV he).imp fun D σ H ⟨Z,B,δ,o,E,hf,q⟩=>by
 obtain⟨d,h1,h2⟩:=R.ai hf;cases h2;exact⟨Z,B,δ,d,E,h1,fun v H1 s1 r1=>q v B H1 (Ev.same E.zb s1) E.zb r1⟩
def vm(c:ak->R Bool)(F G:FS):FS:=fun δ=>(c δ).bind fun b=>if b then F δ else G δ
theorem GP{fc:ak->R Bool}{F G:FS}(hc:PB X c fc)(ha:oY X a F)(hb:oY X b G):A3 X (.If c a b pos) (vm fc F G):=(E8 hc ha hb).imp fun D σ H ⟨Z,B,δ,o,E,hf,q⟩=>by
 obtain⟨k,h1,h2⟩:=R.ai hf;refine⟨Z,B,δ,k,E,h1,fun H1 s1=>?_⟩
 have q':=q.ev (Ev.same E.zb s1);cases k with
 | true=>rw [if_pos rfl] at h2;exact CS ⟨Z,B,δ,o,E.same s1,h2,q'⟩
 | false=>rw [if_neg (by decide)] at h2;exact Dz ⟨Z,B,δ,o,E.same s1,h2,q'⟩
abbrev FT:=D->ak->R ak
def gD(K:W.Frag)(t:FT):TG:=fun v σ H Q=>∃Z B δ d dH,dA K Z B H σ δ/\Rep K B H d v/\t d δ= .ok dH/\∀cX H',aK H H'->dA K Z B H' cX dH->cX.length=σ.length->Q cX H'
abbrev Gv(X:Cx)(tg:Expr)(t:FT):Prop:=PG X tg (gD X.K t)
def aA(i:Nat):FT:=fun d δ=>R.aU (decide (i < δ.length)) (.ok (δ.set i (.val d)))
theorem Cb{i:Nat}{pos:Pos}(hN:X.N.Nodup)(hi:X.N[i]? =some x)(hx:Loc X.env.scope x)(hf:X.fn x=true\/X.env.scope.names.lookup x=some .local:=by first | exact .inl rfl | exact .inr rfl | assumption):Gv X (.Name x pos) (aA i):=
 (xu hN hi hx hf).imp fun v σ H Q ⟨Z,B,δ,d,dH,E,r,ht,q⟩=>by
   obtain⟨hi,h⟩:=R.aT ht;cases h;exact q _ H (aK.refl H) (E.set (by rw[<-E.len];exact of_decide_eq_true hi) r) (List.length_set ..)
abbrev Bx:=List D->ak->R ak
def NN(K:W.Frag)(t:Bx):Bp:=fun vs σ H Q=>∃Z B δ ds dH,dA K Z B H σ δ/\aw K B H ds vs/\t ds δ= .ok dH/\∀cX H',aK H H'->dA K Z B H' cX dH->cX.length=σ.length->Q cX H'
abbrev BH(X:Cx)(ts:List Expr)(t:Bx):Prop:=DY X ts (NN X.K t)
theorem DY.imp{X:Cx}{t t':Bp}(h:DY X e t)(w:∀v σ H Q,t' v σ H Q->t v σ H Q):DY X e t':=fun pins s σ H v u Q I r hq=>h pins s σ H v u Q I r (w v σ H Q hq)
def ia:Bx:=fun ds δ=>match ds with | []=> .ok δ | _=> .no
def bR(t:FT)(u:Bx):Bx:=fun ds δ=>match ds with | d ::r=>(t d δ).bind fun dH=>u r dH | []=> .no
theorem BQ:BH X [] ia:=yg.imp fun vs σ H Q ⟨Z,B,δ,ds,dH,E,r,ht,q⟩=>by
 cases ds with
 | nil=>unfold aw at r;cases ht;exact⟨r,q σ H (aK.refl H) E rfl⟩
 | cons=>cases ht
theorem zC{u:Bx}(h1:Gv X e t)(h2:BH X es u)(hs:(assignEach (e ::es) X.env).map (·.2)=assign e X.env ::(assignEach es X.env).map (·.2):=by rfl):BH X (e ::es) (bR t u):=
 (uP h1 h2 hs).imp fun vs σ H Q ⟨Z,B,δ,ds,dH,E,r,ht,q⟩=>by
   cases ds with
   | nil=>cases ht
   | cons d ds=>
     obtain⟨x,xs,rfl,r1,r2⟩:=r.bM;obtain⟨cY,h1,h2⟩:=R.ai ht;exact⟨x,xs,rfl,Z,B,δ,d,cY,E,r1,h1,fun J3 H1 s1 E1 l1=>⟨Z,B,cY,ds,dH,E1,r2.same s1,h2,fun ub H2 s2 E2 l2=>q ub H2 (s1.trans s2) E2 (l2.trans l1)⟩⟩
def hJ(n:Nat)(t:Bx):FT:=fun d δ=>match d with | .tup ds=>R.aU (decide (ds.length=n)) (t ds δ) | _=> .no
theorem C_{k:Nat}{t:Bx}{n:Nat}{pos:Pos}(hc:X.calm=true)(h:BH X es t)(hn:(assignEach es X.env).length=n:=by rfl)(Cv:(assignEach es X.env).findIdx? (·.1)=none:=by rfl):Gv X (.Tuple es k pos) (hJ n t):=
 (BX hc h hn Cv).imp fun v σ H Q ⟨Z,B,δ,d,dH,E,r,ht,q⟩=>by
   cases d with
   | tup ds=>
     unfold Rep at r;obtain⟨a,xs,rfl,l,r⟩:=r;obtain⟨hl,h⟩:=R.aT ht;exact⟨a,xs,rfl,l.sq,by rw[<-r.length];exact of_decide_eq_true hl,Z,B,δ,ds,dH,E,r,h,q⟩
   | _=>cases ht
def OI(f:FD)(t:FT):FS:=fun δ=>(f δ).bind fun d=>(t d δ).bind fun dH=> .ok (.nx dH)
def AJ(K:W.Frag)(B:List Addr)(H:Hp)(J:It)(ds:List D):Prop:=∀B' H',c5 B H B' H'->(∀(i:Nat) (d:D),ds[i]? =some d->J.go i H'/\∀x l7,J.yld i H' x l7->(∀a∈B',∃o,H' a=some o)->aK H' l7/\Rep K B' l7 d x)/\J.stop ds.length H'
def iD(K:W.Frag)(f:ak->R (List D)):TI:=fun σ H R=>∃Z B δ ds,dA K Z B H σ δ/\f δ= .ok ds/\∀J H1,aK H H1->AJ K B H1 J ds->R J H1
abbrev ER(X:Cx)(tg e:Expr)(f:ak->R (List D)):Prop:=PI X tg e (iD X.K f)
def cM(f:FD):ak->R (List D):=fun δ=>(f δ).bind fun d=>match d with | .lst ds=> .ok ds | .tup ds=> .ok ds | _=> .no
theorem C8(h:PD X e f):ER X tg e (cM f):=by
 intro pins s σ H RR I ⟨Z,B,δ,ds,E,hf,q⟩;obtain⟨d,h1,h2⟩:=R.ai hf;refine ee (h pins s σ H (fun v H1=>aK H H1/\Rep X.K B H1 d v) I ⟨Z,B,δ,d,E,h1,fun v H1 s1 r1=>⟨s1,r1⟩⟩) fun v s1 ⟨x,H1,I1,r1,ss,rr⟩=>?_
 cases d with
 | lst es=>
   cases h2;unfold Rep at rr;obtain⟨a,xs,rfl,l,rr⟩:=rr;cases r1;obtain⟨its,rv,p,hz⟩:=I1.list l.sq;refine wpAny_pyIter_list p.isList ?_;refine⟨s1.heap.objs.size,[s1.heap.objs.size],_,_,H1,rfl,I1.kept (t':=s1.toks) fun b o e=>Heap.get?_push_of_some _ e,yB a _,⟨_,Heap.get?_push_size _ rfl,rfl,rfl⟩,fun b hb=>?_,q _ H1 ss fun B' H' pr=>?_⟩
   .have e:b=s1.heap.objs.size:=by simpa using hb
    subst e;exact I1.tF (Nat.le_refl _) (I1.hok.fresh (Nat.le_refl _))
   .have l':tj X.K B' H' a xs:=l.aY pr;have JS:=rr.aY pr;refine⟨fun i d hd=>?_,⟨xs,l'.sq,by rw[rr.length];exact Nat.le_refl _⟩⟩
    obtain⟨x,hx,rx⟩:=JS.get hd;exact⟨⟨xs,x,l'.sq,hx⟩,fun y l7 ⟨e1,e2⟩ _=>by
     subst e1;have:=e2 xs l'.sq;rw[hx] at this;cases this;exact⟨aK.refl _,rx⟩⟩
 | tup es=>
   cases h2;unfold Rep at rr;obtain⟨a,xs,rfl,l,rr⟩:=rr;cases r1;obtain⟨its,rv,p,hz⟩:=I1.tuple l.sq;refine wpAny_pyIter_tuple (show s1.heap.IsTuple a its.toArray from p) ?_
   refine⟨s1.heap.objs.size,[s1.heap.objs.size],_,_,H1,rfl,I1.kept (t':=s1.toks) fun b o e=>Heap.get?_push_of_some _ e,wc a _,⟨_,Heap.get?_push_size _ rfl,rfl,rfl⟩,fun b hb=>?_,q _ H1 ss fun B' H' pr=>?_⟩
   .have e:b=s1.heap.objs.size:=by simpa using hb
    subst e;exact I1.tF (Nat.le_refl _) (I1.hok.fresh (Nat.le_refl _))
   .have l':sf X.K B' H' a xs:=l.elim (fun z=> .inl ⟨(pr.rd z.2 z.1).2,(pr.rd z.2 z.1).1⟩) .inr
    have JS:=rr.aY pr;refine⟨fun i d hd=>?_,⟨xs,l'.sq,by rw[rr.length];exact Nat.le_refl _⟩⟩
    obtain⟨x,hx,rx⟩:=JS.get hd;exact⟨⟨xs,x,l'.sq,hx⟩,fun y l7 ⟨e1,e2⟩ _=>by
     subst e1;have:=e2 xs l'.sq;rw[hx] at this;cases this;exact⟨aK.refl _,rx⟩⟩
 | _=>cases h2
def gH(lo:Int)(n:Nat):List D:=(List.range n).map fun(i:Nat)=>D.int (lo+i)
theorem wW{K:W.Frag}{B:List Addr}(lo:Int)(n:Nat):AJ K B H (Jr lo n) (gH lo n):=fun B' H' _=>by
 refine⟨fun i d hd=>?_,?_⟩
 .unfold gH at hd;rw[List.getElem?_map] at hd;cases e:(List.range n)[i]? with
  | none=>rw [e] at hd;cases hd
  | some j=>
    rw[e] at hd;cases hd;obtain⟨hi,ej⟩:=List.getElem?_eq_some_iff.mp e;rw[List.getElem_range] at ej;subst ej;rw[List.length_range] at hi;exact⟨hi,fun x l7 ⟨e1,e2⟩ _=>by subst e1 e2;exact⟨aK.refl _,by unfold Rep;rfl⟩⟩
 .show n<=(gH lo n).length;unfold gH;rw[List.length_map,List.length_range];exact Nat.le_refl _
def c9(f:FD):ak->R (List D):=fun δ=>(f δ).bind fun d=>match d with | .int j=>R.aU (decide (-(2 ^ 62)<=j/\j < 2 ^ 62)) (.ok (gH 0 j.toNat)) | _=> .no
theorem wx{tg a:Expr}{p pos:Pos}(h:PD X a f)(hg:Gl X "range")(hm:X.mg "range"=none)(hs:starEach [a] X.env=[(false,eval a X.env)]:=by rfl):ER X tg (.Call (.Name "range" p) [a] [] pos) (c9 f):=
 (rG hg hm (dM h gK hs) hs).imp fun σ H RR ⟨Z,B,δ,ds,E,hf,q⟩=>by
   obtain⟨d,h1,h2⟩:=R.ai hf;cases d with
   | int j=>
     obtain⟨hb,h3⟩:=R.aT h2;cases h3;have hb:=of_decide_eq_true hb;refine⟨Z,B,δ, .int j,E,h1,fun v H1 s1 r1=>⟨j,?_,hb.1,hb.2,q _ H1 s1 (wW 0 _)⟩⟩
     unfold Rep at r1;rw[r1]
   | _=>cases h2
def n6(f g:FD):ak->R (List D):=fun δ=>(f δ).bind fun d=>(g δ).bind fun e=>match d,e with
 | .int i, .int j=>R.aU (decide (-(2 ^ 62)<=i/\i < 2 ^ 62/\ -(2 ^ 62)<=j/\j < 2 ^ 62)) (.ok (gH i (j - i).toNat)) | _,_=> .no
theorem vK{tg a b:Expr}{p pos:Pos}(h:PD X a f)(h':PD X b g)(hg:Gl X "range")(hm:X.mg "range"=none)(hs:starEach [a,b] X.env=[(false,eval a X.env),(false,eval b X.env)]:=by rfl)(vH:starEach [b] X.env=[(false,eval b X.env)]:=by rfl) :
 ER X tg (.Call (.Name "range" p) [a,b] [] pos) (n6 f g):=
 (yR hg hm (dM h (dM h' gK vH) (by rw[hs,vH])) hs vH).imp fun σ H RR ⟨Z,B,δ,ds,E,hf,q⟩=>by
   obtain⟨d,h1,h2⟩:=R.ai hf;obtain⟨d2,h3,h4⟩:=R.ai h2;split at h4
   .rename_i i j;obtain⟨hb,h5⟩:=R.aT h4;cases h5;have hb:=of_decide_eq_true hb;refine⟨Z,B,δ, .int i,E,h1,fun v H1 s1 r1=>⟨Z,B,δ, .int j,E.same s1,h3,fun v2 H2 s2 r2=>⟨i,j,?_,hb,q _ H2 (s1.trans s2) (wW i _)⟩⟩⟩
    unfold Rep at r1 r2;rw[r1,r2]
   .cases h4
def lP(t:FT)(body:FS):List D->FS
 | [],δ=> .ok (.nx δ)
 | d ::ds,δ=>(t d δ).bind fun cY=>(body cY).bind fun o=>match o with | .nx dj=>lP t body ds dj | .rt r=> .ok (.rt r)
def nX(it:ak->R (List D))(t:FT)(body:FS):FS:=fun δ=>(it δ).bind fun ds=>lP t body ds δ
theorem Ed{tg iter:Expr}{body:List Stmt}{it:ak->R (List D)}{t:FT}{F:FS}{pos:Pos}(hp:PassesOwn (model X.prog X.w) X.A X.env X.xe)(hc:X.calm=true)(hi:ER X tg iter it)(hg:Gv X tg t)(hb:oY X body F)
 (hs:∀x,foldedSetIterable iter X.env x=pure x:=by intro _;rfl):A3 X (.For tg iter body [] pos) (nX it t F):=(BG hp hc hi hg hb hs).imp fun D σ H ⟨Z,B,δ,o,E,hf,q⟩=>by
 obtain⟨ds,h1,h2⟩:=R.ai hf;refine⟨Z,B,δ,ds,E,h1,fun J H1 s1 ir=>?_⟩
 refine⟨fun i m cX H'=>m=ds.length - i/\i<=ds.length/\∃B' dH,Ev Z B H1 B' H'/\dA X.K Z B' H' cX dH/\lP t F (ds.drop i) dH= .ok o,⟨ds.length,rfl,Nat.zero_le _,B,δ,Ev.refl Z B H1 E.zb,E.same s1,by simpa using h2⟩,?_⟩
 rintro i m cX H' ⟨rfl,hi,B',dH,ev,E',hl⟩;obtain⟨go,stop⟩:=ir B' H' ev.aY;by_cases hlt:i < ds.length
 .have hd:ds[i]? =some ds[i]:=List.getElem?_eq_getElem hlt;have hdrop:ds.drop i=ds[i] ::ds.drop (i+1):=List.drop_eq_getElem_cons hlt;rw[hdrop] at hl;obtain⟨cY,h3,h4⟩:=R.ai hl;obtain⟨o1,h5,h6⟩:=R.ai h4;obtain⟨g1,g2⟩:=go i _ hd;refine .inr ⟨g1,fun ub H2=>∃B2 dj,Ev Z B H1 B2 H2/\dA X.K Z B2 H2 ub dj/\lP t F (ds.drop (i+1)) dj= .ok o,fun ub H2 n=>⟨ds.length - (i+1),by omega,rfl,hlt,n⟩,fun x l7 y=>?_⟩
  obtain⟨ss,rr⟩:=g2 x l7 y E'.bs;refine⟨Z,B',dH,ds[i],cY,E'.same ss,rr,h3,fun ub H2 s2 E2 l2=>⟨Z,B',cY,o1,E2,h5,?_⟩⟩
  have ev2:Ev Z B H1 B' H2:=ev.trans (Ev.same E'.zb (ss.trans s2));cases o1 with
  | nx dj=>exact fun Ew B3 H3 L_ E3=>⟨B3,dj,ev2.trans L_,E3,h6⟩
  | rt d=>
    cases h6;exact fun v B3 H3 L_ z r=>q v B3 H3 ((Ev.same E.zb s1).trans (ev2.trans L_)) z r
 .have e:i=ds.length:=by omega
  subst e;rw[List.drop_length] at hl;cases hl;exact .inl ⟨stop,q cX B' H' ((Ev.same E.zb s1).trans ev) E'⟩
def BV(c:ak->R Bool)(body:FS):Nat->FS
 | 0,_=> .no
 | n+1,δ=>(c δ).bind fun b=>if b then(body δ).bind fun o=>match o with | .nx dj=>BV c body n dj | .rt r=> .ok (.rt r) else .ok (.nx δ)
def LA(n:Nat)(c:ak->R Bool)(body:FS):FS:=fun δ=>BV c body n δ
def kz(δ:ak)(i:Nat):Sl:=match δ[i]? with | some (.val d)=> .val d | _=> .un
def oV(own:List Str)(kp:List Nat)(δ:ak):ak:=List.replicate own.length .un++kp.map (kz δ)
def l3(t:FT)(c:ak->R Bool)(f:FD)(δ:ak):List D->R (List D)
 | []=> .ok []
 | d ::ds=>(t d δ).bind fun cY=>(c cY).bind fun b=>if b then(f cY).bind fun y=>(l3 t c f δ ds).bind fun ys=> .ok (y ::ys) else l3 t c f δ ds
def cx(it:ak->R (List D))(t:FT)(c:ak->R Bool)(f:FD)(own:List Str)(kp:List Nat):ak->R (List D):=fun δ=>(it δ).bind fun ds=>R.aU (decide (ds.length<=sizeLine)) (l3 t c f (oV own kp δ) ds)
theorem GF{K:W.Frag}{Z B B':List Addr}{H H':Hp}{δ:ak}{own:List Str}{kp:List Nat}(E:dA K Z B H σ δ)(p:c5 B H B' H')(hB:∀a∈B',∃o,H' a=some o):dA K [] B' H' (cZ own kp σ) (oV own kp δ) where
 len:=by unfold cZ oV;simp
 bs:=hB
 zb:=fun a ha=>by cases ha
 val:=fun i d e=>by
  unfold oV at e;unfold cZ;by_cases hi:i < own.length
  .rw [List.getElem?_append_left (by simpa using hi),List.getElem?_replicate] at e
   split at e <;> cases e
  .rw [List.getElem?_append_right (by simpa using hi),List.length_replicate,List.getElem?_map] at e ⊢
   cases q:kp[i - own.length]? with
   | none=>rw [q] at e;cases e
   | some j=>
     rw[q] at e;have e:kz δ j= .val d:=Option.some.inj e;unfold kz at e;split at e
     .rename_i d' ed;cases e;obtain⟨v,h1,h2⟩:=E.val j d ed;exact⟨v,by simp [h1],h2.aY p⟩
     .cases e
 bld:=fun i ds e=>by
  unfold oV at e;by_cases hi:i < own.length
  .rw [List.getElem?_append_left (by simpa using hi),List.getElem?_replicate] at e
   split at e <;> cases e
  .rw [List.getElem?_append_right (by simpa using hi),List.length_replicate,List.getElem?_map] at e
   cases q:kp[i - own.length]? with
   | none=>rw [q] at e;cases e
   | some j=>
     rw[q] at e;have e:kz δ j= .bld ds:=Option.some.inj e;unfold kz at e;split at e <;> cases e
 dis:=fun i j a ds es e=>by
  unfold oV at e;by_cases hi:i < own.length
  .rw [List.getElem?_append_left (by simpa using hi),List.getElem?_replicate] at e
   split at e <;> cases e
  .rw [List.getElem?_append_right (by simpa using hi),List.length_replicate,List.getElem?_map] at e
   cases q:kp[i - own.length]? with
   | none=>rw [q] at e;cases e
   | some j=>
     rw[q] at e;have e:kz δ j= .bld ds:=Option.some.inj e;unfold kz at e;split at e <;> cases e
theorem xK{K:W.Frag}{it:ak->R (List D)}{c:ak->R Bool}{own:List Str}{kp:List Nat}{Q:VK}(h:tN K (cx it t c f own kp) σ H Q) :
 xt (iD K it) (gD K t) (ET K c) (tD K f) own kp σ H Q:=by
 obtain⟨Z,B,δ,ds,E,hf,q⟩:=h;obtain⟨es,h1,h2⟩:=R.ai hf;obtain⟨hl,h3⟩:=R.aT h2;have hl:=of_decide_eq_true hl;refine⟨Z,B,δ,es,E,h1,fun J H1 s1 ir Dd hD=>?_⟩
 have E1:=E.same s1;have pD:c5 B H1 (Dd ::B) (upd H1 Dd (.lst [])):=uh hD;refine⟨fun i m ys H'=>m=es.length - i/\i<=es.length/\ys.length<=i/\H' Dd=some (.lst ys)/\aK H1 H'/\∃done rest,ds=done++rest/\aw K (Dd ::B) H' done ys/\l3 t c f (oV own kp δ) (es.drop i)= .ok rest,
  ⟨es.length,rfl,Nat.zero_le _,Nat.le_refl _,aV,aW hD,[],ds,rfl,aw.nil,by simpa using h3⟩,?_⟩
 rintro i m ys H' ⟨rfl,hi,hy,hDl,ss,done,rest,rfl,rd,hc⟩;have dB:Dd ∉ B:=fun hb=>by obtain⟨o,ho⟩:=E1.bs Dd hb;rw [hD] at ho;cases ho
 have p':c5 B H1 (Dd ::B) H':=fun b o e nb=>⟨ss b o e,fun hb=>by
  rcases List.mem_cons.mp hb with z | z
  .exact cg e hD z
  .exact nb z⟩
 have EC:∀a∈Dd ::B,∃o,H' a=some o:=fun a ha=>by
  rcases List.mem_cons.mp ha with z | z
  .subst z;exact⟨_,hDl⟩
  .obtain⟨o,ho⟩:=E1.bs a z;exact⟨o,ss a o ho⟩
 obtain⟨go,stop⟩:=ir (Dd ::B) H' p';by_cases hlt:i < es.length
 .have hd:es[i]? =some es[i]:=List.getElem?_eq_getElem hlt;have hdrop:es.drop i=es[i] ::es.drop (i+1):=List.drop_eq_getElem_cons hlt;rw[hdrop] at hc;obtain⟨cY,h4,h5⟩:=R.ai hc;obtain⟨b,h6,h7⟩:=R.ai h5;obtain⟨g1,g2⟩:=go i _ hd;refine .inr ⟨g1,fun x H2 y=>?_⟩
  obtain⟨sy,ry⟩:=g2 x H2 y EC;have Ec:dA K [] (Dd ::B) H2 (cZ own kp σ) (oV own kp δ):=GF E1 (p'.trans (c5.same sy)) fun a ha=>let⟨o,ho⟩:=EC a ha;⟨o,sy a o ho⟩
  refine⟨[],Dd ::B,oV own kp δ,es[i],cY,Ec,ry,h4,fun Ew H3 s3 E3 _=>⟨[],Dd ::B,cY,b,E3,h6,fun H4 s4=>?_⟩⟩
  have sAll:aK H' H4:=sy.trans (s3.trans s4);cases b with
  | true=>
    rw[if_pos rfl] at h7;refine CS ?_;obtain⟨yv,h8,h9⟩:=R.ai h7;obtain⟨rs,LX,LL⟩:=R.ai h9;cases LL;refine⟨[],Dd ::B,cY,yv,E3.same s4,h8,fun v H5 s5 r5=>?_⟩
    have s':aK H' H5:=sAll.trans s5;have L6:H5 Dd=some (.lst ys):=s' Dd _ hDl;have pu:c5 (Dd ::B) H5 (Dd ::B) (upd H5 Dd (.lst (ys++[v]))):=fun b o e nb=>⟨by rw[aS (fun(z:b=Dd)=>nb (by rw[z];exact List.mem_cons_self))];exact e,nb⟩
    refine⟨L6,by omega,es.length - (i+1),by omega,rfl,hlt,by rw[List.length_append,List.length_singleton];omega,aV,fun b o e=>?_,done++[yv],rs,by simp,((rd.same s').append (aw.cons r5 aw.nil)).aY pu,LX⟩
    rw[aS (cg e hD)];exact s' b o (ss b o e)
  | false=>
    rw[if_neg (by decide)] at h7
    refine Dz ?_;exact⟨es.length - (i+1),by omega,rfl,hlt,by omega,sAll Dd _ hDl,ss.trans sAll,done,rest,rfl,rd.same sAll,h7⟩
 .have e:i=es.length:=by omega
  subst e;rw[List.drop_length] at hc;cases hc;rw[List.append_nil] at q;exact .inl ⟨stop,q Dd ys H' (s1.trans ss) (s1.free hD) hDl rd⟩
theorem Dc{scope:Scope}{own:List Str}{kp:List Nat}{kn:List Str}{tg iter elt:Expr}{ifs:List Expr}{it:ak->R (List D)}{t:FT}{c:ak->R Bool}{f:FD}{pos:Pos}(hc:X.calm=true)(C:bt X scope own kp kn)(hi:ER X tg iter it)
 (hg:∀fp s H,Gv (bg X scope (own++kn) fp s H) tg t) (xc:∀fp s H,mN (bg X scope (own++kn) fp s H) ifs (ET X.K c)) (he:∀fp s H,PD (bg X scope (own++kn) fp s H) elt f)
 (hs:∀x,foldedSetIterable iter X.env x=pure x:=by intro _;rfl):PN X (.ListComp elt [⟨tg,iter,ifs,0⟩] scope pos) (cx it t c f own kp):=
 (xQ hc C hi hg xc he hs).imp fun σ H Q h=>xK h
def i7:ak->R Bool:=fun _=> .ok true
theorem BI:mN X [] (ET X.K i7):=fun pins s σ H Q I ⟨Z,B,δ,b,E,hf,q⟩=>u7 pins s σ H Q I (by cases hf;exact q H (aK.refl H))
theorem CV{c:ak->R Bool}(h:PB X e c):mN X [e] (ET X.K c):=uu h
theorem uH{i:Nat}{x:Str}{pos' qH:Pos}{scope:Scope}{own:List Str}{kp:List Nat}{kn:List Str}{tg iter elt:Expr}{ifs:List Expr}{it:ak->R (List D)}{t:FT}{c:ak->R Bool}{f:FD}{pos:Pos}(hc:X.calm=true)
 (hN:X.N.Nodup) (hx:X.N[i]? =some x) (Ff:X.env.scope.names.lookup x=some .local) (C:bt X scope own kp kn) (hi:ER X tg iter it)
 (hg:∀fp s H,Gv (bg X scope (own++kn) fp s H) tg t) (xc:∀fp s H,mN (bg X scope (own++kn) fp s H) ifs (ET X.K c)) (he:∀fp s H,PD (bg X scope (own++kn) fp s H) elt f)
 (vC:swapsWith (.ListComp elt [⟨tg,iter,ifs,0⟩] scope pos) (some (.Name x pos')) qH.line X.env=pure true:=by rfl)
 (hs:∀x,foldedSetIterable iter X.env x=pure x:=by intro _;rfl):A3 X (.Assign [.Name x pos'] (.ListComp elt [⟨tg,iter,ifs,0⟩] scope pos) qH) (tf i (cx it t c f own kp)):=
 (pQ hc hN hx Ff C hi hg xc he vC hs).imp fun D σ H h=>xK (AL h)
end
def dt(N:List Str)(ds:List D):ak:=ds.map .val++List.replicate (N.length - ds.length) .un
def pj(N:List Str)(F:FS):List D->R D:=fun ds=>(F (dt N ds)).bind fun o=>match o with | .rt d=> .ok d | .nx _=> .ok .cz
theorem C7{K:W.Frag}{B:List Addr}{H:Hp}{N:List Str}{ds:List D}{vs:List V}(hB:∀a∈B,∃o,H a=some o)(r:aw K B H ds vs):dA K B B H (start N vs) (dt N ds) where
 len:=by unfold start dt;simp [r.length]
 bs:=hB
 zb:=fun a ha=>ha
 val:=fun i d e=>by
  unfold dt at e;unfold start;by_cases hi:i < ds.length
  .rw [List.getElem?_append_left (by simpa using hi),List.getElem?_map] at e
   cases q:ds[i]? with
   | none=>rw [q] at e;cases e
   | some d'=>
     rw[q] at e;cases e;obtain⟨x,h1,h2⟩:=r.get q;exact⟨x,by rw[List.getElem?_append_left (by rw[List.length_map,<-r.length];exact hi),List.getElem?_map,h1];rfl,h2⟩
  .rw [List.getElem?_append_right (by simpa using hi),List.getElem?_replicate] at e
   split at e <;> cases e
 bld:=fun i es e=>by
  unfold dt at e;by_cases hi:i < ds.length
  .rw [List.getElem?_append_left (by simpa using hi),List.getElem?_map] at e
   cases q:ds[i]? with
   | none=>rw [q] at e;cases e
   | some d'=>rw [q] at e;cases e
  .rw [List.getElem?_append_right (by simpa using hi),List.getElem?_replicate] at e
   split at e <;> cases e
 dis:=fun i j a es fs e=>by
  unfold dt at e;by_cases hi:i < ds.length
  .rw [List.getElem?_append_left (by simpa using hi),List.getElem?_map] at e
   cases q:ds[i]? with
   | none=>rw [q] at e;cases e
   | some d'=>rw [q] at e;cases e
  .rw [List.getElem?_append_right (by simpa using hi),List.getElem?_replicate] at e
   split at e <;> cases e
theorem Eo{P:Program}{w:World}{K:W.Frag}{mg:Rt}{base:Heap}{x qual:Str}{st:Stmt}{f:Addr}{fd:FuncData}{N ps:List Str}{k:Nat}{F:FS}(Fn:yh K x qual st f fd)(S:aX N ps (av st))
 (jL:∀(dC:Value) (A:Around) (outer:List Env) (s:Shared) (H:Hp) (E:XK),dR k (A.deeper (envOfC qual (av st) s.heap.objs.size f dC))->
   oY (pI q8 P w K mg base N qual (av st) f dC A outer s H E).Es (aM st) F):gR P w K mg base q8 (k+1) f fd ps (B7 K ps.length (pj N F)):=by
 refine Fn.ok S (fun vs H Q E h=>h.1) (fun dC A outer s H vs Q E hr h=>⟨_,jL dC A outer s H E hr,?_⟩)
 obtain⟨_,B,ds,d,hB,r,hg,q⟩:=h;obtain⟨o,h1,h2⟩:=R.ai hg;refine⟨B,B,dt N ds,o,C7 hB r,h1,?_⟩;have sm:∀{B':List Addr} {H':Hp},Ev B B H B' H'->aK H H':=fun {B' H'} ev b u e=>by
  by_cases hb:b∈B
  .exact(ev.zs b u e hb).1
  .exact(ev.aY b u e hb).1
 cases o with
 | nx dH=>
   cases h2;exact fun cX B' H' ev _=>q _ H' (sm ev) (by unfold Rep;rfl)
 | rt d'=>
   cases h2;exact fun v B' H' ev z rr=>q v H' (sm ev) (rr.aY fun b o e nb=>⟨e,fun hb=>nb (z b hb)⟩)
end L2
end
section
namespace L2
open PySem PySem.Spec PyProof.Rows
theorem Rep.int{K:W.Frag}{B:List Addr}{i:Int}{v:V}:Rep K B H (.int i) v↔v= .int i:=by unfold Rep;exact Iff.rfl
theorem Rep.bl{K:W.Frag}{B:List Addr}{i:Bool}{v:V}:Rep K B H (.bl i) v↔v= .bl i:=by unfold Rep;exact Iff.rfl
theorem Rep.str{K:W.Frag}{B:List Addr}{v:V}:Rep K B H (.str i) v↔v= .str i:=by unfold Rep;exact Iff.rfl
theorem Rep.cz{K:W.Frag}{B:List Addr}{v:V}:Rep K B H .cz v↔v= .cz:=by unfold Rep;exact Iff.rfl
theorem Rep.lst{K:W.Frag}{B:List Addr}{ds:List D}{v:V}:Rep K B H (.lst ds) v↔∃a xs,v= .ref a/\tj K B H a xs/\aw K B H ds xs:=by rw[Rep]
theorem Rep.tup{K:W.Frag}{B:List Addr}{ds:List D}{v:V}:Rep K B H (.tup ds) v↔∃a xs,v= .ref a/\sf K B H a xs/\aw K B H ds xs:=by rw[Rep]
section
variable {X:Cx}
theorem ki.of{f:Value->Value->Sem Value}{r:R2}{g:D->D->R D}(h:lA X f r)
 (w:∀(B:List Addr) (H:Hp) (da db d:D) (x y:V) (Q:VK),(∀a∈B,∃o,H a=some o)->Rep X.K B H da x->Rep X.K B H db y->g da db= .ok d->(∀z H',aK H H'->Rep X.K B H' d z->Q z H')->r x y H Q):ki X f g:=by
 intro pins s σ H B da db d x y v u I hb rx ry ra rb hg;exact h pins s σ H x y v u _ I rx ry (w B H da db d x y _ hb ra rb hg fun z H' s1 r1=>⟨s1,r1⟩)
theorem cD.of{f:Value}{r:List V->Hp->VK->Prop}{g:List D->R D}(h:lW X f r)
 (w:∀(B:List Addr) (H:Hp) (ds:List D) (d:D) (xs:List V) (Q:VK),(∀a∈B,∃o,H a=some o)->aw X.K B H ds xs->g ds= .ok d->(∀z H',aK H H'->Rep X.K B H' d z->Q z H')->r xs H Q):cD X f g:=by
 intro pins s σ H B ds d xs us I hb rx rs hg;exact h pins s σ H xs us _ I rx (w B H ds d xs _ hb rs hg fun z H' s1 r1=>⟨s1,r1⟩)
theorem cD.or{f:Value}{g g1 g2:List D->R D}(h1:cD X f g1)(h2:cD X f g2)(e:∀a d,g a= .ok d->g1 a= .ok d\/g2 a= .ok d):cD X f g:=by
 intro pins s σ H B ds d xs us I hb rx rs hg;rcases e ds d hg with q | q
 .exact h1 pins s σ H B ds d xs us I hb rx rs q
 .exact h2 pins s σ H B ds d xs us I hb rx rs q
def A8(C:Int->Int->Bool)(g:Int->Int->Int):D->D->R D
 | .int i, .int j=>R.aU (C i j) (.ok (.int (g i j)))
 | _,_=> .no
theorem u_{f:Value->Value->Sem Value}{C:Int->Int->Bool}{Cp:Int->Int->Prop}{g:Int->Int->Int}(h:lA X f (rI Cp fun i j=> .int (g i j)))(hc:∀i j,C i j=true->Cp i j):ki X f (A8 C g):=
 ki.of h fun B H da db d x y Q _ ra rb hg q=>by
  unfold A8 at hg;split at hg
  .obtain⟨h1,h2⟩:=R.aT hg;cases h2;exact⟨_,_,Rep.int.mp ra,Rep.int.mp rb,hc _ _ h1,q _ H (aK.refl H) (Rep.int.mpr rfl)⟩
  .cases hg
def zc(g:Int->Int->Int):D->D->R D
 | .int i, .int j=> .ok (.int (g i j))
 | _,_=> .no
theorem tZ{f:Value->Value->Sem Value}{g:Int->Int->Int}(h:lA X f (zJ fun i j=> .int (g i j))):ki X f (zc g):=
 ki.of h fun B H da db d x y Q _ ra rb hg q=>by
  unfold zc at hg;split at hg
  .cases hg;exact⟨_,_,Rep.int.mp ra,Rep.int.mp rb,q _ H (aK.refl H) (Rep.int.mpr rfl)⟩
  .cases hg
def HF(g:Int->Int->Bool):D->D->R D
 | .int i, .int j=> .ok (.bl (g i j))
 | _,_=> .no
theorem BE{f:Value->Value->Sem Value}{g:Int->Int->Bool}(h:lA X f (zJ fun i j=> .bl (g i j))):ki X f (HF g):=
 ki.of h fun B H da db d x y Q _ ra rb hg q=>by
  unfold HF at hg;split at hg
  .cases hg;exact⟨_,_,Rep.int.mp ra,Rep.int.mp rb,q _ H (aK.refl H) (Rep.bl.mpr rfl)⟩
  .cases hg
abbrev ny:D->D->R D:=zc fun i j=>i - j
theorem mW:ki X (binaryOp .Sub) ny:=tZ F5
abbrev ni:D->D->R D:=A8 (fun _ j=>decide (0 < j/\j < 1073741824)) fun i j=>i / j
theorem tm:ki X (binaryOp .FloorDiv) ni:=u_ Du fun i j h=>(of_decide_eq_true h:0 < j/\j < 1073741824)
abbrev jA:D->D->R D:=A8 (fun _ j=>decide (0 < j)) fun i j=>i % j
theorem iO:ki X (binaryOp .Mod) jA:=u_ Gr fun i j h=>of_decide_eq_true h
abbrev yK:D->D->R D:=A8 (fun i j=>decide (0<=j/\j<=1000000/\i.natAbs < 2 ^ 64)) fun i j=>i ^ j.toNat
theorem z0:ki X (binaryOp .Pow) yK:=u_ F8 fun i j h=>(of_decide_eq_true h:0<=j/\j<=1000000/\i.natAbs < 2 ^ 64)
abbrev ug:D->D->R D:=A8 (fun _ j=>decide (0<=j)) fun i j=>i / 2 ^ j.toNat
theorem Cc:ki X (binaryOp .RShift) ug:=u_ GW fun i j h=>of_decide_eq_true h
abbrev A5:D->D->R D:=zc fun i j=>Builtin.bitAnd i j
theorem yN:ki X (binaryOp .BitAnd) A5:=tZ FJ
abbrev E9:D->D->R D:=zc fun i j=>Builtin.bitOr i j
theorem yx:ki X (binaryOp .BitOr) E9:=tZ Im
abbrev yP:D->D->R D:=zc fun i j=>Builtin.bitXor i j
theorem wD:ki X (binaryOp .BitXor) yP:=tZ FP
abbrev Lp:D->D->R D:=HF fun i j=>decide (i < j)
theorem Lm:ki X (compareOp .Lt) Lp:=BE JE
abbrev Q9:D->D->R D:=HF fun i j=>decide (i<=j)
abbrev Jk:D->D->R D:=HF fun i j=>decide (j < i)
theorem IB:ki X (compareOp .Gt) Jk:=BE JA
abbrev Li:D->D->R D:=HF fun i j=>decide (j<=i)
theorem LI:ki X (compareOp .GtE) Li:=BE Jl
theorem tj.wQ{K:W.Frag}{B:List Addr}{H:Hp}{a:Addr}{xs:List V}(h:H a=some (.lst xs))(n:a ∉ B):tj K B H a xs:= .inl ⟨n, .inl h⟩
theorem Inv.EJ{pins:Rn}{s:Shared}{a:Addr}{xs:List V}{B:List Addr}(I:Inv X pins σ H s)(h:tj X.K B H a xs):∃(its:List Value) (n:Nat),Vals xs its/\s.heap.get? a=some {cls:= .type "list",data:= .seq its.toArray n}/\xs.length<=sizeLine:=by
 rcases h with⟨_,h⟩ | ⟨its,n,hk,hz,r⟩
 .obtain⟨z,its,n,r,e⟩:=h.ok I.hok;exact⟨its,n,r,e,z⟩
 .exact⟨its,n,r,I.xD a _ hk,hz⟩
theorem Di:lA X (binaryOp .Add) (fun x y H Q=>∃B l b xs zs,x= .ref l/\y= .ref b/\tj X.K B H l xs/\tj X.K B H b zs/\xs.length+zs.length<=sizeLine/\∀p,H p=none->Q (.ref p) (upd H p (.lst (xs++zs)))):=by
 intro pins s σ H x y v u Q I rx ry h;obtain⟨B,l,b,xs,zs,rfl,rfl,hH,hB,hz,q⟩:=h;cases rx;cases ry;obtain⟨its,n,r,e,_⟩:=I.EJ hH;obtain⟨ri,n2,r2,e2,_⟩:=I.EJ hB;have l1:=r.length;have l2:=r2.length;refine PySem.P.add_list e e2 ?_ (by rw[List.size_toArray,List.size_toArray];omega)
 have ea:its.toArray++ri.toArray=(its++ri).toArray:=by simp
 rw[ea];exact⟨.ref _,_,I.GU (t':=s.toks) (r.append r2) (by rw[List.length_append];omega),rfl,q _ I.fresh⟩
def iY:D->D->R D
 | .int i, .int j=> .ok (.int (i+j))
 | .str a, .str b=>R.aU (decide (a.length+b.length<=sizeLine)) (.ok (.str (a++b)))
 | .lst a, .lst b=>R.aU (decide (a.length+b.length<=sizeLine)) (.ok (.lst (a++b)))
 | _,_=> .no
theorem iJ:ki X (binaryOp .Add) iY:=by
 intro pins s σ H B da db d x y v u I hb rx ry ra rb hg;unfold iY at hg;split at hg
 .cases hg;exact FL pins s σ H x y v u _ I rx ry ⟨_,_,Rep.int.mp ra,Rep.int.mp rb,aK.refl H,Rep.int.mpr rfl⟩
 .obtain⟨h1,h2⟩:=R.aT hg;cases h2;exact wH pins s σ H x y v u _ I rx ry ⟨_,_,Rep.str.mp ra,Rep.str.mp rb,of_decide_eq_true h1,aK.refl H,Rep.str.mpr rfl⟩
 .obtain⟨h1,h2⟩:=R.aT hg;cases h2;obtain⟨a1,L1,rfl,l1,r1⟩:=Rep.lst.mp ra;obtain⟨a2,LR,rfl,l2,r2⟩:=Rep.lst.mp rb;refine Di pins s σ H _ _ v u _ I rx ry ⟨B,a1,a2,L1,LR,rfl,rfl,l1,l2,by rw[<-r1.length,<-r2.length];exact of_decide_eq_true h1,fun p hp=>⟨aW hp,Rep.lst.mpr ⟨p,_,rfl, .wQ aV fun ha=>?_,(r1.append r2).same (aW hp)⟩⟩⟩
  obtain⟨o,ho⟩:=hb p ha;rw[hp] at ho;cases ho
 .cases hg
theorem C5:lA X (binaryOp .Mult) (fun x y H Q=>∃z n,x= .str z/\y= .int n/\MulOk z n/\Q (.str (Txt.mul z n)) H):=by
 intro pins s σ H x y v u Q I rx ry h;obtain⟨z,n,rfl,rfl,hm,q⟩:=h;obtain⟨t,rfl⟩:=rx;obtain⟨t',rfl⟩:=ry;exact SB.mul hm fun t2 k=>⟨.str _,H,I.tok _,⟨_,rfl⟩,q⟩
end
end L2
end
section
namespace L2
open PySem PySem.Spec PyProof.Rows
section
variable {X:Cx}
theorem mulOk_of{x:Str}{n:Int}(h1: -(2 ^ 63)<=n)(h2:n < 2 ^ 63)(h3:x.length*n.toNat<=sizeLine):MulOk x n:=by
 refine⟨by simp only[Bool.or_eq_false_iff,decide_eq_false_iff_not];omega,fun hn _=>?_,fun hn _=>?_⟩
 .have hz:sizeLine=16777216:=sizeLine_eq;have e:(n.toNat:Int)=n:=by omega
  have h4:(x.length:Int)*n<=16777216:=by
   have:((x.length*n.toNat:Nat):Int)<=((16777216:Nat):Int):=Int.ofNat_le.mpr (by omega)
   rw[Int.natCast_mul,e] at this;exact this
  have:(x.length:Int)<=(2 ^ 63 - 1) / n:=(Int.le_ediv_iff_mul_le (by omega)).mpr (by omega)
  omega
 .unfold Builtin.Str.tooLong;exact decide_eq_false (by omega)
def km:D->D->R D
 | .int i, .int j=>R.aU (decide ((-(2 ^ 64) < i/\i < 2 ^ 64)\/(-(2 ^ 64) < j/\j < 2 ^ 64))) (.ok (.int (i*j)))
 | .str x, .int n=>R.aU (decide (-(2 ^ 63)<=n/\n < 2 ^ 63/\x.length*n.toNat<=sizeLine)) (.ok (.str (Txt.mul x n)))
 | _,_=> .no
theorem kD:ki X (binaryOp .Mult) km:=by
 intro pins s σ H B da db d x y v u I hb rx ry ra rb hg;unfold km at hg;split at hg
 .obtain⟨h1,h2⟩:=R.aT hg;cases h2;have h1:=of_decide_eq_true h1;exact FV pins s σ H x y v u _ I rx ry ⟨_,_,Rep.int.mp ra,Rep.int.mp rb,h1,aK.refl H,Rep.int.mpr rfl⟩
 .obtain⟨h1,h2⟩:=R.aT hg;cases h2;have h1:=of_decide_eq_true h1;exact C5 pins s σ H x y v u _ I rx ry ⟨_,_,Rep.str.mp ra,Rep.int.mp rb,mulOk_of h1.1 h1.2.1 h1.2.2,aK.refl H,Rep.str.mpr rfl⟩
 .cases hg
mutual
def toPy:D->PyData
 | .cz=> .none
 | .bl b=> .bool b
 | .int i=> .int i
 | .str x=> .str x
 | .lst ds=> .list (kg ds)
 | .tup ds=> .tuple (kg ds)
 | .dct _ _=> .dict []
def kg:List D->List PyData
 | []=>[]
 | d ::ds=>toPy d ::kg ds
end
mutual
def dI:D->Bool
 | .dct _ _=>false
 | .lst ds=>iU ds
 | .tup ds=>iU ds
 | _=>true
def iU:List D->Bool
 | []=>true
 | d ::ds=>dI d && iU ds
end
mutual
theorem Rep.reads{pins:Rn}{s:Shared}{B:List Addr}(I:Inv X pins σ H s):∀{d:D} {v:V} {u:Value},dI d=true->Rep X.K B H d v->RelV v u->∃as,Reads s.heap u (toPy d) as
 | .cz,v,u,_,r,q=>by rw[Rep.cz.mp r] at q;cases q;unfold toPy;exact⟨_, .none⟩
 | .bl b,v,u,_,r,q=>by rw[Rep.bl.mp r] at q;cases q;unfold toPy;exact⟨_, .bool b⟩
 | .int i,v,u,_,r,q=>by rw[Rep.int.mp r] at q;obtain⟨t,rfl⟩:=q;unfold toPy;exact⟨_, .int i t⟩
 | .str x,v,u,_,r,q=>by rw[Rep.str.mp r] at q;obtain⟨t,rfl⟩:=q;unfold toPy;exact⟨_, .str x t⟩
 | .lst ds,v,u,hp,r,q=>by
   obtain⟨a,xs,rfl,l,rs⟩:=Rep.lst.mp r;cases q;obtain⟨its,rv,⟨o,n,e,hc,hd,he⟩,_⟩:=I.list l.sq;obtain⟨as,ra⟩:=aw.reads I (by unfold dI at hp;exact hp) rs rv
   unfold toPy;exact⟨_, .list e hc he (by simpa using ra)⟩
 | .tup ds,v,u,hp,r,q=>by
   obtain⟨a,xs,rfl,l,rs⟩:=Rep.tup.mp r;cases q;obtain⟨its,rv,⟨o,e,hc,n,hd⟩,_⟩:=I.tuple l.sq;obtain⟨as,ra⟩:=aw.reads I (by unfold dI at hp;exact hp) rs rv
   unfold toPy;exact⟨_, .tuple e hc hd (by simpa using ra)⟩
 | .dct _ _,v,u,hp,r,q=>by unfold dI at hp;cases hp
theorem aw.reads{pins:Rn}{s:Shared}{B:List Addr}(I:Inv X pins σ H s):∀{ds:List D} {vs:List V} {us:List Value},iU ds=true->aw X.K B H ds vs->Vals vs us->∃as,ReadsAll s.heap us (kg ds) as
 | [],vs,us,_,r,q=>by unfold aw at r;subst r;cases q;unfold kg;exact⟨_, .nil⟩
 | d ::ds,vs,us,hp,r,q=>by
   obtain⟨x,xs,rfl,r1,r2⟩:=r.bM;cases q with
   | cons q1 q2=>
     unfold iU at hp;obtain⟨h1,h2⟩:=Bool.and_eq_true_iff.mp hp;obtain⟨as,a1⟩:=Rep.reads I h1 r1 q1;obtain⟨bs,a2⟩:=aw.reads I h2 r2 q2;unfold kg;exact⟨_, .cons a1 a2⟩
end
def CC:D->D->R Bool
 | .int i, .int j=> .ok (decide (i=j))
 | .str x, .str y=> .ok (decide (x=y))
 | .bl a, .bl b=> .ok (decide (a=b))
 | d,e=>R.aU (dI d && dI e && SeqAt.shaped (toPy d) && SeqAt.shaped (toPy e)) (.ok (PyData.eqv (toPy d) (toPy e)))
def rm(d e:D):R D:=(CC d e).bind fun b=> .ok (.bl b)
def yW(d e:D):R D:=(CC d e).bind fun b=> .ok (.bl (!b))
theorem m7(hu:X.A.units+64 < cLine):ki X (compareOp .Eq) rm:=by
 intro pins s σ H B da db d x y v u I hb rx ry ra rb hg;obtain⟨b,h1,h2⟩:=R.ai hg;cases h2;unfold CC at h1;split at h1
 .cases h1;rename_i i j;have:=A0 pins s σ H x y v u (fun z H'=>aK H H'/\Rep X.K B H' (.bl (decide (i=j))) z) I rx ry
  rw[Rep.int.mp ra,Rep.int.mp rb] at this;refine this ⟨rfl,aK.refl H,Rep.bl.mpr ?_⟩;simp [V.int.injEq]
 .cases h1;rename_i i j;have:=A0 pins s σ H x y v u (fun z H'=>aK H H'/\Rep X.K B H' (.bl (decide (i=j))) z) I rx ry
  rw[Rep.str.mp ra,Rep.str.mp rb] at this;refine this ⟨rfl,aK.refl H,Rep.bl.mpr ?_⟩;simp [V.str.injEq]
 .cases h1;rename_i i j;have:=A0 pins s σ H x y v u (fun z H'=>aK H H'/\Rep X.K B H' (.bl (decide (i=j))) z) I rx ry
  rw[Rep.bl.mp ra,Rep.bl.mp rb] at this;refine this ⟨rfl,aK.refl H,Rep.bl.mpr ?_⟩;simp [V.bl.injEq]
 .obtain⟨h3,h4⟩:=R.aT h1;cases h4;simp only[Bool.and_eq_true] at h3;obtain⟨⟨⟨p1,p2⟩,s1⟩,s2⟩:=h3;obtain⟨as,r1⟩:=ra.reads I p1 rx;obtain⟨bs,r2⟩:=rb.reads I p2 ry;exact eq_dataH r1 r2 s1 s2 hu ⟨.bl _,H,I,rfl,aK.refl H,Rep.bl.mpr rfl⟩
theorem Al(hu:X.A.units+64 < cLine):ki X (compareOp .NotEq) yW:=by
 intro pins s σ H B da db d x y v u I hb rx ry ra rb hg;obtain⟨b,h1,h2⟩:=R.ai hg;cases h2;unfold CC at h1;split at h1
 .cases h1;rename_i i j;have:=AA pins s σ H x y v u (fun z H'=>aK H H'/\Rep X.K B H' (.bl (!decide (i=j))) z) I rx ry
  rw[Rep.int.mp ra,Rep.int.mp rb] at this;refine this ⟨rfl,aK.refl H,Rep.bl.mpr ?_⟩;simp [V.int.injEq]
 .cases h1;rename_i i j;have:=AA pins s σ H x y v u (fun z H'=>aK H H'/\Rep X.K B H' (.bl (!decide (i=j))) z) I rx ry
  rw[Rep.str.mp ra,Rep.str.mp rb] at this;refine this ⟨rfl,aK.refl H,Rep.bl.mpr ?_⟩;simp [V.str.injEq]
 .cases h1;rename_i i j;have:=AA pins s σ H x y v u (fun z H'=>aK H H'/\Rep X.K B H' (.bl (!decide (i=j))) z) I rx ry
  rw[Rep.bl.mp ra,Rep.bl.mp rb] at this;refine this ⟨rfl,aK.refl H,Rep.bl.mpr ?_⟩;simp [V.bl.injEq]
 .obtain⟨h3,h4⟩:=R.aT h1;cases h4;simp only[Bool.and_eq_true] at h3;obtain⟨⟨⟨p1,p2⟩,s1⟩,s2⟩:=h3;obtain⟨as,r1⟩:=ra.reads I p1 rx;obtain⟨bs,r2⟩:=rb.reads I p2 ry;exact ne_dataH r1 r2 s1 s2 hu ⟨.bl _,H,I,rfl,aK.refl H,Rep.bl.mpr rfl⟩
def strs?:List D->Option (List Str)
 | []=>some []
 | .str x ::ds=>(strs? ds).map (x ::·)
 | _ ::_=>none
theorem jH{K:W.Frag}{B:List Addr}:∀{ds:List D} {xs:List V} {ss:List Str},aw K B H ds xs->strs? ds=some ss->xs=ss.map V.str
 | [],xs,ss,r,h=>by unfold aw at r;subst r;cases h;rfl
 | d ::ds,xs,ss,r,h=>by
   obtain⟨x,r',rfl,r1,r2⟩:=r.bM;cases d with
   | str z=>
     unfold strs? at h;cases e:strs? ds with
     | none=>rw [e] at h;cases h
     | some tt=>
       rw[e] at h;cases h;rw[Rep.str.mp r1,jH r2 e];rfl
   | _=>cases h
def ints?:List D->Option (List Int)
 | []=>some []
 | .int x ::ds=>(ints? ds).map (x ::·)
 | _ ::_=>none
theorem dD{K:W.Frag}{B:List Addr}:∀{ds:List D} {xs:List V} {ss:List Int},aw K B H ds xs->ints? ds=some ss->xs=ss.map V.int
 | [],xs,ss,r,h=>by unfold aw at r;subst r;cases h;rfl
 | d ::ds,xs,ss,r,h=>by
   obtain⟨x,r',rfl,r1,r2⟩:=r.bM;cases d with
   | int z=>
     unfold ints? at h;cases e:ints? ds with
     | none=>rw [e] at h;cases h
     | some tt=>
       rw[e] at h;cases h;rw[Rep.int.mp r1,dD r2 e];rfl
   | _=>cases h
def inD(d e:D):R Bool:=match d,e with
 | .str x, .lst ds=>(match strs? ds with | some ss=> .ok (ss.contains x) | none=> .no)
 | .str x, .tup ds=>(match strs? ds with | some ss=> .ok (ss.contains x) | none=> .no)
 | .str x, .str y=> .ok (!(Builtin.Str.occurrences y x 0 y.length 1).isEmpty)
 | .int x, .lst ds=>(match ints? ds with | some ss=> .ok (ss.contains x) | none=> .no)
 | .int x, .tup ds=>(match ints? ds with | some ss=> .ok (ss.contains x) | none=> .no)
 | _,_=> .no
def EH(d e:D):R D:=(inD d e).bind fun b=> .ok (.bl b)
def K3(d e:D):R D:=(inD d e).bind fun b=> .ok (.bl (!b))
theorem qr(x:Str):∀ss:List Str,EV (.str x) (ss.map V.str)=ss.contains x
 | []=>rfl
 | y ::ss=>by
   unfold EV;rw[List.map_cons,List.any_cons];have ih:=qr x ss;unfold EV at ih;rw[ih];show(y==x || ss.contains x)=_
   rw[List.contains_cons];congr 1;exact Bool.eq_iff_iff.mpr ⟨fun h=>by simpa using(beq_iff_eq.mp h).symm,fun h=>by simpa using(beq_iff_eq.mp h).symm⟩
theorem qa(x:Int):∀ss:List Int,EV (.int x) (ss.map V.int)=ss.contains x
 | []=>rfl
 | y ::ss=>by
   unfold EV;rw[List.map_cons,List.any_cons];have ih:=qa x ss;unfold EV at ih;rw[ih];show(y==x || ss.contains x)=_
   rw[List.contains_cons];congr 1;exact Bool.eq_iff_iff.mpr ⟨fun h=>by simpa using(beq_iff_eq.mp h).symm,fun h=>by simpa using(beq_iff_eq.mp h).symm⟩
theorem sj(ss:List Int):(ss.map V.int).all kh=true:=by
 rw[List.all_map];simp [List.all_eq_true,kh]
theorem rq(ss:List Str):(ss.map V.str).all kh=true:=by
 rw[List.all_map];simp [List.all_eq_true,kh]
theorem FF{neg:Bool}{op:CmpOp}{g:D->D->R D}(h1:lA X (compareOp op) (ME X.K neg))(h2:lA X (compareOp op) (fun x y H Q=>∃i j,x= .str i/\y= .str j/\Q (.bl (if neg then !(!(Builtin.Str.occurrences j i 0 j.length 1).isEmpty) else(!(Builtin.Str.occurrences j i 0 j.length 1).isEmpty))) H))
 (hg:∀d e r,g d e= .ok r->∃b,inD d e= .ok b/\r= .bl (if neg then !b else b)):ki X (compareOp op) g:=by
 intro pins s σ H B da db d x y v u I hb rx ry ra rb hg';obtain⟨b,hi,rfl⟩:=hg da db d hg';unfold inD at hi;split at hi
 .rename_i z ds;split at hi
  .rename_i ss e;cases hi;obtain⟨a,xs,rfl,l,rs⟩:=Rep.lst.mp rb;refine h1 pins s σ H x _ v u _ I rx ry ⟨a,xs,rfl, .inl l.sq,by rw[Rep.str.mp ra];rfl,by rw[jH rs e];exact rq _,aK.refl H,Rep.bl.mpr ?_⟩
   rw[jH rs e,Rep.str.mp ra,qr]
  .cases hi
 .rename_i z ds;split at hi
  .rename_i ss e;cases hi;obtain⟨a,xs,rfl,l,rs⟩:=Rep.tup.mp rb;refine h1 pins s σ H x _ v u _ I rx ry ⟨a,xs,rfl, .inr l.sq,by rw[Rep.str.mp ra];rfl,by rw[jH rs e];exact rq _,aK.refl H,Rep.bl.mpr ?_⟩
   rw[jH rs e,Rep.str.mp ra,qr]
  .cases hi
 .cases hi;exact h2 pins s σ H x y v u _ I rx ry ⟨_,_,Rep.str.mp ra,Rep.str.mp rb,aK.refl H,Rep.bl.mpr rfl⟩
 .rename_i z ds;split at hi
  .rename_i ss e;cases hi;obtain⟨a,xs,rfl,l,rs⟩:=Rep.lst.mp rb;refine h1 pins s σ H x _ v u _ I rx ry ⟨a,xs,rfl, .inl l.sq,by rw[Rep.int.mp ra];rfl,by rw[dD rs e];exact sj _,aK.refl H,Rep.bl.mpr ?_⟩
   rw[dD rs e,Rep.int.mp ra,qa]
  .cases hi
 .rename_i z ds;split at hi
  .rename_i ss e;cases hi;obtain⟨a,xs,rfl,l,rs⟩:=Rep.tup.mp rb;refine h1 pins s σ H x _ v u _ I rx ry ⟨a,xs,rfl, .inr l.sq,by rw[Rep.int.mp ra];rfl,by rw[dD rs e];exact sj _,aK.refl H,Rep.bl.mpr ?_⟩
   rw[dD rs e,Rep.int.mp ra,qa]
  .cases hi
 .cases hi
theorem D2:ki X (compareOp .In) EH:=FF (neg:=false) zt yD fun d e r h=>by
 obtain⟨b,h1,h2⟩:=R.ai h;cases h2;exact⟨b,h1,rfl⟩
def cn(d e:D):R D:=match d,e with
 | .lst ds, .int i=>(match qu ds i with | some x=> .ok x | none=> .no)
 | .tup ds, .int i=>(match qu ds i with | some x=> .ok x | none=> .no)
 | .str x, .int i=>R.aU (decide (x.length<=sizeLine)) (match qu x.cps.toList i with | some c=> .ok (.str ⟨#[c]⟩) | none=> .no)
 | _,_=> .no
theorem mY{K:W.Frag}{B:List Addr}{ds:List D}{xs:List V}{i:Int}{d:D}(r:aw K B H ds xs)(h:qu ds i=some d):∃x,qu xs i=some x/\Rep K B H d x:=by
 unfold qu at h ⊢;rw[<-r.length];cases e:zI ds.length i with
 | none=>rw [e] at h;cases h
 | some j=>
   rw[e] at h;exact r.get h
theorem Ia(ha:PD X a fa)(hb:PD X b fb)(hs:pe b):PD X (.Subscript a b pos) (e2 cn fa fb):=by
 refine(EZ (r:=KG X.K) Bo ha hb hs).imp fun σ H Q ⟨Z,B,δ,d,E,hf,q⟩=>?_
 obtain⟨d1,h1,h2⟩:=R.ai hf;obtain⟨d2,h3,h4⟩:=R.ai h2;refine⟨Z,B,δ,d1,E,h1,fun v1 H1 s1 r1=>⟨Z,B,δ,d2,E.same s1,h3,fun v2 H2 s2 r2=>?_⟩⟩
 have so:=r1.same s2;unfold cn at h4;split at h4
 .split at h4
  .rename_i e;cases h4;obtain⟨p,xs,rfl,l,rs⟩:=Rep.lst.mp so;obtain⟨y,e1,e2⟩:=mY rs e;exact .inl ⟨p,xs,_,y,rfl,Rep.int.mp r2,l.sq,e1,q y H2 (s1.trans s2) e2⟩
  .cases h4
 .split at h4
  .rename_i e;cases h4;obtain⟨p,xs,rfl,l,rs⟩:=Rep.tup.mp so;obtain⟨y,e1,e2⟩:=mY rs e;exact .inr (.inl ⟨p,xs,_,y,rfl,Rep.int.mp r2,l.sq,e1,q y H2 (s1.trans s2) e2⟩)
  .cases h4
 .obtain⟨hl,h5⟩:=R.aT h4;split at h5
  .rename_i e;cases h5;exact .inr (.inr ⟨_,_,_,Rep.str.mp so,Rep.int.mp r2,of_decide_eq_true hl,e,q _ H2 (s1.trans s2) (Rep.str.mpr rfl)⟩)
  .cases h5
 .cases h4
abbrev FO:=ak->R (Option Int)
def NY(K:W.Frag)(f:FO):TO:=fun σ H Q=>∃Z B δ o,dA K Z B H σ δ/\f δ= .ok o/\∀H',aK H H'->Q o H'
theorem PO.imp{X:Cx}{e:Option Expr}{t t':TO}(h:PO X e t)(w:∀σ H Q,t' σ H Q->t σ H Q):PO X e t':=fun pins s σ H Q I hq=>h pins s σ H Q I (w σ H Q hq)
abbrev PP(X:Cx)(e:Option Expr)(f:FO):Prop:=PO X e (NY X.K f)
def Bg:FO:=fun _=> .ok none
def pH(f:FD):FO:=fun δ=>(f δ).bind fun d=>match d with | .int i=> .ok (some i) | _=> .no
theorem Dg:PP X none Bg:=Dr.imp fun σ H Q ⟨Z,B,δ,o,E,hf,q⟩=>by cases hf;exact q H (aK.refl H)
theorem CT(h:PD X e f):PP X (some e) (pH f):=(C1 h).imp fun σ H Q ⟨Z,B,δ,o,E,hf,q⟩=>by
 obtain⟨d,h1,h2⟩:=R.ai hf;cases d with
 | int i=>cases h2;exact⟨Z,B,δ, .int i,E,h1,fun v H1 s1 r1=>⟨i,Rep.int.mp r1,q H1 s1⟩⟩
 | _=>cases h2
theorem G6:G1 X (fun x lo hi H Q=>∃z,x= .str z/\z.length<=sizeLine/\Q (.str (Txt.slice z lo hi)) H):=by
 intro pins s σ H x v vl vu lo hi sl Q I rx hs pl pu h;obtain⟨z,rfl,hz,q⟩:=h;obtain⟨t,rfl⟩:=rx;refine⟨"str",_,F.slot_str_getitem.lookup,typeIs_str _ _ _,?_⟩;have fin:∀t' k,EP X pins σ Q (.str (Txt.slice z lo hi) t') {s with toks:=k}:=fun t' k=>⟨.str _,H,I.tok _,⟨_,rfl⟩,q⟩
 obtain⟨o,ho,hc,hd⟩:=hs;cases pl with
 | none=>
   cases pu with
   | none=>exact wpAny_getItem_str_slice (l:=none) (u:=none) (st:=none) ⟨o,ho,hc,hd⟩ rfl (post_val_or_str ⟨Nat.le_trans (Txt.slice_le z _ _) hz,fin⟩)
   | int j u=>exact wpAny_getItem_str_slice (l:=none) (u:=some (j,u)) (st:=none) ⟨o,ho,hc,hd⟩ rfl (post_val_or_str ⟨Nat.le_trans (Txt.slice_le z _ _) hz,fin⟩)
 | int i t1=>
   cases pu with
   | none=>exact wpAny_getItem_str_slice (l:=some (i,t1)) (u:=none) (st:=none) ⟨o,ho,hc,hd⟩ rfl (post_val_or_str ⟨Nat.le_trans (Txt.slice_le z _ _) hz,fin⟩)
   | int j u=>exact wpAny_getItem_str_slice (l:=some (i,t1)) (u:=some (j,u)) (st:=none) ⟨o,ho,hc,hd⟩ rfl (post_val_or_str ⟨Nat.le_trans (Txt.slice_le z _ _) hz,fin⟩)
def cutD{α:Type}(xs:List α)(lo hi:Option Int):List α:=(xs.drop (HT.pz xs.length 0 lo)).take (HT.pz xs.length xs.length hi - HT.pz xs.length 0 lo)
def HJ(d:D)(lo hi:Option Int):R D:=match d with
 | .str x=>R.aU (decide (x.length<=sizeLine)) (.ok (.str (Txt.slice x lo hi)))
 | .lst ds=> .ok (.lst (cutD ds lo hi))
 | _=> .no
theorem zO{K:W.Frag}{B:List Addr}{ds:List D}{xs:List V}(r:aw K B H ds xs)(lo hi:Option Int):aw K B H (cutD ds lo hi) (vJ xs lo hi):=by
 unfold cutD vJ;rw[<-r.length];exact(r.drop _).take _
def HQ(f:FD)(fl fh:FO):FD:=fun δ=>(f δ).bind fun d=>(fl δ).bind fun lo=>(fh δ).bind fun hi=>HJ d lo hi
theorem JF{lo hi:Option Expr}{fl fh:FO}(he:PD X e f)(hl:PP X lo fl)(hh:PP X hi fh):PD X (.Subscript e (.Slice lo hi none p2) pos) (HQ f fl fh):=by
 refine(A4 (G6.or DF) he hl hh).imp fun σ H Q ⟨Z,B,δ,d,E,hf,q⟩=>?_
 obtain⟨d1,h1,h2⟩:=R.ai hf;obtain⟨l,h3,h4⟩:=R.ai h2;obtain⟨h,h5,h6⟩:=R.ai h4;refine⟨Z,B,δ,d1,E,h1,fun v1 H1 s1 r1=>⟨Z,B,δ,l,E.same s1,h3,fun H2 s2=>⟨Z,B,δ,h,(E.same s1).same s2,h5,fun H3 s3=>?_⟩⟩⟩
 have sA:aK H H3:=s1.trans (s2.trans s3);have so:=r1.same (s2.trans s3);unfold HJ at h6;split at h6
 .obtain⟨hz,h7⟩:=R.aT h6;cases h7;exact .inl ⟨_,Rep.str.mp so,of_decide_eq_true hz,q _ H3 sA (Rep.str.mpr rfl)⟩
 .cases h6;obtain⟨a,xs,rfl,ls,rs⟩:=Rep.lst.mp so;refine .inr ⟨a,xs,rfl,ls.sq,fun p hp=>q _ _ (sA.trans (aW hp)) (Rep.lst.mpr ⟨p,_,rfl, .wQ aV fun ha=>?_,(zO rs l h).same (aW hp)⟩)⟩
  obtain⟨o,ho⟩:=(E.same sA).bs p ha;rw[hp] at ho;cases ho
 .cases h6
end
end L2
end
section
namespace L2
open PySem PySem.Spec PyProof.Rows
section
variable {X:Cx}
theorem aw.one{K:W.Frag}{B:List Addr}{d:D}{xs:List V}(h:aw K B H [d] xs):∃x,xs=[x]/\Rep K B H d x:=by
 obtain⟨x,r,rfl,h1,h2⟩:=h.bM;unfold aw at h2;subst h2;exact⟨x,rfl,h1⟩
theorem aw.two{K:W.Frag}{B:List Addr}{d e:D}{xs:List V}(h:aw K B H [d,e] xs):∃x y,xs=[x,y]/\Rep K B H d x/\Rep K B H e y:=by
 obtain⟨x,r,rfl,h1,h2⟩:=h.bM;obtain⟨y,rfl,h3⟩:=h2.one;exact⟨x,y,rfl,h1,h3⟩
def jb:List D->R D
 | [.str x]=>R.aU (decide (x.length<=sizeLine)) (.ok (.int x.length))
 | [.lst ds]=> .ok (.int ds.length)
 | [.tup ds]=> .ok (.int ds.length)
 | _=> .no
theorem gO:cD X (.builtin "len") jb:=cD.of Ap fun B H ds d xs Q _ rs hg q=>by
 unfold jb at hg;split at hg
 .obtain⟨h1,h2⟩:=R.aT hg;cases h2;obtain⟨x,rfl,r⟩:=rs.one;exact⟨x,_,rfl,by rw[Rep.str.mp r];exact⟨of_decide_eq_true h1,rfl⟩,q _ H (aK.refl H) (Rep.int.mpr rfl)⟩
 .cases hg;obtain⟨x,rfl,r⟩:=rs.one;obtain⟨a,ys,rfl,l,r⟩:=Rep.lst.mp r;exact⟨_,_,rfl, .inl ⟨ys,l.sq,rfl⟩,q _ H (aK.refl H) (Rep.int.mpr (by rw[r.length]))⟩
 .cases hg;obtain⟨x,rfl,r⟩:=rs.one;obtain⟨a,ys,rfl,l,r⟩:=Rep.tup.mp r;exact⟨_,_,rfl, .inr ⟨ys,l.sq,rfl⟩,q _ H (aK.refl H) (Rep.int.mpr (by rw[r.length]))⟩
 .cases hg
def cInt:List D->R D
 | [.int i]=> .ok (.int i)
 | [.bl b]=> .ok (.int (if b then 1 else 0))
 | _=> .no
theorem Jy:cD X (.type "int") cInt:=cD.of ze fun B H ds d xs Q _ rs hg q=>by
 unfold cInt at hg;split at hg
 .cases hg;obtain⟨x,rfl,r⟩:=rs.one;exact .inl ⟨_,by rw[Rep.int.mp r],q _ H (aK.refl H) (Rep.int.mpr rfl)⟩
 .cases hg;obtain⟨x,rfl,r⟩:=rs.one;exact .inr ⟨_,by rw[Rep.bl.mp r],q _ H (aK.refl H) (Rep.int.mpr rfl)⟩
 .cases hg
def cStr:List D->R D
 | [.int i]=>R.aU (decide (i.natAbs.log2 < 1920)) (.ok (.str (toString i)))
 | _=> .no
def Bf:List D->R D
 | [.int i, .int j]=> .ok (.int (if j < i then j else i))
 | _=> .no
theorem Jc(hc:X.calm=true):cD X (.builtin "min") Bf:=cD.of (yU hc) fun B H ds d xs Q _ rs hg q=>by
 unfold Bf at hg;split at hg
 .cases hg;obtain⟨x,y,rfl,r1,r2⟩:=rs.two;exact⟨_,_,by rw[Rep.int.mp r1,Rep.int.mp r2],q _ H (aK.refl H) (Rep.int.mpr rfl)⟩
 .cases hg
def Gm:List D->R D
 | [.int i, .int j]=> .ok (.int (if j > i then j else i))
 | _=> .no
theorem JD(hc:X.calm=true):cD X (.builtin "max") Gm:=cD.of (yu hc) fun B H ds d xs Q _ rs hg q=>by
 unfold Gm at hg;split at hg
 .cases hg;obtain⟨x,y,rfl,r1,r2⟩:=rs.two;exact⟨_,_,by rw[Rep.int.mp r1,Rep.int.mp r2],q _ H (aK.refl H) (Rep.int.mpr rfl)⟩
 .cases hg
def qv:List D->R D
 | [.lst ds]=> .ok (.tup ds)
 | [.tup ds]=> .ok (.tup ds)
 | _=> .no
theorem sx:cD X (.type "tuple") qv:=cD.of rg fun B H ds d xs Q hb rs hg q=>by
 unfold qv at hg;split at hg
 .cases hg;obtain⟨x,rfl,r⟩:=rs.one;obtain⟨a,ys,rfl,l,r⟩:=Rep.lst.mp r;refine⟨a,ys,rfl, .inl ⟨l.sq,fun p hp=>q _ _ (aW hp) (Rep.tup.mpr ⟨p,ys,rfl, .inl ⟨fun ha=>?_, .inl aV⟩,r.same (aW hp)⟩)⟩⟩
  obtain⟨o,ho⟩:=hb p ha;rw[hp] at ho;cases ho
 .cases hg;obtain⟨x,rfl,r⟩:=rs.one;have r0:=r;obtain⟨a,ys,rfl,l,r⟩:=Rep.tup.mp r;exact⟨a,ys,rfl, .inr ⟨l.sq,q _ H (aK.refl H) r0⟩⟩
 .cases hg
def MU:List D->R D
 | [.lst ds]=> .ok (.lst ds)
 | [.tup ds]=> .ok (.lst ds)
 | _=> .no
def cAbs:List D->R D
 | [.int i]=> .ok (.int (if i < 0 then -i else i))
 | _=> .no
def FK:List D->R D
 | [.lst ds]=>(match ints? ds with | some ns=> .ok (.int ns.sum) | none=> .no)
 | _=> .no
theorem eB:∀{ns:List Int} {us:List Value},Vals (ns.map V.int) us->∃l:List (Int × Tok),us=l.map (fun p=>Value.int p.1 p.2)/\l.map (·.1)=ns
 | [],_, .nil=>⟨[],rfl,rfl⟩
 | n ::ns,_, .cons r t=>by
   obtain⟨l,rfl,e⟩:=eB t;obtain⟨tk,rfl⟩:=r;exact⟨(n,tk) ::l,rfl,by rw[List.map_cons,e]⟩
theorem Io(hc:X.calm=true):cD X (.builtin "sum") FK:=by
 intro pins s σ H B ds d xs us I hb rx rs hg;unfold FK at hg;split at hg
 .split at hg
  .rename_i es ns e;cases hg;obtain⟨x,rfl,r⟩:=rs.one;obtain⟨a,ys,rfl,l,r⟩:=Rep.lst.mp r;obtain⟨u,rfl,ru⟩:=vals1 rx;cases ru;obtain⟨its,n,rv,e1,hz⟩:=I.EJ l;rw[dD r e] at rv;obtain⟨ps,rfl,rfl⟩:=eB rv;have hl:s.heap.IsList a (intItems ps.toArray):=⟨_,e1,rfl,n,by simp [intItems]⟩
   refine sum_intListG (I.ok.hd hc) hl fun h' tk t' k=>⟨.int _,H,I.kept k,⟨t',rfl⟩,aK.refl H,Rep.int.mpr ?_⟩
   rw[preSum_eq,List.take_of_length_le (by simp)]
  .cases hg
 .cases hg
def tyName:D->String
 | .cz=>"NoneType" | .bl _=>"bool" | .int _=>"int" | .str _=>"str" | .lst _=>"list" | .tup _=>"tuple" | .dct _ _=>"dict"
def OP(T:String)(f:FD):FD:=fun δ=>(f δ).bind fun d=>R.aU (tyName d==T && d.atom) (.ok (.bl true))
def QR(X:Cx)(id:String)(g:D->List D->R D):Prop:=
 ∀(pins:Rn) (s:Shared) (σ:St) (H:Hp) (B:List Addr) (da d:D) (ds:List D) (x:V) (xs:List V) (v:Value) (us:List Value),Inv X pins σ H s->(∀a∈B,∃o,H a=some o)->RelV x v->Vals xs us->Rep X.K B H da x->aw X.K B H ds xs->g da ds= .ok d->
  wpAny (model X.prog X.w) X.A (call (.builtin id) (v ::us)) (EP X pins σ fun z H'=>aK H H'/\Rep X.K B H' d z) X.xe s
def QS(T:String)(g:D->List D->R D)(f:FD)(fs:ak->R (List D)):FD:=fun δ=>(f δ).bind fun d=>R.aU (tyName d==T && (d.atom || T=="list")) ((fs δ).bind fun ds=>g d ds)
def M_(d:D)(ds:List D):R D:=match d,ds with
 | .str sep,[.lst es]=>(match strs? es with | some ss=>R.aU (JoinOk sep ss) (.ok (.str (Str.join sep ss))) | none=> .no)
 | _,_=> .no
abbrev PJ(X:Cx)(es:List Expr)(f:ak->R (List Str)):Prop:=
 ∀(pins:Rn) (s:Shared) (σ:St) (H:Hp) (Z B:List Addr) (δ:ak) (acc:Str) (ss:List Str) (Q:VK),Inv X pins σ H s->dA X.K Z B H σ δ->f δ= .ok ss->(ss.foldl (·++·) acc).length<=sizeLine->(∀H',aK H H'->Q (.str (ss.foldl (·++·) acc)) H')->
  wpAny (model X.prog X.w) X.A (joinParts acc (evalEach es X.env)) (EP X pins σ Q) X.xe s
def NM:ak->R (List Str):=fun _=> .ok []
def My(f:FD)(g:ak->R (List Str)):ak->R (List Str):=fun δ=>(f δ).bind fun d=>match d with | .str x=>(g δ).bind fun ss=> .ok (x ::ss) | _=> .no
def Ka(g:ak->R (List Str)):FD:=fun δ=>(g δ).bind fun ss=>R.aU (decide ((ss.foldl (·++·) Str.empty).length<=sizeLine)) (.ok (.str (ss.foldl (·++·) Str.empty)))
def KH:D->R D
 | .str x=>R.aU (decide (x.length<=sizeLine)) (.ok (.str x))
 | .int i=>R.aU (decide (i.natAbs.log2 < 1920)) (.ok (.str (toString i)))
 | _=> .no
def Pe(f:FD):FD:=fun δ=>(f δ).bind KH
def Jq:List (D × D)->Str->R (Option D)
 | [],_=> .ok none
 | (.str y,d) ::r,x=>(Jq r x).bind fun o=> .ok (match o with | some e=>some e | none=>if y=x then some d else none)
 | _ ::_,_=> .no
def Ij(x:Str):List D:=x.cps.toList.map fun c=> .str ⟨#[c]⟩
def Qw(x:Str):It:=⟨fun i _=>i < x.cps.size,fun i H v H'=>H'=H/\∃c,x.cps[i]? =some c/\v= .str ⟨#[c]⟩,fun i _=>x.cps.size<=i⟩
def Mt(f:FD):ak->R (List D):=fun δ=>(f δ).bind fun d=>match d with | .str x=> .ok (Ij x) | _=> .no
def OM(K:W.Frag)(a:Addr):It:=
 ⟨fun i H=>∃xs x,mG K H a xs/\xs[i]? =some x,fun i H v H'=>∃p x,H p=none/\v= .ref p/\(∀xs,mG K H a xs->xs[i]? =some x)/\H'=upd H p (.tup [.int i,x]),fun i H=>∃xs,mG K H a xs/\xs.length<=i⟩
theorem yQ{K:W.Frag}{k:Nat}(a e it:Addr)(HS:e≠it):Turn P w K (.Tuple elts k pos) (OM K a) [e,it] e (fun i h=>(∃old,IsEnum h e it ((i:Nat):Int) old)/\h.IsListIter it a i) where
 mem:=by simp
 obj:=fun i h st b hb=>by
  obtain⟨⟨old,he⟩,o,ho,c,d⟩:=st;rcases List.mem_cons.mp hb with rfl | hb
  .exact⟨_,he,fun v z=>by cases z⟩
  .have e:b=it:=by simpa using hb
   subst e;exact⟨o,ho,fun v z=>by rw[d] at z;cases z⟩
 keep:=fun i h h' st k=>by
  obtain⟨⟨old,he⟩,hi⟩:=st;exact⟨⟨old,k e (by simp) _ he⟩,hi.at fun o x=>k it (by simp) o x⟩
 item:=by
  intro X hP hw hK hc i pins s σ H E I hf st hg;subst hP hw hK;obtain⟨xs,x,hq,hx⟩:=hg;obtain⟨its,rv,p,hz⟩:=I.list hq;obtain⟨u,hu,ru⟩:=rv.get hx;obtain⟨⟨old,he⟩,hit⟩:=st;obtain⟨f0,f1,f2,f3,f4,f5⟩:=hf e (by simp)
  obtain⟨g0,g1,g2,g3,g4,g5⟩:=hf it (by simp)
  refine wpAny_pyNext_enum_item he hit p.isList (x:=u) (by simpa using hu) HS fun gM CO xj Cu l6 sr=>⟨_,rfl,?_⟩
  refine wpAny_letOwnedTupleGo_enum CO fun fL Ct cy=>?_
  replace cy:Heap.SameBut e gM fL:=cy
  have hel:e < s.heap.objs.size:=Heap.lt_size he;have vB:fL.get? s.heap.objs.size=some {cls:= .type "tuple",data:= .seq #[.int i s.toks,u]}:=(cy.2 _ (Nat.ne_of_gt hel)).trans Cu;have kk:∀b o,b≠e->b≠it->s.heap.get? b=some o->fL.get? b=some o:=fun b o h1 h2 q=>(cy.2 b h1).trans (sr b o h1 h2 q)
  have hn:H s.heap.objs.size=none:=I.fresh;have sm:aK H (upd H s.heap.objs.size (.tup [.int i,x])):=aW hn;have nit:∀b o,H b=some o->b≠e/\b≠it:=fun b o q=>⟨fun z=>(by rw[z,f0] at q;cases q),fun z=>(by rw[z,g0] at q;cases q)⟩
  have hok:lQ X.prog X.w (upd H s.heap.objs.size (.tup [.int i,x])) fL:=fun b ob q=>by
   by_cases hb:b=s.heap.objs.size
   .subst hb;rw[aV] at q;cases q;exact⟨by show 2<=sizeLine;decide,[.int i s.toks,u], .cons ⟨_,rfl⟩ (.cons ru .nil),⟨_,vB,rfl,_,rfl⟩⟩
   .rw [aS hb] at q;refine(I.hok b ob q).tQ (fun c v hc z=>?_) (fun c z=>sm c _ z) fun c ys z=>sm c _ z
    rcases hc with rfl | hc
    .exact kk c v (nit c _ q).1 (nit c _ q).2 z
    .exact kk c v (nit c _ hc).1 (nit c _ hc).2 z
  have nch:∀b,b ∉ [e,it]->b≠e/\b≠it:=fun b hb=>⟨fun z=>hb (by simp [z]),fun z=>hb (by simp [z])⟩
  have I2:Inv X pins σ (upd H s.heap.objs.size (.tup [.int i,x])) {s with heap:=fL,toks:=s.toks+1}:=by
   refine I.step (g':=s.gens) (d':=s.drawn) (ch:=[e,it]) (fun b hb=>?_) (fun b o _ _ hb q _=>kk b o (nch b hb).1 (nch b hb).2 q) (fun b o _ _ hb q _=>⟨o.slots,kk b o (nch b hb).1 (nch b hb).2 q⟩)
    (fun b o hb q n=>by rw[aS (Nat.ne_of_lt (Heap.lt_size q))];exact n) (fun b o hb q=>⟨o,kk b o (nch b hb).1 (nch b hb).2 q⟩) (fun b ys z=>sm b _ z) (fun b o u z=>sm b _ z) (fun b ps z=>⟨#[],by rw[sm b _ z];simp⟩) (fun m hm=>?_) hok I.bare
   .rcases List.mem_cons.mp hb with rfl | hb
    .exact⟨f3,f1,f4,f5⟩
    .have z:b=it:=by simpa using hb
     subst z;exact⟨g3,g1,g4,g5⟩
   .obtain⟨o,es,ep,ho,r⟩:=hm;exact⟨o,es,ep,kk _ o (Ne.symm f1) (Ne.symm g1) ho,r⟩
  refine⟨.ref s.heap.objs.size,_,I2,rfl,⟨s.heap.objs.size,x,hn,rfl,fun ys hy=>(by rw[I.mK hy hq];exact hx),rfl⟩,⟨⟨_,by simpa using Ct⟩,xj.at fun o q=>(cy.2 it (Ne.symm HS)).trans q⟩,fun b hb=>?_⟩
  rcases List.mem_cons.mp hb with rfl | hb
  .rw [aS (Nat.ne_of_lt hel)];exact f0
  .have z:b=it:=by simpa using hb
   subst z;obtain⟨o,ho,_⟩:=hit;rw[aS (Nat.ne_of_lt (Heap.lt_size ho))];exact g0
 done:=by
  intro X hP hw hK hc i pins s σ H E I hf st hg;subst hP hw hK;obtain⟨xs,hq,hx⟩:=hg;obtain⟨its,rv,p,hz⟩:=I.list hq;obtain⟨⟨old,he⟩,hit⟩:=st;obtain⟨g0,g1,g2,g3,g4,g5⟩:=hf it (by simp)
  have hl:=rv.length;exact wpAny_pyNext_enum_end (I.ok.hd hc) he hit p.isList (by simp;omega) fun h' eb=>⟨rfl,I.turned (t':=s.toks) (fun b o hb q=>eb b o hb q) g0 g1 g3 g4 g5⟩
 self:=fun A i s Q E st h=>let⟨⟨_,he⟩,_⟩:=st;wpAny_pyIter_enum he h
def dy(ds:List D):List D:=ds.zipIdx.map fun p=> .tup [.int p.2,p.1]
def hX(f:FD):ak->R (List D):=fun δ=>(f δ).bind fun d=>match d with | .lst ds=> .ok (dy ds) | _=> .no
theorem vg{elts:List Expr}{k:Nat}{qG:Pos}{p pos:Pos}(h:PD X a f)(hg:Gl X "enumerate")(hm:X.mg "enumerate"=none)(hs:starEach [a] X.env=[(false,eval a X.env)]:=by rfl):ER X (.Tuple elts k qG) (.Call (.Name "enumerate" p) [a] [] pos) (hX f):=by
 intro pins s σ H RR I ⟨Z,B,δ,ds,E,hf,q⟩;obtain⟨d,h1,h2⟩:=R.ai hf;have hA:=dM h gK hs pos pins s σ H (fun vs H1=>aK H H1/\∃v,vs=[v]/\Rep X.K B H1 d v) I ⟨Z,B,δ,d,E,h1,fun v H1 s1 r1=>⟨s1,v,rfl,r1⟩⟩
 refine Call_ (kQ I hg hm boot_enumerate (PyProof.Rows.callWith_type1 (ee hA fun us s1 ⟨vs,H1,I1,r1,ss,v,ev,rr⟩=>?_) hs rfl))
 subst ev;obtain⟨u,rfl,ru⟩:=vals1 r1;cases d with
 | lst es=>
   cases h2;obtain⟨b,xs,rfl,l,rs⟩:=Rep.lst.mp rr;cases ru;obtain⟨its,n,rv,e1,hz⟩:=I1.EJ l;refine call_enumerate_list (items:=its.toArray) ⟨_,e1,rfl,n,rfl⟩ fun h' he hit vG kk=>wpAny_pyIter_enum he ?_
   have I2:Inv X pins σ H1 {s1 with heap:=h'}:=I1.kept (t':=s1.toks) kk
   refine⟨s1.heap.objs.size+1,[s1.heap.objs.size+1,s1.heap.objs.size],_,_,H1,rfl,I2,yQ b (s1.heap.objs.size+1) s1.heap.objs.size (Nat.succ_ne_self _),⟨⟨_,he⟩,hit⟩,fun c hc=>?_,q _ H1 ss fun B' H' pr=>?_⟩
   .have hle:s1.heap.objs.size<=c:=by
     rcases List.mem_cons.mp hc with z | hc
     .rw [z];exact Nat.le_succ _
     .have z:c=s1.heap.objs.size:=by simpa using hc
      rw[z];exact Nat.le_refl _
    exact I1.tF hle (I1.hok.fresh hle)
   .have l':tj X.K B' H' b xs:=l.aY pr;have rs':=rs.aY pr;refine⟨fun i d hd=>?_,⟨xs,l'.sq,by rw[<-rs.length];unfold dy;simp⟩⟩
    unfold dy at hd;rw[List.getElem?_map,List.getElem?_zipIdx] at hd;cases e:es[i]? with
    | none=>rw [e] at hd;cases hd
    | some d0=>
      rw[e] at hd;have hd:D.tup [.int ((0+i:Nat):Int),d0]=d:=Option.some.inj hd;rw[Nat.zero_add] at hd;obtain⟨x,hx,rx⟩:=rs'.get e;refine⟨⟨xs,x,l'.sq,hx⟩,fun v l7 y EC=>?_⟩
      obtain⟨p,y,hp,rfl,hy,rfl⟩:=y;refine⟨aW hp,?_⟩;subst hd;have zF:=hy xs l'.sq;rw[hx] at zF;cases zF;refine Rep.tup.mpr ⟨p,_,rfl, .inl ⟨fun ha=>?_, .inl aV⟩,aw.cons (Rep.int.mpr rfl) (aw.cons (rx.same (aW hp)) aw.nil)⟩
      obtain⟨o,ho⟩:=EC p ha;rw[hp] at ho;cases ho
 | _=>cases h2
end
end L2
end
section
namespace L2
open PySem PySem.Spec PyProof.Rows
def Def(K:W.Frag)(mg:Rt)(x:Str)(st:Stmt):Prop:=∃f fd,yh K x x st f fd/\mg x=some (.ref f)
def Callee(P:Program)(w:World)(K:W.Frag)(mg:Rt)(base:Heap)(k:Nat)(x:Str)(n:Nat)(g:List D->R D):Prop:=
 ∃f fd ps,gR P w K mg base q8 k f fd ps (B7 K n g)/\mg x=some (.ref f)/\PySem.W.keepIn K (.ref f)=true/\Binds K fd ps []
theorem bA:∀(δ:ak) (ds:List D),aD δ= .ok ds->ds.length=0:=fun δ ds h=>by cases h;rfl
theorem ay{g:ak->R (List D)}{n:Nat}(h:∀(δ:ak) (ds:List D),g δ= .ok ds->ds.length=n):∀(δ:ak) (ds:List D),ah f g δ= .ok ds->ds.length=n+1:=fun δ ds e=>by
 obtain⟨d,h1,h2⟩:=R.ai e;obtain⟨es,h3,h4⟩:=R.ai h2;cases h4;rw[List.length_cons,h δ es h3]
theorem z_{P:Program}{w:World}{K:W.Frag}{mg:Rt}{base:Heap}{x qual:Str}{st:Stmt}{f:Addr}{fd:FuncData}{N ps:List Str}{k:Nat}{F:FS}{b:List Stmt}{sc:Scope}(hb:aM st=b)(hs:av st=sc)(Fn:yh K x qual st f fd)(S:aX N ps sc)
 (jL:∀(dC:Value) (A:Around) (outer:List Env) (s:Shared) (H:Hp) (E:XK),dR k (A.deeper (envOfC qual sc s.heap.objs.size f dC))->
   oY (pI q8 P w K mg base N qual sc f dC A outer s H E).Es b F):gR P w K mg base q8 (k+1) f fd ps (B7 K ps.length (pj N F)):=by
 subst hb hs;exact Eo Fn S jL
section
variable {X:Cx}
theorem As{g:List D->R D}{k j n:Nat}{x:Str}{p pos:Pos}{e:Expr}{es:List Expr}{fs:ak->R (List D)}(C:Callee X.prog X.w X.K X.mg X.base k x n g)(hr:dR j X.A)(Cq:k<=j)(hg:Gl X x)(ha:CB X (e ::es) fs)
 (hn:∀δ ds,fs δ= .ok ds->ds.length=n) (oA:(x==("__debug__":Str))=false:=by decide) (he:starEach (e ::es) X.env=(false,eval e X.env) ::starEach es X.env:=by rfl) (kx:(backTo pos (starEach es X.env)).any (·.1)=false:=by rfl) :
 PD X (.Call (.Name x p) (e ::es) [] pos) (aQ g fs):=by
 obtain⟨f,fd,ps,F,hm,hk,hb⟩:=C;exact DW F (hr.mono Cq) hg hm hk hb ha hn oA he kx
def IX(sc:Scope)(N:List Str)(scope:Scope)(kp:List Nat)(kn:List Str):Bool:=
 decide (scope.kind= .function) && scope.names.all (fun y=>decide (y.2= .cell->scope.names.lookup y.1=some .cell)) && scope.names.all (fun y=>decide (y.2= .local->scope.names.lookup y.1=some .local))
  && scope.names.all (fun y=>decide (y.2= .free->(sc.names.lookup y.1=some .cell\/sc.names.lookup y.1=some .free))) && scope.names.all (fun y=>decide (y.2= .free->scope.names.lookup y.1=some .free)) && decide (kn.length=kp.length)
  && (List.range kp.length).all (fun j=>decide ((kp[j]?).bind (N[·]?)=kn[j]?)) && kn.all (fun x=>decide (scope.names.lookup x=some .free))
theorem bt.of{own:List Str}{kp:List Nat}{kn:List Str}{N:List Str}(h1:X.env.scope=sc)(h2:X.N=N)(h:IX sc N scope kp kn=true):bt X scope own kp kn:=by
 unfold IX at h;simp only[Bool.and_eq_true,decide_eq_true_eq,List.all_eq_true] at h;obtain⟨⟨⟨⟨⟨⟨⟨a1,a2⟩,a3⟩,a4⟩,a8⟩,a5⟩,a6⟩,a7⟩:=h;refine⟨a1,a2,a3,fun y hy hf=>?_,a8,a5,fun j i x hj hx=>?_,a7⟩
 .have:=a4 y hy hf;unfold Env.kindOf;rw[h1];exact this
 .have hlt:j < kp.length:=(List.getElem?_eq_some_iff.mp hj).1;have:=a6 j (List.mem_range.mpr hlt);rw[hj] at this;rw[h2];exact this.trans hx
def Aa(aP:List (Key × V))(f g:FD):FD:=fun δ=>(f δ).bind fun k=>(g δ).bind fun d=>match k with
 | .str x=>(match lJ (jS [] aP) (Sum.inr x) with | some (.int i)=> .ok (.int i) | none=> .ok d | _=> .no)
 | _=> .no
theorem FU{keys:List (Option Expr)}{values:List Expr}{su:List (TE × TE)}{t6 apos b_:Pos}{e f:Expr}{fe ff:FD}{aP:List (Key × V)}(hu:X.A.units+1 < cLine)(h:GJ X t6 keys values su)(zH:keys.all (·.isSome)=true)(hl:keys.length=values.length)(h0:keys≠[])
 (hc:∀σ H Q,Q (aP.map fun kv=>(kV kv.1,kv.2)) H->nK su σ H Q) (hlen:aP.length<=15) (he:PD X e fe) (hf:PD X f ff) (m:M2 X (.Dict keys values t6) "get" apos e f b_)
 (hd:PE X (.Dict keys values t6) (zY su)):PD X (.Call (.Attribute (.Dict keys values t6) "get" apos) [e,f] [] b_) (Aa aP fe ff):=by
 refine(Ae hu hd he hf m).imp fun σ H Q ⟨Z,B,δ,d,E,hfd,q⟩=>?_
 obtain⟨k,h1,h2⟩:=R.ai hfd;obtain⟨dd,h3,h4⟩:=R.ai h2;intro p hp;refine hc σ _ _ ⟨aV,aP,rfl,hlen,p,rfl, .inl ⟨_, .inl aV⟩,?_⟩;rw[Dl];have s0:aK H (upd H p (.dK (jS [] aP))):=aW hp;refine⟨Z,B,δ,k,E.same s0,h1,fun v1 H1 s1 r1=>⟨Z,B,δ,dd,(E.same s0).same s1,h3,fun v2 H2 s2 r2=>?_⟩⟩
 have hH2:H2 p=some (.dK (jS [] aP)):=s2 p _ (s1 p _ aV);have sA:aK H H2:=s0.trans (s1.trans s2);split at h4
 .rename_i x;refine⟨lJ (jS [] aP) (Sum.inr x),?_,?_⟩
  .rw [Rep.str.mp r1];exact qV.k (k:=Sum.inr x) hH2
  .split at h4
   .rename_i i e1;cases h4;rw[e1];exact q _ H2 sA (Rep.int.mpr rfl)
   .rename_i e1;cases h4;rw[e1];exact q _ H2 sA r2
   .cases h4
 .cases h4
def M6(i:Nat)(f:FD):FS:=fun δ=>(f δ).bind fun d=>match d with
 | .lst es=>(nk δ i).bind fun ds=>R.aU (decide (ds.length+es.length<=sizeLine)) (.ok (.nx (δ.set i (.bld (ds++es)))))
 | _=> .no
end
end L2
end
section
namespace L2
open PySem PySem.Spec PyProof.Rows
structure QD (X:Cx) (e:Expr) (f:FD):Prop where
 h:PD X e f
structure QN (X:Cx) (e:Expr) (f:ak->R (List D)):Prop where
 h:PN X e f
structure QB (X:Cx) (e:Expr) (f:ak->R Bool):Prop where
 h:PB X e f
structure QT (X:Cx) (e:Expr) (f:ak->R Bool):Prop where
 h:Pj X e f
structure ES (X:Cx) (e:List Expr) (f:ak->R (List D)):Prop where
 h:CB X e f
structure Cy (X:Cx) (e:Stmt) (f:FS):Prop where
 h:A3 X e f
structure qZ (X:Cx) (e:List Stmt) (f:FS):Prop where
 h:oY X e f
structure HE (X:Cx) (e:Expr) (f:FT):Prop where
 h:Gv X e f
structure Dy (X:Cx) (e:List Expr) (f:Bx):Prop where
 h:BH X e f
structure uS (X:Cx) (tg e:Expr) (f:ak->R (List D)):Prop where
 h:ER X tg e f
structure QP (X:Cx) (e:Option Expr) (f:FO):Prop where
 h:PP X e f
structure QJ (X:Cx) (e:List Expr) (f:ak->R (List Str)):Prop where
 h:PJ X e f
structure C3 (X:Cx) (e:List Expr) (c:ak->R Bool):Prop where
 h:mN X e (ET X.K c)
section
variable {X:Cx}
theorem bz{f:ak->R (List D)}(h:QN X e f):QD X e (eNew f):=⟨GV h.1⟩
theorem aa(i:Nat){pos:Pos}(hN:X.N[i]? =some x:=by rfl)(hv:Cz X.env.scope x:=by first | exact Or.inl rfl | exact Or.inr (Or.inl rfl) | exact Or.inr (Or.inr rfl))(hd:(x==("__debug__":Str))=false:=by decide)(pb:(x==("__classdict__":Str))=false:=by decide):QD X (.Name x pos) (ag i):=⟨Fw i hN hv hd pb⟩
theorem af{i j pos}:QD X (.Constant (.int i) j pos) (eC (.int i)):=⟨G_⟩
theorem tT{b j pos}:QD X (.Constant (.bool b) j pos) (eC (.bl b)):=⟨II⟩
theorem bW{x j pos}:QD X (.Constant (.str x) j pos) (eC (.str x)):=⟨Gb⟩
theorem ae:ES X [] aD:=⟨El⟩
theorem ab{g:ak->R (List D)}(h:QD X e f)(t:ES X es g)(hs:starEach (e ::es) X.env=(false,eval e X.env) ::starEach es X.env:=by rfl):ES X (e ::es) (ah f g):=⟨zU h.1 t.1 hs⟩
theorem aO{g:ak->R (List D)}{x1 pos}(h:ES X es g):QD X (.Tuple es x1 pos) (bZ g):=⟨GB h.1⟩
theorem cB{g:ak->R (List D)}{pos}(h:ES X es g):QN X (.List es pos) (fK g):=⟨GC h.1⟩
theorem au{op:Operator}{g:D->D->R D}(ho:ki X (binaryOp op) g)(ha:QD X a fa)(hb:QD X b fb):QD X (.BinOp a op b pos) (e2 g fa fb):=⟨Iz ho ha.1 hb.1⟩
theorem j3{op:CmpOp}{g:D->D->R D}(ho:ki X (compareOp op) g)(ha:QD X a fa)(hb:QD X b fb)(hm:behindInMarks op b=false):QD X (.Compare a [op] [b] pos) (e2 g fa fb):=⟨Fz ho ha.1 hb.1 hm⟩
theorem cA{op:CmpOp}{g:D->D->R D}(ho:ki X (compareOp op) g)(ha:QD X a fa)(hb:QD X b fb)(hm:behindInMarks op b=false):QB X (.Compare a [op] [b] pos) (b2 g fa fb):=⟨Gw ho ha.1 hb.1 hm⟩
theorem tO{a:Expr}(ha:QD X a f)(he:∀whole,isTrue a X.env whole=(do let v <-whole;standAt a.pos;holding [v] (truthy v)):=by intro _;rfl):QB X a (sG f):=⟨Hb ha.1 he⟩
theorem tE{f:ak->R Bool}(ha:QB X a f):QB X (.UnaryOp .Not a pos) (sJ f):=⟨F3 ha.1⟩
theorem Dq{op}(h:QD X a f):QD X (.BoolOp op [a] pos) f:=⟨Gh h.1⟩
theorem Dk{rest:List Expr}(ha:QD X a f)(hb:QD X (.BoolOp .And (b ::rest) pos) g):QD X (.BoolOp .And (a ::b ::rest) pos) (Ek f g):=⟨Gp ha.1 hb.1⟩
theorem Ah{fc:ak->R Bool}(hc:QB X c fc)(ha:QD X a f)(hb:QD X b g):QD X (.IfExp c a b pos) (HI fc f g):=⟨Iy hc.1 ha.1 hb.1⟩
theorem bb{g:List D->R D}{id:String}{p pos:Pos}{fs:ak->R (List D)}(hc:cD X (.builtin id) g)(hg:Gl X x)(hm:X.mg x=none)(hv:bootBuiltins x=some (.builtin id))(ha:ES X (e ::es) fs)(hn:x≠"__name__":=by decide)(oA:(x==("__debug__":Str))=false:=by decide)(he:starEach (e ::es) X.env=(false,eval e X.env) ::starEach es X.env:=by rfl)(kx:(backTo pos (starEach es X.env)).any (·.1)=false:=by rfl):QD X (.Call (.Name x p) (e ::es) [] pos) (aQ g fs):=⟨z8 hc hg hm hv ha.1 hn oA he kx⟩
theorem eL{g:List D->R D}{T:String}{p pos:Pos}{fs:ak->R (List D)}(hc:cD X (.type T) g)(hg:Gl X x)(hm:X.mg x=none)(hv:bootBuiltins x=some (.type T))(ha:ES X (e ::es) fs)(hn:x≠"__name__":=by decide)(oA:(x==("__debug__":Str))=false:=by decide)(he:starEach (e ::es) X.env=(false,eval e X.env) ::starEach es X.env:=by rfl)(kx:(backTo pos (starEach es X.env)).any (·.1)=false:=by rfl):QD X (.Call (.Name x p) (e ::es) [] pos) (aQ g fs):=⟨zr hc hg hm hv ha.1 hn oA he kx⟩
theorem dU:qZ X [] nB:=⟨Ej⟩
theorem aN{st:Stmt}{rest:List Stmt}{F G:FS}(h1:Cy X st F)(h2:qZ X rest G):qZ X (st ::rest) (dJ F G):=⟨BY h1.1 h2.1⟩
theorem aL{st:Stmt}{F:FS}(h1:Cy X st F):qZ X [st] F:=⟨En h1.1⟩
theorem cK{i:Nat}{pos pos':Pos}(hN:X.N.Nodup)(hi:X.N[i]? =some x)(hx:Loc X.env.scope x)(he:QD X e f)(hs:swapsWith e (some (.Name x pos')) pos.line X.env=pure false:=by rfl)(hf:X.fn x=true\/X.env.scope.names.lookup x=some .local:=by first | exact .inl rfl | exact .inr rfl | assumption):Cy X (.Assign [.Name x pos'] e pos) (jC i f):=⟨Dh hN hi hx he.1 hs hf⟩
theorem zX{i:Nat}{f:ak->R (List D)}{pos pos':Pos}(hN:X.N.Nodup)(hi:X.N[i]? =some x)(hx:Loc X.env.scope x)(he:QN X e f)(hs:swapsWith e (some (.Name x pos')) pos.line X.env=pure false:=by rfl)(hf:X.fn x=true\/X.env.scope.names.lookup x=some .local:=by first | exact .inl rfl | exact .inr rfl | assumption):Cy X (.Assign [.Name x pos'] e pos) (tf i f):=⟨CY hN hi hx he.1 hs hf⟩
theorem BW{i:Nat}{x:Str}{e:Expr}{f:FD}{fG apos b_ pos:Pos}(hN:X.N[i]? =some x)(hv:Cz X.env.scope x)(he:QD X e f)(hd:(x==("__debug__":Str))=false:=by decide)(pb:(x==("__classdict__":Str))=false:=by decide)(hs:starEach [e] X.env=(false,eval e X.env) ::starEach [] X.env:=by rfl)(ll:(apos.endLine==b_.line)=true:=by rfl)(qJ:((backTo b_ (starEach [e] X.env)).all (fun x=>!x.1) && (backToKw b_ (keywordEach [] X.env)).all (fun x=>x.1.isSome)
 && decide (([e]:List Expr).length+([]:List Keyword).length+(if([]:List Keyword).isEmpty then 0 else 1) < 30))=true:=by rfl) (vC:swapsWith (.Call (.Attribute (.Name x fG) "append" apos) [e] [] b_) none pos.line X.env=pure false:=by rfl) (lj:attributeBase (.Name x fG) "append" X.env (eval (.Name x fG) X.env)=eval (.Name x fG) X.env:=by rfl):Cy X (.Expr (.Call (.Attribute (.Name x fG) "append" apos) [e] [] b_) pos) (AG i f):=⟨D_ hN hv he.1 hd pb hs ll qJ vC lj⟩
theorem Af{i:Nat}{x:Str}{e:Expr}{f:ak->R (List D)}{fG apos b_ pos:Pos}(hN:X.N[i]? =some x)(hv:Cz X.env.scope x)(he:QN X e f)(hd:(x==("__debug__":Str))=false:=by decide)(pb:(x==("__classdict__":Str))=false:=by decide)(hs:starEach [e] X.env=(false,eval e X.env) ::starEach [] X.env:=by rfl)(ll:(apos.endLine==b_.line)=true:=by rfl)(qJ:((backTo b_ (starEach [e] X.env)).all (fun x=>!x.1) && (backToKw b_ (keywordEach [] X.env)).all (fun x=>x.1.isSome)
 && decide (([e]:List Expr).length+([]:List Keyword).length+(if([]:List Keyword).isEmpty then 0 else 1) < 30))=true:=by rfl) (vC:swapsWith (.Call (.Attribute (.Name x fG) "extend" apos) [e] [] b_) none pos.line X.env=pure false:=by rfl) (lj:attributeBase (.Name x fG) "extend" X.env (eval (.Name x fG) X.env)=eval (.Name x fG) X.env:=by rfl):Cy X (.Expr (.Call (.Attribute (.Name x fG) "extend" apos) [e] [] b_) pos) (C2 i f):=⟨DS hN hv he.1 hd pb hs ll qJ vC lj⟩
theorem uL(i:Nat){F:FS}(h:qZ X Fp F):qZ X Fp (Aj i F):=⟨CW i h.1⟩
theorem bf(he:QD X e f):Cy X (.Return (some e) pos) (eu f):=⟨Dn he.1⟩
theorem fq{fc:ak->R Bool}{F G:FS}(hc:QB X c fc)(ha:qZ X a F)(hb:qZ X b G):Cy X (.If c a b pos) (vm fc F G):=⟨GP hc.1 ha.1 hb.1⟩
theorem aG{i:Nat}{pos:Pos}(hN:X.N.Nodup)(hi:X.N[i]? =some x)(hx:Loc X.env.scope x)(hf:X.fn x=true\/X.env.scope.names.lookup x=some .local:=by first | exact .inl rfl | exact .inr rfl | assumption):HE X (.Name x pos) (aA i):=⟨Cb hN hi hx hf⟩
theorem fU:Dy X [] ia:=⟨BQ⟩
theorem bL{u:Bx}(h1:HE X e t)(h2:Dy X es u)(hs:(assignEach (e ::es) X.env).map (·.2)=assign e X.env ::(assignEach es X.env).map (·.2):=by rfl):Dy X (e ::es) (bR t u):=⟨zC h1.1 h2.1 hs⟩
theorem h_{k:Nat}{t:Bx}{n:Nat}{pos:Pos}(hc:X.calm=true)(h:Dy X es t)(hn:(assignEach es X.env).length=n:=by rfl)(Cv:(assignEach es X.env).findIdx? (·.1)=none:=by rfl):HE X (.Tuple es k pos) (hJ n t):=⟨C_ hc h.1 hn Cv⟩
theorem bE(h:QD X e f):uS X tg e (cM f):=⟨C8 h.1⟩
theorem bF{tg a:Expr}{p pos:Pos}(h:QD X a f)(hg:Gl X "range")(hm:X.mg "range"=none)(hs:starEach [a] X.env=[(false,eval a X.env)]:=by rfl):uS X tg (.Call (.Name "range" p) [a] [] pos) (c9 f):=⟨wx h.1 hg hm hs⟩
theorem oR{tg a b:Expr}{p pos:Pos}(h:QD X a f)(h':QD X b g)(hg:Gl X "range")(hm:X.mg "range"=none)(hs:starEach [a,b] X.env=[(false,eval a X.env),(false,eval b X.env)]:=by rfl)(vH:starEach [b] X.env=[(false,eval b X.env)]:=by rfl):uS X tg (.Call (.Name "range" p) [a,b] [] pos) (n6 f g):=⟨vK h.1 h'.1 hg hm hs vH⟩
theorem fu{it:ak->R (List D)}{F:FS}{pos:Pos}(hp:PassesOwn (model X.prog X.w) X.A X.env X.xe)(hc:X.calm=true)(hi:uS X tg iter it)(hg:HE X tg t)(hb:qZ X body F)(hs:∀x,foldedSetIterable iter X.env x=pure x:=by intro _;rfl):Cy X (.For tg iter body [] pos) (nX it t F):=⟨Ed hp hc hi.1 hg.1 hb.1 hs⟩
theorem bS{own:List Str}{kp:List Nat}{kn:List Str}{it:ak->R (List D)}{c:ak->R Bool}{pos:Pos}(hc:X.calm=true)(C:bt X scope own kp kn)(hi:uS X tg iter it)(hg:∀fp s H,HE (bg X scope (own++kn) fp s H) tg t)(xc:∀fp s H,C3 (bg X scope (own++kn) fp s H) ifs c)(he:∀fp s H,QD (bg X scope (own++kn) fp s H) elt f)(hs:∀x,foldedSetIterable iter X.env x=pure x:=by intro _;rfl):QN X (.ListComp elt [⟨tg,iter,ifs,0⟩] scope pos) (cx it t c f own kp):=⟨Dc hc C hi.1 (fun fp s H=>(hg fp s H).1) (fun fp s H=>(xc fp s H).1) (fun fp s H=>(he fp s H).1) hs⟩
theorem bN:C3 X [] i7:=⟨BI⟩
theorem qB{c:ak->R Bool}(h:QB X e c):C3 X [e] c:=⟨CV h.1⟩
theorem sY{i:Nat}{pos' qH:Pos}{own:List Str}{kp:List Nat}{kn:List Str}{it:ak->R (List D)}{c:ak->R Bool}(hc:X.calm=true)(hN:X.N.Nodup)(hx:X.N[i]? =some x)(Ff:X.env.scope.names.lookup x=some .local)(C:bt X scope own kp kn)(hi:uS X tg iter it)(hg:∀fp s H,HE (bg X scope (own++kn) fp s H) tg t)(xc:∀fp s H,C3 (bg X scope (own++kn) fp s H) ifs c)(he:∀fp s H,QD (bg X scope (own++kn) fp s H) elt f)(vC:swapsWith (.ListComp elt [⟨tg,iter,ifs,0⟩] scope pos) (some (.Name x pos')) qH.line X.env=pure true:=by rfl)(hs:∀x,foldedSetIterable iter X.env x=pure x:=by intro _;rfl):Cy X (.Assign [.Name x pos'] (.ListComp elt [⟨tg,iter,ifs,0⟩] scope pos) qH) (tf i (cx it t c f own kp)):=⟨uH hc hN hx Ff C hi.1 (fun fp s H=>(hg fp s H).1) (fun fp s H=>(xc fp s H).1) (fun fp s H=>(he fp s H).1) vC hs⟩
theorem aI(ha:QD X a fa)(hb:QD X b fb)(hs:pe b):QD X (.Subscript a b pos) (e2 cn fa fb):=⟨Ia ha.1 hb.1 hs⟩
theorem Bq:QP X none Bg:=⟨Dg⟩
theorem qq(h:QD X e f):QP X (some e) (pH f):=⟨CT h.1⟩
theorem z9{lo hi:Option Expr}{fl fh:FO}(he:QD X e f)(hl:QP X lo fl)(hh:QP X hi fh):QD X (.Subscript e (.Slice lo hi none p2) pos) (HQ f fl fh):=⟨JF he.1 hl.1 hh.1⟩
theorem lB{elts:List Expr}{k:Nat}{qG:Pos}{p pos:Pos}(h:QD X a f)(hg:Gl X "enumerate")(hm:X.mg "enumerate"=none)(hs:starEach [a] X.env=[(false,eval a X.env)]:=by rfl):uS X (.Tuple elts k qG) (.Call (.Name "enumerate" p) [a] [] pos) (hX f):=⟨vg h.1 hg hm hs⟩
theorem bO{P:Program}{w:World}{K:W.Frag}{mg:Rt}{base:Heap}{x qual:Str}{st:Stmt}{f:Addr}{fd:FuncData}{N ps:List Str}{k:Nat}{F:FS}{b:List Stmt}{sc:Scope}(hb:aM st=b)(hs:av st=sc)(Fn:yh K x qual st f fd)(S:aX N ps sc)(jL:∀(dC:Value) (A:Around) (outer:List Env) (s:Shared) (H:Hp) (E:XK),dR k (A.deeper (envOfC qual sc s.heap.objs.size f dC))->
 qZ (pI q8 P w K mg base N qual sc f dC A outer s H E).Es b F):gR P w K mg base q8 (k+1) f fd ps (B7 K ps.length (pj N F)):=z_ hb hs Fn S (fun dC A outer s H E hr=>(jL dC A outer s H E hr).1)
theorem bj{g:List D->R D}{k j n:Nat}{p pos:Pos}{fs:ak->R (List D)}(C:Callee X.prog X.w X.K X.mg X.base k x n g)(hr:dR j X.A)(Cq:k<=j)(hg:Gl X x)(ha:ES X (e ::es) fs)(hn:∀δ ds,fs δ= .ok ds->ds.length=n)(oA:(x==("__debug__":Str))=false:=by decide)(he:starEach (e ::es) X.env=(false,eval e X.env) ::starEach es X.env:=by rfl)(kx:(backTo pos (starEach es X.env)).any (·.1)=false:=by rfl):QD X (.Call (.Name x p) (e ::es) [] pos) (aQ g fs):=⟨As C hr Cq hg ha.1 hn oA he kx⟩
theorem Dj{keys:List (Option Expr)}{values:List Expr}{su:List (TE × TE)}{aP:List (Key × V)}(hu:X.A.units+1 < cLine)(h:GJ X t6 keys values su)(zH:keys.all (·.isSome)=true)(hl:keys.length=values.length)(h0:keys≠[])(hc:∀σ H Q,Q (aP.map fun kv=>(kV kv.1,kv.2)) H->nK su σ H Q)(hlen:aP.length<=15)(he:QD X e fe)(hf:QD X f ff)(m:M2 X (.Dict keys values t6) "get" apos e f b_)(hd:PE X (.Dict keys values t6) (zY su)):QD X (.Call (.Attribute (.Dict keys values t6) "get" apos) [e,f] [] b_) (Aa aP fe ff):=⟨FU hu h zH hl h0 hc hlen he.1 hf.1 m hd⟩
end
end L2
end
section
namespace L2
open PySem PySem.Spec PyProof.Rows
theorem zu{P:Program}{w:World}{K:W.Frag}{mg mb:Rt}{CX:zT}{k:Nat}{fa a:Addr}{fd:FuncData}{x:Str}{sp:Sp}{s₁:Shared}{vs:List Value}{ns:List Int}
 (KX:K.In s₁.heap) (NH:s₁.heap.Ns mainGlobals mg) (hb:s₁.heap.Ns builtinsNs mb) (P2:∀x:Str,x≠"__name__"->mb x=bootBuiltins x) (L7:s₁.heap.NoLimit) (hg:s₁.gens=#[])
 (ha:s₁.heap.get? a=some {cls:= .type "list",data:= .seq vs.toArray}) (hi:IntsAre vs ns) (hl:ns.length<=sizeLine) (hr:dR k callerA)
 (F:∀base:Heap,K.In base->base.Ns mainGlobals mg->gR P w K mg base CX k fa fd [x] sp) (JP:∀(s:Shared) (u:Value),BindsTo s fd ⟨[u],[]⟩ [(x,u)])
 (HU:∀H:Hp,Jg H->tj K [] H a (ns.map V.int)->sp [.ref a] H (fun v _=>v= .bl true) fun _ _ _=>False)
 (Qq:∀H e s',CX [] H s₁ (fun _ _ _=>False) e s'->False) :
 codeAny (model P w) callerA (.call (.ref fa) ⟨[.ref a],[]⟩) (fun r s'=>r= .ok (.ret (.bool true))/\OldK s₁.heap s'.heap/\s'.os=s₁.os/\AllBare s'.gens) s₁:=by
 have rv:=rP hi;have lenV:=hi.length;have core:∀H:Hp,Jg H->tj K [] H a (ns.map V.int)->lQ P w H s₁.heap->(∀b,H b≠none->b=a)->(H a≠none->K.lookup a=none)->
  codeAny (model P w) callerA (.call (.ref fa) ⟨[.ref a],[]⟩) (fun r s'=>r= .ok (.ret (.bool true))/\OldK s₁.heap s'.heap/\s'.os=s₁.os/\AllBare s'.gens) s₁:=by
  intro H hO hS hok hA hK;have yo:∀{b:Addr} {o:Obj},s₁.heap.get? b=some o->H b=none->(sI s₁.heap H).get? b=some o:=fun e n=>BP e n
  have noA:∀{b:Addr} {o:Obj} {es:Array DictEntry} {ep:Nat},s₁.heap.get? b=some o->o.data= .dict es ep->H b=none:=fun {b o es ep} e d=>by
   cases q:H b with
   | none=>rfl
   | some u=>
     have e':b=a:=hA b (by rw[q];simp)
     subst e';rw[ha] at e;cases e;have d':Data.seq vs.toArray _=Data.dict es ep:=d;cases d'
  have nsK:∀{b:Addr} {m:Rt},s₁.heap.Ns b m->(sI s₁.heap H).Ns b m:=fun {b m} ⟨o,es,ep,e,d,r⟩=>⟨o,es,ep,yo e (noA e d),d,r⟩
  have hKb:K.In (sI s₁.heap H):=fun b o e=>yo (KX b o e) (by
   cases q:H b with
   | none=>rfl
   | some u=>
     have e':b=a:=hA b (by rw[q];simp)
     subst e';rw[hK (by rw[q];simp)] at e;cases e)
  have hM:Mod K mg (sI s₁.heap H):=⟨hKb,nsK NH,⟨mb,nsK hb,P2⟩,let⟨mc,h1,h2⟩:=L7;⟨mc,nsK h1,h2⟩⟩
  have e0:vV P w K mg (sI s₁.heap H) callerA [] s₁ H:=⟨rfl,hM,fun b o e=>DD e,Nat.le_of_eq (y_ _ _),trivial,fun b hb=>absurd (show b∈([]:List Addr) from hb) (by simp),hok, .of_eq hg⟩
  refine codeAny_mono ((F _ hKb (nsK NH)).run callerA [] s₁ H ⟨[.ref a],[]⟩ [.ref a] [.ref a] _ _ hr e0 (JP s₁ (.ref a)) (.cons rfl .nil) (HU H hO hS)) fun r s' h=>?_
  cases r with
  | error e=>exact(Qq H e s' h).elim
  | ok fl=>
    cases fl with
    | next=>exact False.elim h
    | brk=>exact False.elim h
    | cont=>exact False.elim h
    | ret u=>
      obtain⟨v,H',os,bare,un,Me,r',q⟩:=h;have q':v= .bl true:=q;subst q';obtain rfl:u=Value.bool true:=r';refine⟨rfl,OldK.of_keep fun b o e=>?_,os,bare⟩
      cases q:H b with
      | none=>exact un.keep b o e q (by intro z;exact absurd (show b∈([]:List Addr) from z) (by simp)) (by simp)
      | some u=>
        rcases hO b with z | ⟨ob,xs,z⟩
        .rw [q] at z;cases z
        .have z2:=un.frzs b ob _ z;obtain⟨e1,_⟩:=hok b _ z;obtain⟨e2,_⟩:=Me b _ z2;rw[e] at e1;cases e1;exact e2
 cases hk:K.lookup a with
 | some o=>
   have e:=KX a o hk;rw[ha] at e;cases e;refine core (fun _=>none) (fun _=> .inl rfl) (.inr ⟨vs,_,hk,by rw[List.length_map];exact hl,rv⟩) (fun b u z=>by have z':(none:Option HO)=some u:=z;cases z') (fun b z=>absurd rfl z) fun z=>absurd rfl z
 | none=>
   refine core (fun b=>if b=a then some (.jk {cls:= .type "list",data:= .seq vs.toArray} (.lst (ns.map V.int))) else none) (fun b=>?_) (.inl ⟨by simp, .inr ⟨{cls:= .type "list",data:= .seq vs.toArray},if_pos rfl⟩⟩) (fun b u z=>?_) (fun b z=>?_) fun _=>hk
   .by_cases hb:b=a
    .exact .inr ⟨_,_,if_pos hb⟩
    .exact .inl (if_neg hb)
   .by_cases hb:b=a
    .have z':=(if_pos hb).symm.trans z;cases z';subst hb;exact⟨ha,by rw[List.length_map];exact hl,vs,_,rv,ha⟩
    .have z':=(if_neg hb).symm.trans z;cases z'
   .by_cases hb:b=a
    .exact hb
    .exact absurd (if_neg hb) z
theorem ints_rep{K:W.Frag}{B:List Addr}:∀ns:List Int,aw K B H (ns.map D.int) (ns.map V.int)
 | []=>aw.nil
 | n ::ns=>aw.cons (Rep.int.mpr rfl) (ints_rep ns)
theorem IY{l:PySem.W.OpenLaw}{n k:Nat}{q:Program}{loose:List Str}{XP:(Str->Option Value)->Heap->Prop}{YP:World->Heap->Prop}{d:DefRec}{K:Params->W.Frag}{x:Str}{g:List D->R D}
 (hn:l.most=some n) (Hv:n<=sizeLine) (LO:d.params.defaults=[]) (hr:dR k callerA) (hY:∀(w:World) (h:Heap),YP w h->(K w.params).In h)
 (F:∀(w:World) (mg:Rt) (fa:Addr) (h:Heap),(K w.params).In h->h.Ns mainGlobals mg->mg d.name=some (.ref fa)->
   ∃fd:FuncData,(∀(s:Shared) (u:Value),BindsTo s fd ⟨[u],[]⟩ [(x,u)])/\∀base:Heap,(K w.params).In base->base.Ns mainGlobals mg->gR l.prog w (K w.params) mg base q8 k fa fd [x] (B7 (K w.params) 1 g))
 (hg:∀ns:List Int,ns.length<=n->g [.lst (ns.map D.int)]= .ok (.bl true)):PySem.W.WalkO q loose XP YP l.row.toRowW d [] (fun f vs=>PySem.call f vs):=by
 refine Att.vx hn LO fun w s₀ s₁ mg mb fa o pm cd doc a vs ns G Y ho hd pb J5 Hk hints hlen LY=>?_
 have KX:=hY w _ Y;obtain⟨fd,hb,hF⟩:=F w mg fa _ KX G.T.g J5;refine zu KX G.T.g G.T.b G.T.builtins G.T.nolimit LY Hk hints (Nat.le_trans hlen Hv) hr hF hb (fun H hO hS=>?_) fun H e s' h=>h
 refine⟨rfl,[],[.lst (ns.map D.int)], .bl true,fun b hb=>(by cases hb),aw.cons (Rep.lst.mpr ⟨_,_,rfl,hS,ints_rep ns⟩) aw.nil,hg ns hlen,fun z H' _ r=>Rep.bl.mp r⟩
theorem ck{K:W.Frag}{h:Heap}{mg:Rt}{x:Str}{st:Stmt}{f:Addr}{oc:Value}{od an:Option Addr}{CJ:Array (Option Value)}{kV doc pm dC ct:Value}(X:K.In h)(G:h.Ns mainGlobals mg)(a:PySem.W.nsIn K mainGlobals x=some (some (.ref f)))
 (l:K.lookup f=some ⟨oc,od, .func (PySem.W.fnOf x x (iI st) (aM st) (av st) .none kV doc pm an dC ct),CJ⟩) (c:PySem.W.codeIn K dC x=true) (k:PySem.W.keepIn K (.ref f)=true):Def K mg x st:=
 ⟨f,_,tP l c k,PySem.W.mg_of X G a⟩
end L2
end
section
namespace L2
open PySem PySem.Spec PyProof.Rows
theorem pV{t:FT}{body:FS}:∀(ds:List D) (n:Nat) (P:Nat->ak->Prop) {δ:ak},P n δ->
 (∀i d δ,ds[i]? =some d->P (n+i) δ->∃dH,((t d δ).bind body)= .ok (.nx dH)/\P (n+i+1) dH)->∃dH,lP t body ds δ= .ok (.nx dH)/\P (n+ds.length) dH
 | [],n,P,δ,h0,_=>⟨δ,rfl,h0⟩
 | d ::ds,n,P,δ,h0,hs=>by
   obtain⟨cY,e1,p1⟩:=hs 0 d δ rfl h0;obtain⟨dj,e2,p2⟩:=pV ds (n+1) P p1 (fun i d' dH hi hp=>by
    have:=hs (i+1) d' dH (by simpa using hi) (by rw[show n+(i+1)=n+1+i by omega];exact hp)
    rw[show n+(i+1)+1=n+1+i+1 by omega] at this
    exact this)
   refine⟨dj,?_,by rw[List.length_cons,show n+(ds.length+1)=n+1+ds.length by omega];exact p2⟩
   obtain⟨Rc,h1,h2⟩:=R.ai e1;show(t d δ).bind (fun cY=>(body cY).bind fun o=>match o with | .nx dj=>lP t body ds dj | .rt r=> .ok (.rt r))=_
   rw[h1,R.aJ,h2,R.aJ];exact e2
theorem eS{t:FT}{body:FS}{ds:List D}(P:Nat->ak->Prop){δ:ak}(h0:P 0 δ)
 (hs:∀i d δ,ds[i]? =some d->P i δ->∃dH,((t d δ).bind body)= .ok (.nx dH)/\P (i+1) dH):∃dH,lP t body ds δ= .ok (.nx dH)/\P ds.length dH:=by
 have:=pV (t:=t) (body:=body) ds 0 P h0 (fun i d δ hi hp=>by simpa using hs i d δ hi (by simpa using hp))
 simpa using this
theorem jQ{α:Type}{xs:List α}{i:Int}(h0:0<=i)(h:i.toNat < xs.length):qu xs i=some xs[i.toNat]:=by
 unfold qu zI;rw[if_pos h0,if_pos (by omega)]
 simp [h]
theorem ints_map:∀ss:List Int,ints? (ss.map D.int)=some ss
 | []=>rfl
 | s ::ss=>by show(ints? (ss.map D.int)).map (s ::·)=_;rw [ints_map ss];rfl
theorem bh{F G:FS}{δ cY:ak}{r:R Out}(h:F δ= .ok (.nx cY))(h2:G cY=r):dJ F G δ=r:=by unfold dJ;rw [h,R.aJ];exact h2
theorem cq{f:ak->R (List D)}{δ:ak}{ds:List D}(h:f δ= .ok ds):eNew f δ= .ok (.lst ds):=by unfold eNew;rw [h];rfl
theorem oC{c:ak->R Bool}{F G:FS}{δ:ak}{r:R Out}(h:c δ= .ok true)(h2:F δ=r):vm c F G δ=r:=by unfold vm;rw [h,R.aJ,if_pos rfl];exact h2
theorem iG{c:ak->R Bool}{F G:FS}{δ:ak}{r:R Out}(h:c δ= .ok false)(h2:G δ=r):vm c F G δ=r:=by unfold vm;rw [h,R.aJ,if_neg (by decide)];exact h2
theorem gc{it:ak->R (List D)}{F:FS}{δ:ak}{ds:List D}{r:R Out}(h:it δ= .ok ds)(h2:lP t F ds δ=r):nX it t F δ=r:=by unfold nX;rw [h,R.aJ];exact h2
theorem bJ{f:FD}{δ:ak}{d:D}(h:f δ= .ok d):eu f δ= .ok (.rt d):=by unfold eu;rw [h];rfl
theorem cw{N:List Str}{F:FS}{ds:List D}{d:D}(h:F (dt N ds)= .ok (.rt d)):pj N F ds= .ok d:=by unfold pj;rw [h];rfl
theorem bG{α:Type}{p:Prop} [Decidable p](r:R α)(h:p):R.aU (decide p) r=r:=by rw[decide_eq_true h];rfl
theorem dq{i:Nat}{f:FD}{δ:ak}{d:D}(h:f δ= .ok d)(hi:i < δ.length):jC i f δ= .ok (.nx (δ.set i (.val d))):=by unfold jC;rw [h,R.aJ,bG _ hi]
theorem xl{i:Nat}{f:ak->R (List D)}{δ:ak}{ds:List D}(h:f δ= .ok ds)(hi:i < δ.length):tf i f δ= .ok (.nx (δ.set i (.bld ds))):=by unfold tf;rw [h,R.aJ,bG _ hi]
theorem Dm{i:Nat}{f:FD}{δ:ak}{d:D}{ds:List D}(h:f δ= .ok d)(hb:δ[i]? =some (.bld ds))(hl:ds.length < sizeLine):AG i f δ= .ok (.nx (δ.set i (.bld (ds++[d])))):=by unfold AG nk;rw [h,R.aJ,hb];show R.aU _ _=_;rw [bG _ hl]
theorem bQ{it:ak->R (List D)}{c:ak->R Bool}{own:List Str}{kp:List Nat}{δ:ak}{ds ys:List D}(h1:it δ= .ok ds)(h2:ds.length<=sizeLine)(h3:l3 t c f (oV own kp δ) ds= .ok ys):cx it t c f own kp δ= .ok ys:=by unfold cx;rw [h1,R.aJ,bG _ h2,h3]
theorem n_{ds:List D}{i:Int}{d:D}(h:qu ds i=some d):cn (.lst ds) (.int i)= .ok d:=by unfold cn;simp only[h]
theorem sP{ds:List D}{i:Int}{d:D}(h:qu ds i=some d):cn (.tup ds) (.int i)= .ok d:=by unfold cn;simp only[h]
theorem Bb{x:Str}{i:Int}{c:Nat}(hz:x.length<=sizeLine)(h:qu x.cps.toList i=some c):cn (.str x) (.int i)= .ok (.str ⟨#[c]⟩):=by unfold cn;simp only[h,bG _ hz]
end L2
end
section
namespace L2
open PySem PySem.Spec PyProof.Rows
theorem aj{g:D->D->R D}{fa fb:FD}{δ:ak}{a b:D}{r:R D}(ha:fa δ= .ok a)(hb:fb δ= .ok b)(h:g a b=r):e2 g fa fb δ=r:=by unfold e2;rw [ha,R.aJ,hb,R.aJ];exact h
theorem gp{g:D->D->R D}{fa fb:FD}{δ:ak}{a b:D}{k:Bool}(ha:fa δ= .ok a)(hb:fb δ= .ok b)(h:g a b= .ok (.bl k)):b2 g fa fb δ= .ok k:=by unfold b2;rw [aj ha hb h];rfl
theorem ao{f:FD}{g:ak->R (List D)}{δ:ak}{d:D}{ds:List D}(h:f δ= .ok d)(h2:g δ= .ok ds):ah f g δ= .ok (d ::ds):=by unfold ah;rw [h,R.aJ,h2];rfl
theorem ax{g:List D->R D}{fs:ak->R (List D)}{δ:ak}{ds:List D}{r:R D}(h:fs δ= .ok ds)(h2:g ds=r):aQ g fs δ=r:=by unfold aQ;rw [h,R.aJ];exact h2
theorem bX{g:ak->R (List D)}{δ:ak}{ds:List D}(h:g δ= .ok ds)(hl:ds.length<=sizeLine):bZ g δ= .ok (.tup ds):=by unfold bZ;rw [h,R.aJ,bG _ hl]
theorem t4{g:ak->R (List D)}{δ:ak}{ds:List D}(h:g δ= .ok ds)(hl:ds.length<=sizeLine):fK g δ= .ok ds:=by unfold fK;rw [h,R.aJ,bG _ hl]
theorem B5{f:FD}{fl fh:FO}{δ:ak}{d:D}{lo hi:Option Int}{r:R D}(h:f δ= .ok d)(h1:fl δ= .ok lo)(h2:fh δ= .ok hi)(h3:HJ d lo hi=r):HQ f fl fh δ=r:=by unfold HQ;rw [h,R.aJ,h1,R.aJ,h2,R.aJ];exact h3
theorem pR{f:FD}{δ:ak}{i:Int}(h:f δ= .ok (.int i)):pH f δ= .ok (some i):=by unfold pH;rw [h];rfl
theorem xU{a b:List D}(h:a.length+b.length<=sizeLine):iY (.lst a) (.lst b)= .ok (.lst (a++b)):=by unfold iY;exact bG _ h
theorem qi{a b:Int}(h:0 < b):jA (.int a) (.int b)= .ok (.int (a % b)):=by unfold jA A8;exact bG _ h
theorem sL{a b:Int}(h:0 < b)(h2:b < 1073741824):ni (.int a) (.int b)= .ok (.int (a / b)):=by unfold ni A8;exact bG _ ⟨h,h2⟩
theorem px{f:FD}{δ:ak}{n:Nat}(h:f δ= .ok (.int n))(hn:n < 1000000):c9 f δ= .ok (gH 0 n):=by
 unfold c9;rw [h,R.aJ];show R.aU (decide (-(2 ^ 62)<=(n:Int)/\(n:Int) < 2 ^ 62)) _=_;rw[bG _ ⟨by omega,by omega⟩,Int.toNat_natCast]
theorem fW{f:FD}{δ:ak}{ds:List D}(h:f δ= .ok (.lst ds)):cM f δ= .ok ds:=by unfold cM;rw [h];rfl
theorem wd{f:FD}{δ:ak}{ds:List D}(h:f δ= .ok (.tup ds)):cM f δ= .ok ds:=by unfold cM;rw [h];rfl
theorem wk{f:FD}{δ:ak}{ds:List D}(h:f δ= .ok (.lst ds)):hX f δ= .ok (dy ds):=by unfold hX;rw [h];rfl
theorem Hd{f:FD}{δ:ak}{b:Bool}(h:f δ= .ok (.bl b)):EX f δ= .ok b:=by unfold EX;rw [h];rfl
theorem vZ(ds:List D):jb [.lst ds]= .ok (.int ds.length):=rfl
end L2
end
section
namespace L3
open PySem PySem.Spec PyProof.Rows L2
inductive V3 where
 | d (x:D) | loc (k:Nat) | lst (vs:List V3) | tup (vs:List V3) | fn (x:Str)
inductive SO where
 | lst (ds:List D) | dct (aP:List (Key × D)) | ins (c:Nat) (fs:List (Str × V3)) | jk | exc (c:Nat)
abbrev bc:=List SO
inductive R3 (α:Type) where
 | ok (a:α) (S:bc) | ex (c:Nat) (S:bc) | no
def R3.bind{α β:Type}:R3 α->(α->bc->R3 β)->R3 β
 | .ok a S,f=>f a S
 | .ex c S,_=> .ex c S
 | .no,_=> .no
theorem R3.ai{α β:Type}{r:R3 α}{f:α->bc->R3 β}{b:β}{S':bc}(h:r.bind f= .ok b S'):∃a S,r= .ok a S/\f a S= .ok b S':=by
 cases r with
 | ok a S=>exact⟨a,S,rfl,h⟩
 | ex c S=>cases h
 | no=>cases h
@[simp] theorem R3.aJ{α β:Type}(a:α)(S:bc)(f:α->bc->R3 β):(R3.ok a S).bind f=f a S:=rfl
def R3.aU{α:Type}(c:Bool)(r:R3 α):R3 α:=if c then r else .no
theorem R3.aT{α:Type}{c:Bool}{r:R3 α}{a:α}{S:bc}(h:R3.aU c r= .ok a S):c=true/\r= .ok a S:=by
 cases c with
 | true=>exact⟨rfl,h⟩
 | false=>cases h
def R3.of{α:Type}(r:R α)(S:bc):R3 α:=match r with | .ok a=> .ok a S | _=> .no
theorem R3.of_ok{α:Type}{r:R α}{S S':bc}{a:α}(h:R3.of r S= .ok a S'):r= .ok a/\S'=S:=by
 cases r with
 | ok b=>cases h;exact⟨rfl,rfl⟩
 | ex c=>cases h
 | no=>cases h
structure P3 where
 r:List Addr
 z:List Addr
 f:List Addr
def P3.b(ρ:P3):List Addr:=ρ.r.filter (fun a=>!ρ.f.contains a)++ρ.z
theorem P3.dn{ρ:P3}{a:Addr}:a∈ρ.b↔(a∈ρ.r/\a ∉ ρ.f)\/a∈ρ.z:=by
 unfold P3.b;rw[List.mem_append,List.mem_filter];simp
def P3.push(ρ:P3)(a:Addr):P3:=⟨ρ.r++[a],ρ.z,ρ.f⟩
def P3.cut(ρ:P3)(n:Nat):P3:=⟨ρ.r.take n,ρ.z,ρ.f⟩
mutual
def a_(K:W.Frag)(ρ:P3)(H:Hp):V3->V->Prop
 | .d x,v=>Rep K ρ.b H x v
 | .loc k,v=>∃a,ρ.r[k]? =some a/\v= .ref a
 | .lst vs,v=>∃a xs,v= .ref a/\tj K ρ.b H a xs/\aC K ρ H vs xs
 | .tup vs,v=>∃a xs,v= .ref a/\sf K ρ.b H a xs/\aC K ρ H vs xs
 | .fn x,v=>∃a,PySem.W.nsIn K mainGlobals x=some (some (.ref a))/\v= .ref a
def aC(K:W.Frag)(ρ:P3)(H:Hp):List V3->List V->Prop
 | [],xs=>xs=[]
 | d ::ds,xs=>∃x r,xs=x ::r/\a_ K ρ H d x/\aC K ρ H ds r
end
structure Pre (ρ:P3) (H:Hp) (cG:P3) (H':Hp):Prop where
 aY:c5 ρ.b H cG.b H'
 zz:cG.z=ρ.z
 zs:∀(b:Addr) (o:HO),b∈ρ.z->H b=some o->H' b=some o
 ext:∀(k:Nat) (a:Addr),ρ.r[k]? =some a->cG.r[k]? =some a
theorem Pre.refl(ρ:P3)(H:Hp):Pre ρ H ρ H:=⟨c5.refl ρ.b H,rfl,fun _ _ _ h=>h,fun _ _ h=>h⟩
theorem Pre.trans(a:Pre ρ H cG H')(b:Pre cG H' Cn l7):Pre ρ H Cn l7:=⟨a.aY.trans b.aY,b.zz.trans a.zz,fun c o hc h=>b.zs c o (by rw[a.zz];exact hc) (a.zs c o hc h),fun k x h=>b.ext k x (a.ext k x h)⟩
theorem Pre.same(s:aK H H'):Pre ρ H ρ H':=⟨c5.same s,rfl,fun b o _ h=>s b o h,fun _ _ h=>h⟩
theorem sf.aY{K:W.Frag}{B B':List Addr}(p:c5 B H B' H'){a:Addr}{xs:List V}(l:sf K B H a xs):sf K B' H' a xs:=
 l.elim (fun z=> .inl ⟨(p.rd z.2 z.1).2,(p.rd z.2 z.1).1⟩) .inr
mutual
theorem a_.pre{K:W.Frag}(p:Pre ρ H cG H'):∀{d:V3} {v:V},a_ K ρ H d v->a_ K cG H' d v
 | .d x,v,h=>by unfold a_ at h ⊢;exact h.aY p.aY
 | .loc k,v,h=>by unfold a_ at h ⊢;obtain⟨a,h1,h2⟩:=h;exact⟨a,p.ext k a h1,h2⟩
 | .lst vs,v,h=>by unfold a_ at h ⊢;obtain⟨a,xs,e,l,r⟩:=h;exact⟨a,xs,e,l.aY p.aY,aC.pre p r⟩
 | .tup vs,v,h=>by unfold a_ at h ⊢;obtain⟨a,xs,e,l,r⟩:=h;exact⟨a,xs,e,sf.aY p.aY l,aC.pre p r⟩
 | .fn x,v,h=>by unfold a_ at h ⊢;exact h
theorem aC.pre{K:W.Frag}(p:Pre ρ H cG H'):∀{ds:List V3} {xs:List V},aC K ρ H ds xs->aC K cG H' ds xs
 | [],_,h=>by unfold aC at h ⊢;exact h
 | d ::ds,xs,h=>by
   unfold aC at h ⊢;obtain⟨x,r,e,h1,h2⟩:=h;exact⟨x,r,e,a_.pre p h1,aC.pre p h2⟩
end
structure PW (ρ:P3) (H:Hp) (cG:P3) (H':Hp):Prop where
 aY:c5 ρ.b H cG.b H'
 ext:∀(k:Nat) (a:Addr),ρ.r[k]? =some a->cG.r[k]? =some a
theorem Pre.pw(p:Pre ρ H cG H'):PW ρ H cG H':=⟨p.aY,p.ext⟩
theorem PW.trans(a:PW ρ H cG H')(b:PW cG H' Cn l7):PW ρ H Cn l7:=⟨a.aY.trans b.aY,fun k x h=>b.ext k x (a.ext k x h)⟩
mutual
theorem a_.pw{K:W.Frag}(p:PW ρ H cG H'):∀{d:V3} {v:V},a_ K ρ H d v->a_ K cG H' d v
 | .d x,v,h=>by unfold a_ at h ⊢;exact h.aY p.aY
 | .loc k,v,h=>by unfold a_ at h ⊢;obtain⟨a,h1,h2⟩:=h;exact⟨a,p.ext k a h1,h2⟩
 | .lst vs,v,h=>by unfold a_ at h ⊢;obtain⟨a,xs,e,l,r⟩:=h;exact⟨a,xs,e,l.aY p.aY,aC.pw p r⟩
 | .tup vs,v,h=>by unfold a_ at h ⊢;obtain⟨a,xs,e,l,r⟩:=h;exact⟨a,xs,e,sf.aY p.aY l,aC.pw p r⟩
 | .fn x,v,h=>by unfold a_ at h ⊢;exact h
theorem aC.pw{K:W.Frag}(p:PW ρ H cG H'):∀{ds:List V3} {xs:List V},aC K ρ H ds xs->aC K cG H' ds xs
 | [],_,h=>by unfold aC at h ⊢;exact h
 | d ::ds,xs,h=>by
   unfold aC at h ⊢;obtain⟨x,r,e,h1,h2⟩:=h;exact⟨x,r,e,a_.pw p h1,aC.pw p h2⟩
end
theorem aC.nil{K:W.Frag}:aC K ρ H [] []:=by unfold aC;rfl
theorem aC.cons{K:W.Frag}{d:V3}{ds:List V3}{x:V}{xs:List V}(h:a_ K ρ H d x)(t:aC K ρ H ds xs):aC K ρ H (d ::ds) (x ::xs):=by
 unfold aC;exact⟨x,xs,rfl,h,t⟩
theorem aC.bM{K:W.Frag}{d:V3}{ds:List V3}{xs:List V}(h:aC K ρ H (d ::ds) xs):∃x r,xs=x ::r/\a_ K ρ H d x/\aC K ρ H ds r:=by
 unfold aC at h;exact h
theorem aC.length{K:W.Frag}:∀{ds:List V3} {xs:List V},aC K ρ H ds xs->ds.length=xs.length
 | [],_,h=>by unfold aC at h;rw [h];rfl
 | d ::ds,xs,h=>by
   obtain⟨x,r,rfl,_,h2⟩:=h.bM;simp [h2.length]
theorem aC.of{K:W.Frag}{ρ:P3}:∀{ds:List D} {xs:List V},aw K ρ.b H ds xs->aC K ρ H (ds.map .d) xs
 | [],_,h=>by unfold aw at h;subst h;exact aC.nil
 | d ::ds,xs,h=>by
   obtain⟨x,r,rfl,h1,h2⟩:=h.bM;exact aC.cons (by unfold a_;exact h1) (aC.of h2)
theorem aC.to{K:W.Frag}{ρ:P3}:∀{ds:List D} {xs:List V},aC K ρ H (ds.map .d) xs->aw K ρ.b H ds xs
 | [],_,h=>by unfold aC at h;subst h;exact aw.nil
 | d ::ds,xs,h=>by
   obtain⟨x,r,rfl,h1,h2⟩:=aC.bM h;unfold a_ at h1;exact aw.cons h1 (aC.to h2)
def isExc(C b:Addr):Heap->Prop:=fun h=>∃o,h.get? b=some o/\o.cls= .ref C
def Bu(K:W.Frag)(cl:Ru)(ρ:P3)(H:Hp):SO->Option HO->Prop
 | .lst ds,h=>∃xs,h=some (.lst xs)/\aw K ρ.b H ds xs
 | .dct aP,h=>∃ys,h=some (.dK ys)/\ys.map (·.1)=aP.map (·.1)/\aw K ρ.b H (aP.map (·.2)) (ys.map (·.2))
 | .ins c fs,h=>∃dx ys,h=some (.ins (cl c) dx ys)/\ys.map (·.1)=fs.map (·.1)/\aC K ρ H (fs.map (·.2)) (ys.map (·.2))
 | .jk,h=>∃u,h=some u
 | .exc c,h=>∃b,h=some (.ext (isExc (cl c) b))
theorem Bu.pre{K:W.Frag}{cl:Ru}(p:Pre ρ H cG H'){o:SO}{h:Option HO}(r:Bu K cl ρ H o h):Bu K cl cG H' o h:=by
 cases o with
 | lst ds=>obtain⟨xs,e,q⟩:=r;exact⟨xs,e,q.aY p.aY⟩
 | dct aP=>obtain⟨ys,e,e2,q⟩:=r;exact⟨ys,e,e2,q.aY p.aY⟩
 | ins c fs=>obtain⟨dx,ys,e,e2,q⟩:=r;exact⟨dx,ys,e,e2,q.pre p⟩
 | jk=>exact r
 | exc c=>exact r
theorem Bu.pw{K:W.Frag}{cl:Ru}(p:PW ρ H cG H'){o:SO}{h:Option HO}(r:Bu K cl ρ H o h):Bu K cl cG H' o h:=by
 cases o with
 | lst ds=>obtain⟨xs,e,q⟩:=r;exact⟨xs,e,q.aY p.aY⟩
 | dct aP=>obtain⟨ys,e,e2,q⟩:=r;exact⟨ys,e,e2,q.aY p.aY⟩
 | ins c fs=>obtain⟨dx,ys,e,e2,q⟩:=r;exact⟨dx,ys,e,e2,q.pw p⟩
 | jk=>exact r
 | exc c=>exact r
theorem Bu.some{K:W.Frag}{cl:Ru}{o:SO}{h:Option HO}(r:Bu K cl ρ H o h):∃u,h=some u:=by
 cases o with
 | lst ds=>obtain⟨xs,e,q⟩:=r;exact⟨_,e⟩
 | dct aP=>obtain⟨ys,e,e2,q⟩:=r;exact⟨_,e⟩
 | ins c fs=>obtain⟨dx,ys,e,e2,q⟩:=r;exact⟨_,e⟩
 | jk=>exact r
 | exc c=>obtain⟨b,e⟩:=r;exact⟨_,e⟩
structure SW (K:W.Frag) (cl:Ru) (ρ:P3) (H:Hp) (S:bc):Prop where
 len:ρ.r.length=S.length
 nd:∀(i j:Nat) (a:Addr),ρ.r[i]? =some a->ρ.r[j]? =some a->i=j
 ob:∀(k:Nat) (a:Addr) (o:SO),ρ.r[k]? =some a->S[k]? =some o->Bu K cl ρ H o (H a)
 zb:∀b∈ρ.z,(∃xs,H b=some (.lst xs))/\b ∉ ρ.r
 fz:∀(k:Nat) (a:Addr),ρ.r[k]? =some a->S[k]?≠some .jk->a ∉ ρ.f
 ff:∀a∈ρ.f,∃o,H a=some o
 fi:∀(k:Nat) (a:Addr),ρ.r[k]? =some a->S[k]? =some .jk->a∈ρ.f
theorem SW.rs{K:W.Frag}{cl:Ru}{ρ:P3}{H:Hp}{S:bc}(w:SW K cl ρ H S):∀a∈ρ.r,∃o,H a=some o:=fun a z=>by
 obtain⟨k,hk⟩:=List.getElem?_of_mem z;have hl:=(List.getElem?_eq_some_iff.mp hk).1;exact(w.ob k a _ hk (List.getElem?_eq_getElem (by rw[<-w.len];exact hl))).some
theorem SW.bs{K:W.Frag}{cl:Ru}{ρ:P3}{H:Hp}{S:bc}(w:SW K cl ρ H S):∀a∈ρ.b,∃o,H a=some o:=fun a ha=>by
 rcases P3.dn.mp ha with z | z
 .exact w.rs a z.1
 .obtain⟨xs,h⟩:=(w.zb a z).1;exact⟨_,h⟩
theorem SW.same{K:W.Frag}{cl:Ru}{S:bc}(w:SW K cl ρ H S)(s:aK H H'):SW K cl ρ H' S:=
 ⟨w.len,w.nd,fun k a o h1 h2=>by
   have r:=w.ob k a o h1 h2;obtain⟨u,hu⟩:=r.some;rw[s a u hu,<-hu];exact r.pre (Pre.same s),fun b hb=>let⟨⟨o,ho⟩,n⟩:=w.zb b hb;⟨⟨o,s b _ ho⟩,n⟩,w.fz,fun a ha=>let⟨o,ho⟩:=w.ff a ha;⟨o,s a o ho⟩,w.fi⟩
theorem P3.mem_push{ρ:P3}{a b:Addr}(h:b∈(ρ.push a).b):b∈ρ.b\/b=a:=by
 rcases P3.dn.mp h with⟨z,n⟩ | z
 .rcases List.mem_append.mp z with y | y
  .exact .inl (P3.dn.mpr (.inl ⟨y,n⟩))
  .exact .inr (List.mem_singleton.mp y)
 .exact .inl (P3.dn.mpr (.inr z))
theorem SW.new{K:W.Frag}{cl:Ru}{ρ:P3}{H H':Hp}{S:bc}(w:SW K cl ρ H S){a:Addr}{o:SO}(s:aK H H')(n:H a=none)(r:Bu K cl (ρ.push a) H' o (H' a))(Cg:o≠SO.jk:=by intro h;cases h) :
 SW K cl (ρ.push a) H' (S++[o])/\Pre ρ H (ρ.push a) H':=by
 have na:a ∉ ρ.b:=fun ha=>by obtain⟨o,ho⟩:=w.bs a ha;rw [n] at ho;cases ho
 have nr:a ∉ ρ.r:=fun ha=>by obtain⟨o,ho⟩:=w.rs a ha;rw [n] at ho;cases ho
 have nf:a ∉ ρ.f:=fun ha=>by obtain⟨o,ho⟩:=w.ff a ha;rw [n] at ho;cases ho
 have p:Pre ρ H (ρ.push a) H':=⟨fun b u e nb=>⟨s b u e,fun hb=>by
  rcases P3.mem_push hb with z | z
  .exact nb z
  .subst z;rw [n] at e;cases e⟩,rfl,fun b o _ h=>s b o h,fun k x hx=>by
   show(ρ.r++[a])[k]? =_;rw[List.getElem?_append_left (List.getElem?_eq_some_iff.mp hx).1];exact hx⟩
 have last:∀(i:Nat) (b:Addr),(ρ.push a).r[i]? =some b->(i < ρ.r.length/\ρ.r[i]? =some b)\/(i=ρ.r.length/\b=a):=fun i b h=>by
  have h:(ρ.r++[a])[i]? =some b:=h;by_cases q:i < ρ.r.length
  .rw [List.getElem?_append_left q] at h;exact .inl ⟨q,h⟩
  .rw [List.getElem?_append_right (by omega)] at h
   have h0:i - ρ.r.length=0:=by
    have:=(List.getElem?_eq_some_iff.mp h).1;simp at this;omega
   rw[h0] at h;cases h;exact .inr ⟨by omega,rfl⟩
 refine⟨⟨by show(ρ.r++[a]).length=_;rw [List.length_append,List.length_append,w.len];rfl,fun i j b hi hj=>?_,fun k b u hk hu=>?_,fun b hb=>?_,fun k b hk hu=>?_,fun b hb=>?_,fun k b hk hu=>?_⟩,p⟩
 .rcases last i b hi with⟨q1,q2⟩ | ⟨q1,rfl⟩
  .rcases last j b hj with⟨z1,z2⟩ | ⟨z1,rfl⟩
   .exact w.nd i j b q2 z2
   .exact absurd (List.mem_of_getElem? q2) nr
  .rcases last j b hj with⟨z1,z2⟩ | ⟨z1,z3⟩
   .exact absurd (List.mem_of_getElem? z2) nr
   .omega
 .rcases last k b hk with⟨q1,q2⟩ | ⟨q1,rfl⟩
  .rw [List.getElem?_append_left (by rw[<-w.len];exact q1)] at hu
   have r0:=w.ob k b u q2 hu;obtain⟨x,hx⟩:=r0.some;rw[s b x hx,<-hx];exact r0.pre p
  .rw [List.getElem?_append_right (by rw[<-w.len];omega),q1,w.len,Nat.sub_self] at hu
   cases hu;exact r
 .obtain⟨⟨o,ho⟩,nb⟩:=w.zb b hb;refine⟨⟨o,s b _ ho⟩,fun h=>?_⟩
  rcases List.mem_append.mp h with y | y
  .exact nb y
  .rw [List.mem_singleton] at y;subst y;rw [n] at ho;cases ho
 .rcases last k b hk with⟨q1,q2⟩ | ⟨q1,rfl⟩
  .rw [List.getElem?_append_left (by rw[<-w.len];exact q1)] at hu
   exact w.fz k b q2 hu
  .exact nf
 .obtain⟨o,ho⟩:=w.ff b hb;exact⟨o,s b o ho⟩
 .rcases last k b hk with⟨q1,q2⟩ | ⟨q1,rfl⟩
  .rw [List.getElem?_append_left (by rw[<-w.len];exact q1)] at hu
   exact w.fi k b q2 hu
  .rw [List.getElem?_append_right (by rw[<-w.len];omega),q1,w.len,Nat.sub_self] at hu
   cases hu;exact absurd rfl Cg
theorem SW.put{K:W.Frag}{cl:Ru}{ρ:P3}{S:bc}(w:SW K cl ρ H S){k:Nat}{a:Addr}{o:SO}{u:HO}(hk:ρ.r[k]? =some a)(hf:a ∉ ρ.f)(r:Bu K cl ρ H o (some u))(Cg:o≠SO.jk:=by intro h;cases h) :
 SW K cl ρ (upd H a u) (S.set k o)/\Pre ρ H ρ (upd H a u):=by
 have ha:a∈ρ.r:=List.mem_of_getElem? hk;have hb:a∈ρ.b:=P3.dn.mpr (.inl ⟨ha,hf⟩);have nz:∀b∈ρ.z,b≠a:=fun b hb z=>(w.zb b hb).2 (by rw[z];exact ha)
 have p:Pre ρ H ρ (upd H a u):=⟨fun b x e nb=>⟨by rw[aS (fun(z:b=a)=>nb (by rw[z];exact hb))];exact e,nb⟩,rfl,fun b o hb h=>by rw[aS (nz b hb)];exact h,fun _ _ h=>h⟩
 have hl:k < S.length:=by rw[<-w.len];exact(List.getElem?_eq_some_iff.mp hk).1
 refine⟨⟨by rw[List.length_set];exact w.len,w.nd,fun j b x hj hx=>?_,fun b hb=>?_,fun j b hj hx=>?_,fun b hb=>?_,fun j b hj hx=>?_⟩,p⟩
 .by_cases q:k=j
  .subst q;rw[hk] at hj;cases hj;rw[List.getElem?_set_self hl] at hx;cases hx;rw[aV];exact r.pre p
  .rw [List.getElem?_set_ne q] at hx;have ne:b≠a:=fun z=>by subst z;exact q (w.nd k j b hk hj)
   rw[aS ne];exact(w.ob j b x hj hx).pre p
 .obtain⟨⟨o,ho⟩,nb⟩:=w.zb b hb;exact⟨⟨o,by rw[aS (nz b hb)];exact ho⟩,nb⟩
 .by_cases q:k=j
  .subst q;rw[hk] at hj;cases hj;exact hf
  .rw [List.getElem?_set_ne q] at hx;exact w.fz j b hj hx
 .obtain⟨o,ho⟩:=w.ff b hb;exact⟨o,by rw[aS (fun z=>hf (by rw[<-z];exact hb))];exact ho⟩
 .by_cases q:k=j
  .subst q;rw[List.getElem?_set_self hl] at hx;cases hx;exact absurd rfl Cg
  .rw [List.getElem?_set_ne q] at hx;exact w.fi j b hj hx
theorem SW.jk{K:W.Frag}{cl:Ru}{ρ:P3}{S:bc}(w:SW K cl ρ H S){k:Nat}{a:Addr}{ds:List D}(hk:ρ.r[k]? =some a)(hS:S[k]? =some (.lst ds)) :
 SW K cl ⟨ρ.r,ρ.z,a ::ρ.f⟩ H (S.set k .jk)/\Pre ρ H ⟨ρ.r,ρ.z,a ::ρ.f⟩ H/\Rep K (⟨ρ.r,ρ.z,a ::ρ.f⟩:P3).b H (.lst ds) (.ref a):=by
 have hl:k < S.length:=by rw[<-w.len];exact(List.getElem?_eq_some_iff.mp hk).1
 have sub:∀b,b∈(⟨ρ.r,ρ.z,a ::ρ.f⟩:P3).b->b∈ρ.b:=fun b hb=>by
  rcases P3.dn.mp hb with⟨z,n⟩ | z
  .exact P3.dn.mpr (.inl ⟨z,fun h=>n (List.mem_cons_of_mem _ h)⟩)
  .exact P3.dn.mpr (.inr z)
 have p:Pre ρ H ⟨ρ.r,ρ.z,a ::ρ.f⟩ H:=⟨fun b o e nb=>⟨e,fun hb=>nb (sub b hb)⟩,rfl,fun _ _ _ h=>h,fun _ _ h=>h⟩
 obtain⟨xs,e1,r1⟩:=w.ob k a _ hk hS;refine⟨⟨by rw[List.length_set];exact w.len,w.nd,fun j b x hj hx=>?_,w.zb,fun j b hj hx=>?_,fun b hb=>?_,fun j b hj hx=>?_⟩,p,?_⟩
 .by_cases q:k=j
  .subst q;rw[List.getElem?_set_self hl] at hx;cases hx;rw[hk] at hj;cases hj;exact⟨_,e1⟩
  .rw [List.getElem?_set_ne q] at hx;exact(w.ob j b x hj hx).pre p
 .by_cases q:k=j
  .subst q;rw[List.getElem?_set_self hl] at hx;exact absurd rfl hx
  .rw [List.getElem?_set_ne q] at hx;intro h;rcases List.mem_cons.mp h with z | z
   .subst z;exact q (w.nd k j b hk hj)
   .exact w.fz j b hj hx z
 .rcases List.mem_cons.mp hb with z | z
  .subst z;exact⟨_,e1⟩
  .exact w.ff b z
 .by_cases q:k=j
  .subst q;rw[hk] at hj;cases hj;exact List.mem_cons_self
  .rw [List.getElem?_set_ne q] at hx;exact List.mem_cons_of_mem _ (w.fi j b hj hx)
 .refine Rep.lst.mpr ⟨a,xs,rfl, .inl ⟨fun hb=>?_, .inl e1⟩,r1.aY p.aY⟩
  rcases P3.dn.mp hb with⟨_,n⟩ | z
  .exact n List.mem_cons_self
  .exact(w.zb a z).2 (List.mem_of_getElem? hk)
mutual
def uC:D->Bool
 | .lst _=>false
 | .dct _ _=>false
 | .tup ds=>rA ds
 | _=>true
def rA:List D->Bool
 | []=>true
 | d ::ds=>uC d && rA ds
end
mutual
theorem Rep.u3{K:W.Frag}{B:List Addr}(hB:∀b∈B,∀xs,¬Rd H b (.tup xs)):∀{d:D} {v:V},uC d=true->Rep K [] H d v->Rep K B H d v
 | .cz,v,_,r=>Rep.cz.mpr (Rep.cz.mp r)
 | .bl _,v,_,r=>Rep.bl.mpr (Rep.bl.mp r)
 | .int _,v,_,r=>Rep.int.mpr (Rep.int.mp r)
 | .str _,v,_,r=>Rep.str.mpr (Rep.str.mp r)
 | .lst _,v,h,_=>by unfold uC at h;cases h
 | .dct _ _,v,h,_=>by unfold uC at h;cases h
 | .tup ds,v,h,r=>by
   unfold uC at h;obtain⟨a,xs,rfl,l,rs⟩:=Rep.tup.mp r;exact Rep.tup.mpr ⟨a,xs,rfl,l.elim (fun z=> .inl ⟨fun hb=>hB a hb xs z.2,z.2⟩) .inr,aw.u3 hB h rs⟩
theorem aw.u3{K:W.Frag}{B:List Addr}(hB:∀b∈B,∀xs,¬Rd H b (.tup xs)):∀{ds:List D} {vs:List V},rA ds=true->aw K [] H ds vs->aw K B H ds vs
 | [],_,_,r=>by unfold aw at r;subst r;exact aw.nil
 | d ::ds,vs,h,r=>by
   unfold rA at h;obtain⟨h1,h2⟩:=Bool.and_eq_true_iff.mp h;obtain⟨x,xs,rfl,r1,r2⟩:=r.bM;exact aw.cons (Rep.u3 hB h1 r1) (aw.u3 hB h2 r2)
end
theorem SW.nt{K:W.Frag}{cl:Ru}{ρ:P3}{S:bc}(w:SW K cl ρ H S):∀b∈ρ.b,∀xs,¬Rd H b (.tup xs):=fun b hb xs h=>by
 have key:∀o,H b=some o->(∀xs,o≠ .tup xs)->(∀ob xs,o≠ .jk ob (.tup xs))->False:=fun o e h1 h2=>by
  rcases h with z | ⟨ob,z⟩
  .rw [e] at z;cases z;exact h1 _ rfl
  .rw [e] at z;cases z;exact h2 _ _ rfl
 rcases P3.dn.mp hb with⟨z,n⟩ | z
 .obtain⟨k,hk⟩:=List.getElem?_of_mem z;have hl:=(List.getElem?_eq_some_iff.mp hk).1;have hS:S[k]? =some (S[k]'(by rw[<-w.len];exact hl)):=List.getElem?_eq_getElem (by rw[<-w.len];exact hl)
  have r:=w.ob k b _ hk hS;generalize S[k]'(by rw[<-w.len];exact hl)=o at r hS
  cases o with
  | lst ds=>obtain⟨ys,e,_⟩:=r;exact key _ e (fun _ q=>by cases q) (fun _ _ q=>by cases q)
  | dct aP=>obtain⟨ys,e,_⟩:=r;exact key _ e (fun _ q=>by cases q) (fun _ _ q=>by cases q)
  | ins c fs=>obtain⟨dx,ys,e,_⟩:=r;exact key _ e (fun _ q=>by cases q) (fun _ _ q=>by cases q)
  | jk=>exact n (w.fi k b hk hS)
  | exc c=>obtain⟨b',e⟩:=r;exact key _ e (fun _ q=>by cases q) (fun _ _ q=>by cases q)
 .obtain⟨⟨ys,e⟩,_⟩:=w.zb b z;exact key _ e (fun _ q=>by cases q) (fun _ _ q=>by cases q)
abbrev DE:=List (Option V3)
structure eO (K:W.Frag) (cl:Ru) (ρ:P3) (H:Hp) (S:bc) (σ:L2.St) (δ:DE):Prop where
 len:δ.length=σ.length
 sw:SW K cl ρ H S
 val:∀(i:Nat) (d:V3),δ[i]? =some (some d)->∃v,σ[i]? =some (some v)/\a_ K ρ H d v
theorem eO.to{K:W.Frag}{cl:Ru}{S S':bc}{σ:L2.St}{δ:DE}(E:eO K cl ρ H S σ δ)(p:Pre ρ H cG H')(w:SW K cl cG H' S'):eO K cl cG H' S' σ δ:=
 ⟨E.len,w,fun i d e=>let⟨v,h1,h2⟩:=E.val i d e;⟨v,h1,h2.pre p⟩⟩
theorem eO.set{K:W.Frag}{cl:Ru}{S:bc}{σ:L2.St}{δ:DE}(E:eO K cl ρ H S σ δ){i:Nat}{d:V3}{v:V}(hi:i < σ.length)(r:a_ K ρ H d v):eO K cl ρ H S (σ.set i (some v)) (δ.set i (some d)):=
 ⟨by rw[List.length_set,List.length_set];exact E.len,E.sw,fun j d' e=>by
   by_cases h:i=j
   .subst h;rw[List.getElem?_set_self (by rw[E.len];exact hi)] at e
    cases e;exact⟨v,List.getElem?_set_self hi,r⟩
   .rw [List.getElem?_set_ne h] at e ⊢;exact E.val j d' e⟩
def down(δ:DE):ak:=δ.map fun x=>match x with | some (.d d)=> .val d | _=> .un
theorem eO.down{K:W.Frag}{cl:Ru}{ρ:P3}{S:bc}{σ:L2.St}{δ:DE}(E:eO K cl ρ H S σ δ):dA K [] ρ.b H σ (down δ) where
 len:=by unfold L3.down;rw [List.length_map];exact E.len
 bs:=E.sw.bs
 zb:=fun a ha=>by cases ha
 val:=fun i d e=>by
  unfold L3.down at e;rw[List.getElem?_map] at e;cases q:δ[i]? with
  | none=>rw [q] at e;cases e
  | some x=>
    rw[q] at e
    match x,e,q with
    | some (.d y),e,q=>
      cases e;obtain⟨v,h1,h2⟩:=E.val i _ q;unfold a_ at h2;exact⟨v,h1,h2⟩
    | some (.loc k),e,q=>cases e
    | some (.lst k),e,q=>cases e
    | some (.tup k),e,q=>cases e
    | none,e,q=>cases e
 bld:=fun i ds e=>by
  unfold L3.down at e;rw[List.getElem?_map] at e;cases q:δ[i]? with
  | none=>rw [q] at e;cases e
  | some x=>
    rw[q] at e
    match x,e with
    | some (.d y),e=>cases e
    | some (.loc k),e=>cases e
    | some (.lst k),e=>cases e
    | some (.tup k),e=>cases e
    | none,e=>cases e
 dis:=fun i j a ds es e=>by
  unfold L3.down at e;rw[List.getElem?_map] at e;cases q:δ[i]? with
  | none=>rw [q] at e;cases e
  | some x=>
    rw[q] at e
    match x,e with
    | some (.d y),e=>cases e
    | some (.loc k),e=>cases e
    | some (.lst k),e=>cases e
    | some (.tup k),e=>cases e
    | none,e=>cases e
mutual
def res(S:bc):V3->Option D
 | .d x=>some x
 | .loc k=>(match S[k]? with | some (.lst ds)=>some (.lst ds) | some (.dct aP)=>some (.dct (aP.map (·.1)) (aP.map (·.2))) | _=>none)
 | .lst vs=>(vR S vs).map D.lst
 | .tup vs=>(vR S vs).map D.tup
 | .fn _=>none
def vR(S:bc):List V3->Option (List D)
 | []=>some []
 | v ::vs=>(res S v).bind fun d=>(vR S vs).map (d ::·)
end
def df(S:bc)(δ:DE):ak:=δ.map fun x=>match x with | some v=>(match res S v with | some d=> .val d | none=> .un) | none=> .un
theorem gU{α β:Type}{o:Option α}{f:α->β}{b:β}(h:o.map f=some b):∃a,o=some a/\f a=b:=by
 cases o with
 | none=>cases h
 | some a=>cases h;exact⟨a,rfl,rfl⟩
theorem mm{α β:Type}{o:Option α}{f:α->Option β}{b:β}(h:o.bind f=some b):∃a,o=some a/\f a=some b:=by
 cases o with
 | none=>cases h
 | some a=>exact⟨a,rfl,h⟩
mutual
def iW(n:Nat):V3->Bool
 | .d _=>true
 | .loc k=>decide (n<=k)
 | .lst vs=>oH n vs
 | .tup vs=>oH n vs
 | .fn _=>true
def oH(n:Nat):List V3->Bool
 | []=>true
 | v ::vs=>iW n v && oH n vs
end
mutual
theorem a_.resB{K:W.Frag}{cl:Ru}{ρ:P3}{S:bc}{B':List Addr}{n:Nat}(w:SW K cl ρ H S)(p:c5 ρ.b H B' H)(hn:∀(k:Nat) (a:Addr),n<=k->ρ.r[k]? =some a->a ∉ B'):∀{v:V3} {d:D} {x:V},iW n v=true->res S v=some d->a_ K ρ H v x->Rep K B' H d x
 | .d y,d,x,_,h,r=>by unfold L3.res at h;cases h;unfold a_ at r;exact r.aY p
 | .fn y,d,x,_,h,r=>by unfold L3.res at h;cases h
 | .loc k,d,x,g,h,r=>by
   unfold L3.res at h;unfold a_ at r;unfold iW at g;obtain⟨a,h1,rfl⟩:=r;split at h
   .rename_i ds e;cases h;obtain⟨xs,e2,q⟩:=w.ob k a _ h1 e;unfold Rep;exact⟨a,xs,rfl, .inl ⟨hn k a (of_decide_eq_true g) h1, .inl e2⟩,q.aY p⟩
   .rename_i aP e;cases h;obtain⟨ys,e2,e3,q⟩:=w.ob k a _ h1 e;unfold Rep;exact⟨a,ys,rfl,⟨hn k a (of_decide_eq_true g) h1,e2⟩,e3,q.aY p⟩
   .cases h
 | .lst vs,d,x,g,h,r=>by
   unfold L3.res at h;unfold iW at g;obtain⟨ds,e,rfl⟩:=gU h;unfold a_ at r;obtain⟨a,xs,rfl,l,r⟩:=r;unfold Rep;exact⟨a,xs,rfl,l.aY p,aC.resB w p hn g e r⟩
 | .tup vs,d,x,g,h,r=>by
   unfold L3.res at h;unfold iW at g;obtain⟨ds,e,rfl⟩:=gU h;unfold a_ at r;obtain⟨a,xs,rfl,l,r⟩:=r;unfold Rep;exact⟨a,xs,rfl,sf.aY p l,aC.resB w p hn g e r⟩
theorem aC.resB{K:W.Frag}{cl:Ru}{ρ:P3}{S:bc}{B':List Addr}{n:Nat}(w:SW K cl ρ H S)(p:c5 ρ.b H B' H)(hn:∀(k:Nat) (a:Addr),n<=k->ρ.r[k]? =some a->a ∉ B'):∀{vs:List V3} {ds:List D} {xs:List V},oH n vs=true->vR S vs=some ds->aC K ρ H vs xs->aw K B' H ds xs
 | [],ds,xs,_,h,r=>by unfold vR at h;cases h;unfold aC at r;subst r;exact aw.nil
 | v ::vs,ds,xs,g,h,r=>by
   unfold vR at h;unfold oH at g;obtain⟨g1,g2⟩:=Bool.and_eq_true_iff.mp g;obtain⟨d,e1,h2⟩:=mm h;obtain⟨es,e2,rfl⟩:=gU h2;obtain⟨y,ys,rfl,r1,r2⟩:=r.bM;exact aw.cons (a_.resB w p hn g1 e1 r1) (aC.resB w p hn g2 e2 r2)
end
mutual
theorem rN:∀v:V3,iW 0 v=true
 | .d _=>by unfold iW;rfl
 | .loc k=>by unfold iW;exact decide_eq_true (Nat.zero_le _)
 | .lst vs=>by unfold iW;exact mz vs
 | .tup vs=>by unfold iW;exact mz vs
 | .fn _=>by unfold iW;rfl
theorem mz:∀vs:List V3,oH 0 vs=true
 | []=>by unfold oH;rfl
 | v ::vs=>by unfold oH;rw [rN v,mz vs];rfl
end
theorem a_.res{K:W.Frag}{cl:Ru}{S:bc}(w:SW K cl ρ H S){v:V3}{d:D}{x:V}(h:res S v=some d)(r:a_ K ρ H v x):Rep K [] H d x:=
 r.resB w (fun b o e _=>⟨e,by simp⟩) (n:=0) (fun _ _ _ _=>by simp) (rN v) h
theorem nO{S:bc}{δ:DE}{i:Nat}{y:Sl}(e:(df S δ)[i]? =some y):(∃v d,δ[i]? =some (some v)/\res S v=some d/\y= .val d)\/y= .un:=by
 unfold df at e;rw[List.getElem?_map] at e;cases q:δ[i]? with
 | none=>rw [q] at e;cases e
 | some x=>
   rw[q] at e;cases x with
   | none=>cases e;exact .inr rfl
   | some v=>
     cases z:res S v with
     | none=>
       have e:some (match res S v with | some d=>Sl.val d | none=> .un)=some y:=e
       rw[z] at e;cases e;exact .inr rfl
     | some d=>
       have e:some (match res S v with | some d=>Sl.val d | none=> .un)=some y:=e
       rw[z] at e;cases e;exact .inl ⟨v,d,rfl,z,rfl⟩
theorem eO.df{K:W.Frag}{cl:Ru}{S:bc}{σ:L2.St}{δ:DE}(E:eO K cl ρ H S σ δ):dA K [] [] H σ (df S δ) where
 len:=by unfold L3.df;rw [List.length_map];exact E.len
 bs:=fun a ha=>by cases ha
 zb:=fun a ha=>by cases ha
 val:=fun i d e=>by
  rcases nO e with⟨v,d',h1,h2,h3⟩ | h
  .cases h3;obtain⟨x,q1,q2⟩:=E.val i v h1;exact⟨x,q1,q2.res E.sw h2⟩
  .cases h
 bld:=fun i ds e=>by
  rcases nO e with⟨v,d',h1,h2,h3⟩ | h
  .cases h3
  .cases h
 dis:=fun i j a ds es e=>by
  rcases nO e with⟨v,d',h1,h2,h3⟩ | h
  .cases h3
  .cases h
abbrev FX:=DE->bc->R3 V3
abbrev FB:=DE->bc->R3 Bool
abbrev FA:=DE->bc->R3 (List V3)
def tX(K:W.Frag)(cl:Ru)(f:FX):TE:=fun σ H Q=>∃ρ S δ v S',eO K cl ρ H S σ δ/\f δ S= .ok v S'/\∀u cG H',Pre ρ H cG H'->SW K cl cG H' S'->a_ K cG H' v u->Q u H'
def Gz(K:W.Frag)(cl:Ru)(f:FB):TT:=fun σ H Q=>∃ρ S δ b S',eO K cl ρ H S σ δ/\f δ S= .ok b S'/\∀cG H',Pre ρ H cG H'->SW K cl cG H' S'->Q b H'
def NU(K:W.Frag)(cl:Ru)(f:FA):TA:=fun σ H Q=>∃ρ S δ vs S',eO K cl ρ H S σ δ/\f δ S= .ok vs S'/\∀us cG H',Pre ρ H cG H'->SW K cl cG H' S'->aC K cG H' vs us->Q us H'
structure PX (X:Cx) (cl:Ru) (e:Expr) (f:FX):Prop where
 go:PE X e (tX X.K cl f)
structure HD (X:Cx) (cl:Ru) (e:Expr) (f:FB):Prop where
 go:PT X e (Gz X.K cl f)
structure E5 (X:Cx) (cl:Ru) (es:List Expr) (f:FA):Prop where
 go:PA X es (NU X.K cl f)
section
variable {X:Cx} {cl:Ru}
def xP(f:FD):FX:=fun δ S=>(R3.of (f (down δ)) S).bind fun d S=> .ok (.d d) S
theorem aq(h:QD X e f):PX X cl e (xP f):=⟨h.1.imp fun σ H Q ⟨ρ,S,δ,v,S',E,hf,q⟩=>by
 obtain⟨d,S1,h1,h2⟩:=R3.ai hf;obtain⟨h3,e3⟩:=R3.of_ok h1;cases h2;subst e3;exact⟨[],ρ.b,down δ,d,E.down,h3,fun v H' s r=>q v ρ H' (Pre.same s) (E.sw.same s) (by unfold a_;exact r)⟩⟩
def xT(f:FD):FX:=fun δ S=>(R3.of (f (df S δ)) S).bind fun d S=>R3.aU (uC d) (.ok (.d d) S)
theorem lC(h:QD X e f):PX X cl e (xT f):=⟨h.1.imp fun σ H Q ⟨ρ,S,δ,v,S',E,hf,q⟩=>by
 obtain⟨d,S1,h1,h2⟩:=R3.ai hf;obtain⟨h4,e3⟩:=R3.of_ok h1;obtain⟨ha,h3⟩:=R3.aT h2;cases h3;subst e3;exact⟨[],[],df _ δ,d,E.df,h4,fun v H' s r=>q v ρ H' (Pre.same s) (E.sw.same s) (by unfold a_;exact Rep.u3 (E.sw.same s).nt ha r)⟩⟩
def bP(f:ak->R Bool):FB:=fun δ S=>R3.of (f (down δ)) S
theorem jo{f:ak->R Bool}(h:QB X e f):HD X cl e (bP f):=⟨h.1.imp fun σ H Q ⟨ρ,S,δ,v,S',E,hf,q⟩=>by
 obtain⟨h1,e3⟩:=R3.of_ok hf;subst e3;exact⟨[],ρ.b,down δ,v,E.down,h1,fun H' s=>q ρ H' (Pre.same s) (E.sw.same s)⟩⟩
def bT(f:ak->R Bool):FB:=fun δ S=>R3.of (f (df S δ)) S
def iF(i:Nat):FX:=fun δ S=>match δ[i]? with | some (some v)=> .ok v S | _=> .no
theorem dX(i:Nat){x:Str}{pos:Pos}(hN:X.N[i]? =some x:=by rfl)(hv:Cz X.env.scope x:=by first | exact Or.inl rfl | exact Or.inr (Or.inl rfl) | exact Or.inr (Or.inr rfl))(hd:(x==("__debug__":Str))=false:=by decide)
 (pb:(x==("__classdict__":Str))=false:=by decide):PX X cl (.Name x pos) (iF i):=⟨(qh hN hv hd pb).imp fun σ H Q ⟨ρ,S,δ,v,S',E,hf,q⟩=>by
 unfold iF at hf;split at hf
 .rename_i d' e;cases hf;obtain⟨u,h1,h2⟩:=E.val i _ e;exact⟨u,h1,q u ρ H (Pre.refl ρ H) E.sw h2⟩
 .cases hf⟩
def t5(f:ak->R (List D)):FX:=fun δ S=>(R3.of (f (down δ)) S).bind fun ds S=> .ok (.loc S.length) (S++[.lst ds])
theorem ml{f:ak->R (List D)}(h:QN X e f):PX X cl e (t5 f):=⟨h.1.imp fun σ H Q ⟨ρ,S,δ,v,S',E,hf,q⟩=>by
 obtain⟨ds,S1,h1,h2⟩:=R3.ai hf;obtain⟨h3,e3⟩:=R3.of_ok h1;cases h2;subst e3;refine⟨[],ρ.b,down δ,ds,E.down,h3,fun a xs H' s n e r=>?_⟩
 have r':aw X.K (ρ.push a).b H' ds xs:=r.aY fun b o e nb=>⟨e,fun hb=>nb (by
  rcases P3.mem_push hb with z | z
  .exact List.mem_cons_of_mem _ z
  .subst z;exact List.mem_cons_self)⟩
 obtain⟨w,p⟩:=E.sw.new (o:= .lst ds) s n ⟨xs,e,r'⟩;exact q _ _ H' p w (by unfold a_;exact⟨a,by show(ρ.r++[a])[_]? =_;rw [<-E.sw.len,List.getElem?_append_right (by omega),Nat.sub_self];rfl,rfl⟩)⟩
end
end L3
end
section
namespace L3
open PySem PySem.Spec PyProof.Rows L2
section
variable {X:Cx} {cl:Ru}
def gy:FA:=fun _ S=> .ok [] S
def br(f:FX)(g:FA):FA:=fun δ S=>(f δ S).bind fun v S1=>(g δ S1).bind fun vs S2=> .ok (v ::vs) S2
theorem cv:E5 X cl [] gy:=⟨gK.imp fun σ H Q ⟨ρ,S,δ,v,S',E,hf,q⟩=>by
 cases hf;exact q [] ρ H (Pre.refl ρ H) E.sw aC.nil⟩
theorem aF(h:PX X cl e f)(t:E5 X cl es g)(hs:starEach (e ::es) X.env=(false,eval e X.env) ::starEach es X.env:=by rfl):E5 X cl (e ::es) (br f g):=
 ⟨(dM h.1 t.1 hs).imp fun σ H Q ⟨ρ,S,δ,v,S',E,hf,q⟩=>by
   obtain⟨v1,S1,h1,h2⟩:=R3.ai hf;obtain⟨vs,S2,h3,h4⟩:=R3.ai h2;cases h4;exact⟨ρ,S,δ,v1,S1,E,h1,fun u c_ H1 p1 w1 r1=>⟨c_,S1,δ,vs,_,E.to p1 w1,h3,fun us t_ H2 p2 w2 r2=>q _ t_ H2 (p1.trans p2) w2 (aC.cons (r1.pre p2) r2)⟩⟩⟩
def o8:List V3->Option (List D)
 | []=>some []
 | .d x ::r=>(o8 r).map (x ::·)
 | _ ::_=>none
theorem jF:∀{vs:List V3} {ds:List D},o8 vs=some ds->vs=ds.map .d
 | [],ds,h=>by cases h;rfl
 | .d x ::r,ds,h=>by
   cases e:o8 r with
   | none=>have h:(o8 r).map (x ::·)=some ds:=h;rw [e] at h;cases h
   | some es=>
     have h:(o8 r).map (x ::·)=some ds:=h
     rw[e] at h;cases h;rw[jF e];rfl
 | .loc _ ::_,_,h=>by cases h
 | .lst _ ::_,_,h=>by cases h
 | .tup _ ::_,_,h=>by cases h
 | .fn _ ::_,_,h=>by cases h
theorem qg:∀ds:List D,o8 (ds.map .d)=some ds
 | []=>rfl
 | d ::ds=>by show(o8 (ds.map .d)).map (d ::·)=_;rw [qg ds];rfl
def x9(vs:List V3):V3:=match o8 vs with | some ds=> .d (.tup ds) | none=> .tup vs
def rY(vs:List V3):V3:=match o8 vs with | some ds=> .d (.lst ds) | none=> .lst vs
def D3(g:FA):FX:=fun δ S=>(g δ S).bind fun vs S=>R3.aU (decide (vs.length<=sizeLine)) (.ok (x9 vs) S)
theorem xp{H:Hp}{p:Addr}{o:HO}(hp:H p=none):Pre ρ H ρ (upd H p o):=Pre.same (aW hp)
theorem zf{K:W.Frag}{ρ:P3}{vs:List V3}{xs:List V}{a:Addr}(l:sf K ρ.b H a xs)(r:aC K ρ H vs xs):a_ K ρ H (x9 vs) (.ref a):=by
 unfold x9;split
 .rename_i ds e;rw[jF e] at r;unfold a_ Rep;exact⟨a,xs,rfl,l,r.to⟩
 .unfold a_;exact⟨a,xs,rfl,l,r⟩
theorem yz{K:W.Frag}{ρ:P3}{vs:List V3}{xs:List V}{a:Addr}(l:tj K ρ.b H a xs)(r:aC K ρ H vs xs):a_ K ρ H (rY vs) (.ref a):=by
 unfold rY;split
 .rename_i ds e;rw[jF e] at r;unfold a_ Rep;exact⟨a,xs,rfl,l,r.to⟩
 .unfold a_;exact⟨a,xs,rfl,l,r⟩
theorem AN{x1 pos}(h:E5 X cl es g):PX X cl (.Tuple es x1 pos) (D3 g):=⟨(AW h.1).imp fun σ H Q ⟨ρ,S,δ,v,S',E,hf,q⟩=>by
 obtain⟨vs,S1,h1,h2⟩:=R3.ai hf;obtain⟨hl,h3⟩:=R3.aT h2;cases h3;refine⟨ρ,S,δ,vs,_,E,h1,fun us c_ H1 p1 w1 r1=>⟨by rw[<-r1.length];exact of_decide_eq_true hl,fun p hp=>q _ c_ _ (p1.trans (xp hp)) (w1.same (aW hp)) ?_⟩⟩
 refine zf (.inl ⟨fun ha=>?_, .inl aV⟩) (r1.pre (xp hp))
 obtain⟨o,ho⟩:=w1.bs p ha;rw[hp] at ho;cases ho⟩
def Pm(g:FA):FX:=fun δ S=>(g δ S).bind fun vs S=>R3.aU (decide (vs.length<=sizeLine)) (.ok (rY vs) S)
def x2(g:D->D->R D)(fa fb:FX):FX:=fun δ S=>(fa δ S).bind fun a S1=>(fb δ S1).bind fun b S2=>match a,b with
 | .d x, .d y=>(R3.of (g x y) S2).bind fun d S=> .ok (.d d) S
 | _,_=> .no
theorem Ih{K:W.Frag}{g:D->D->R D}{σ:L2.St}{Q:VK}(h:tX K cl (x2 g fa fb) σ H Q) :
 HK (fun x y H Q=>∃B da db d,(∀a∈B,∃o,H a=some o)/\Rep K B H da x/\Rep K B H db y/\g da db= .ok d/\∀z H',aK H H'->Rep K B H' d z->Q z H') (tX K cl fa) (tX K cl fb) σ H Q:=by
 obtain⟨ρ,S,δ,v,S',E,hf,q⟩:=h;obtain⟨a,S1,h1,h2⟩:=R3.ai hf;obtain⟨b,S2,h3,h4⟩:=R3.ai h2
 match a,b,h1,h3,h4 with
 | .d x, .d y,h1,h3,h4=>
   obtain⟨d,S3,h5,h6⟩:=R3.ai h4;obtain⟨h7,e⟩:=R3.of_ok h5;cases h6;subst e;refine⟨ρ,S,δ, .d x,S1,E,h1,fun u1 c_ H1 p1 w1 r1=>⟨c_,S1,δ, .d y,_,E.to p1 w1,h3,fun u2 t_ H2 p2 w2 r2=>?_⟩⟩
   have so:=r1.pre p2;unfold a_ at so r2;exact⟨t_.b,x,y,d,w2.bs,so,r2,h7,fun z H' s r=>q z t_ H' (p1.trans (p2.trans (Pre.same s))) (w2.same s) (by unfold a_;exact r)⟩
 | .d x, .loc _,_,_,h4=>cases h4
 | .d x, .lst _,_,_,h4=>cases h4
 | .d x, .tup _,_,_,h4=>cases h4
 | .d x, .fn _,_,_,h4=>cases h4
 | .loc _,_,_,_,h4=>cases h4
 | .lst _,_,_,_,h4=>cases h4
 | .tup _,_,_,_,h4=>cases h4
 | .fn _,_,_,_,h4=>cases h4
theorem G7{op:CmpOp}{g:D->D->R D}(ho:ki X (compareOp op) g)(ha:PX X cl a fa)(hb:PX X cl b fb)(hm:behindInMarks op b=false):PX X cl (.Compare a [op] [b] pos) (x2 g fa fb):=
 ⟨(xC ho.r ha.1 hb.1 hm).imp fun σ H Q h=>Ih h⟩
def KR(g:D->D->R D)(fa fb:FX):FB:=fun δ S=>(x2 g fa fb δ S).bind fun v S=>match v with | .d (.bl b)=> .ok b S | _=> .no
theorem D5{op:CmpOp}{g:D->D->R D}(ho:ki X (compareOp op) g)(ha:PX X cl a fa)(hb:PX X cl b fb)(hm:behindInMarks op b=false):HD X cl (.Compare a [op] [b] pos) (KR g fa fb):=
 ⟨(xX ho.r ha.1 hb.1 hm).imp fun σ H Q ⟨ρ,S,δ,b,S',E,hf,q⟩=>by
   obtain⟨v,S1,h1,h2⟩:=R3.ai hf;have hv:v= .d (.bl b)/\S1=S':=by
    match v,h2 with
    | .d (.bl k),h2=>cases h2;exact⟨rfl,rfl⟩
    | .d .cz,h2=>cases h2
    | .d (.int _),h2=>cases h2
    | .d (.str _),h2=>cases h2
    | .d (.lst _),h2=>cases h2
    | .d (.tup _),h2=>cases h2
    | .d (.dct _ _),h2=>cases h2
    | .loc _,h2=>cases h2
    | .lst _,h2=>cases h2
    | .tup _,h2=>cases h2
    | .fn _,h2=>cases h2
   obtain⟨rfl,rfl⟩:=hv;exact Ih (g:=g) (Q:=fun x H'=>∃k,x= .bl k/\Q k H') ⟨ρ,S,δ,_,_,E,h1,fun u cG H' p w r=>⟨b,by unfold a_ Rep at r;exact r,q cG H' p w⟩⟩⟩
inductive Ou where
 | nx (δ:DE) | rt (v:V3)
abbrev FZ:=DE->bc->R3 Ou
def CQ(K:W.Frag)(cl:Ru)(ρ:P3)(H:Hp)(D:Ends)(S':bc):Ou->Prop
 | .nx dH=>∀cX cG H',Pre ρ H cG H'->eO K cl cG H' S' cX dH->D.nx cX H'
 | .rt v=>∀u cG H',Pre ρ H cG H'->SW K cl cG H' S'->a_ K cG H' v u->D.rt u H'
theorem CQ.pre{K:W.Frag}{D:Ends}{S':bc}{o:Ou}(q:CQ K cl ρ H D S' o)(p:Pre ρ H c_ H1):CQ K cl c_ H1 D S' o:=by
 cases o with
 | nx dH=>exact fun cX cG H' p' E'=>q cX cG H' (p.trans p') E'
 | rt d=>exact fun v cG H' p' w r=>q v cG H' (p.trans p') w r
def sX(K:W.Frag)(cl:Ru)(F:FZ):TS:=fun D σ H=>∃ρ S δ o S',eO K cl ρ H S σ δ/\F δ S= .ok o S'/\CQ K cl ρ H D S' o
structure PZ (X:Cx) (cl:Ru) (st:Stmt) (F:FZ):Prop where
 go:PS X st (sX X.K cl F)
structure Bw (X:Cx) (cl:Ru) (st:List Stmt) (F:FZ):Prop where
 go:ud X st (sX X.K cl F)
def vc:FZ:=fun δ S=> .ok (.nx δ) S
def cm(F G:FZ):FZ:=fun δ S=>(F δ S).bind fun o S1=>match o with | .nx dH=>G dH S1 | .rt d=> .ok (.rt d) S1
theorem lH:Bw X cl [] vc:=⟨xE.imp fun D σ H ⟨ρ,S,δ,o,S',E,hf,q⟩=>by
 cases hf;exact q σ ρ H (Pre.refl ρ H) E⟩
theorem az{st:Stmt}{rest:List Stmt}(h1:PZ X cl st F)(h2:Bw X cl rest G):Bw X cl (st ::rest) (cm F G):=⟨(uw h1.1 h2.1).imp fun D σ H ⟨ρ,S,δ,o,S',E,hf,q⟩=>by
 obtain⟨o1,S1,h1,h2⟩:=R3.ai hf;refine⟨ρ,S,δ,o1,S1,E,h1,?_⟩;cases o1 with
 | nx cY=>
   intro J3 c_ H1 p1 E1;exact⟨c_,S1,cY,o,S',E1,h2,q.pre p1⟩
 | rt d=>
   cases h2;exact q⟩
theorem bo{st:Stmt}(h1:PZ X cl st F):Bw X cl [st] F:=⟨xq h1.1⟩
def dW(i:Nat)(f:FX):FZ:=fun δ S=>(f δ S).bind fun v S=>R3.aU (decide (i < δ.length)) (.ok (.nx (δ.set i (some v))) S)
theorem bU{i:Nat}{pos pos':Pos}(hN:X.N.Nodup)(hi:X.N[i]? =some x)(hx:Loc X.env.scope x)(he:PX X cl e f)(hs:swapsWith e (some (.Name x pos')) pos.line X.env=pure false:=by rfl)(hf:X.fn x=true\/X.env.scope.names.lookup x=some .local:=by first | exact .inl rfl | exact .inr rfl | assumption) :
 PZ X cl (.Assign [.Name x pos'] e pos) (dW i f):=⟨(wy hN hi hx he.1 hs hf).imp fun D σ H ⟨ρ,S,δ,o,S',E,hf,q⟩=>by
 obtain⟨v,S1,h1,h2⟩:=R3.ai hf;obtain⟨hi,h3⟩:=R3.aT h2;cases h3;refine⟨ρ,S,δ,v,_,E,h1,fun u c_ H1 p1 w1 r1=>?_⟩
 exact q _ c_ H1 p1 ((E.to p1 w1).set (by rw[<-E.len];exact of_decide_eq_true hi) r1)⟩
def kq(f:FX):FZ:=fun δ S=>(f δ S).bind fun v S=> .ok (.rt v) S
theorem eg(he:PX X cl e f):PZ X cl (.Return (some e) pos) (kq f):=⟨(AV he.1).imp fun D σ H ⟨ρ,S,δ,o,S',E,hf,q⟩=>by
 obtain⟨v,S1,h1,h2⟩:=R3.ai hf;cases h2;exact⟨ρ,S,δ,v,_,E,h1,fun u c_ H1 p1 w1 r1=>q u c_ H1 p1 w1 r1⟩⟩
def E7(c:FB)(F G:FZ):FZ:=fun δ S=>(c δ S).bind fun b S=>if b then F δ S else G δ S
theorem rX(hc:HD X cl c fc)(ha:Bw X cl a F)(hb:Bw X cl b G):PZ X cl (.If c a b pos) (E7 fc F G):=⟨(E8 hc.1 ha.1 hb.1).imp fun D σ H ⟨ρ,S,δ,o,S',E,hf,q⟩=>by
 obtain⟨k,S1,h1,h2⟩:=R3.ai hf;refine⟨ρ,S,δ,k,S1,E,h1,fun c_ H1 p1 w1=>?_⟩
 cases k with
 | true=>rw [if_pos rfl] at h2;exact CS ⟨c_,S1,δ,o,S',E.to p1 w1,h2,q.pre p1⟩
 | false=>rw [if_neg (by decide)] at h2;exact Dz ⟨c_,S1,δ,o,S',E.to p1 w1,h2,q.pre p1⟩⟩
def MD(f:FX):FZ:=fun δ S=>(f δ S).bind fun _ S=> .ok (.nx δ) S
def xw(c:FB)(body:FZ):Nat->FZ
 | 0,_,_=> .no
 | n+1,δ,S=>(c δ S).bind fun b S=>if b then(body δ S).bind fun o S=>match o with | .nx dj=>xw c body n dj S | .rt r=> .ok (.rt r) S else .ok (.nx δ) S
def K6(n:Nat)(c:FB)(body:FZ):FZ:=fun δ S=>xw c body n δ S
end
end L3
end
section
namespace L3
open PySem PySem.Spec PyProof.Rows L2
theorem aC.get{K:W.Frag}:∀{ds:List V3} {xs:List V} {i:Nat} {d:V3},aC K ρ H ds xs->ds[i]? =some d->∃x,xs[i]? =some x/\a_ K ρ H d x
 | [],_,_,_,_,e=>by simp at e
 | d ::ds,xs,0,d',h,e=>by
   obtain⟨x,r,rfl,h1,h2⟩:=h.bM;simp at e;subst e;exact⟨x,rfl,h1⟩
 | d ::ds,xs,i+1,d',h,e=>by
   obtain⟨x,r,rfl,h1,h2⟩:=h.bM;obtain⟨y,e1,e2⟩:=aC.get (i:=i) h2 (by simpa using e)
   exact⟨y,by simpa using e1,e2⟩
def IS(K:W.Frag)(ρ:P3)(H:Hp)(J:It)(vs:List V3):Prop:=∀cG H',PW ρ H cG H'->(∀a∈cG.b,∃o,H' a=some o)->(∀(i:Nat) (d:V3),vs[i]? =some d->J.go i H'/\∀x l7,J.yld i H' x l7->aK H' l7/\a_ K cG l7 d x)/\J.stop vs.length H'
theorem IS.of{K:W.Frag}{ρ:P3}{J:It}{ds:List D}(h:AJ K ρ.b H J ds):IS K ρ H J (ds.map .d):=fun cG H' p bs=>by
 obtain⟨h1,h2⟩:=h cG.b H' p.aY;refine⟨fun i v hv=>?_,by rw[List.length_map];exact h2⟩
 rw[List.getElem?_map] at hv;cases e:ds[i]? with
 | none=>rw [e] at hv;cases hv
 | some d=>
   rw[e] at hv;cases hv;obtain⟨g1,g2⟩:=h1 i d e;exact⟨g1,fun x l7 y=>let⟨s,r⟩:=g2 x l7 y bs;⟨s,by unfold a_;exact r⟩⟩
def Ni(K:W.Frag)(cl:Ru)(f:FA):TI:=fun σ H R=>∃ρ S δ vs S',eO K cl ρ H S σ δ/\f δ S= .ok vs S'/\∀J c_ H1,Pre ρ H c_ H1->SW K cl c_ H1 S'->IS K c_ H1 J vs->R J H1
structure Jz (X:Cx) (cl:Ru) (tg e:Expr) (f:FA):Prop where
 go:PI X tg e (Ni X.K cl f)
section
variable {X:Cx} {cl:Ru}
def iP(f:ak->R (List D)):FA:=fun δ S=>(R3.of (f (down δ)) S).bind fun ds S=> .ok (ds.map .d) S
theorem b9{f:ak->R (List D)}(h:uS X tg e f):Jz X cl tg e (iP f):=⟨h.1.imp fun σ H Q ⟨ρ,S,δ,vs,S',E,hf,q⟩=>by
 obtain⟨ds,S1,h1,h2⟩:=R3.ai hf;obtain⟨h3,e3⟩:=R3.of_ok h1;cases h2;subst e3;exact⟨[],ρ.b,down δ,ds,E.down,h3,fun J H1 s r=>q J ρ H1 (Pre.same s) (E.sw.same s) (IS.of r)⟩⟩
def uN(f:FX):FA:=fun δ S=>(f δ S).bind fun v S=>match v with | .d (.int j)=>R3.aU (decide (-(2 ^ 62)<=j/\j < 2 ^ 62)) (.ok ((gH 0 j.toNat).map .d) S) | _=> .no
theorem vW{tg a:Expr}{p pos:Pos}(h:PX X cl a f)(hg:Gl X "range")(hm:X.mg "range"=none)(hs:starEach [a] X.env=[(false,eval a X.env)]:=by rfl):Jz X cl tg (.Call (.Name "range" p) [a] [] pos) (uN f):=
 ⟨(rG hg hm (dM h.1 gK hs) hs).imp fun σ H RR ⟨ρ,S,δ,vs,S',E,hf,q⟩=>by
   obtain⟨v,S1,h1,h2⟩:=R3.ai hf
   match v,h1,h2 with
   | .d (.int j),h1,h2=>
     obtain⟨hb,h3⟩:=R3.aT h2;cases h3;have hb:=of_decide_eq_true hb;refine⟨ρ,S,δ, .d (.int j),_,E,h1,fun u c_ H1 p1 w1 r1=>⟨j,?_,hb.1,hb.2,q _ c_ H1 p1 w1 (IS.of (wW 0 _))⟩⟩
     unfold a_ Rep at r1;rw[r1]
   | .d .cz,_,h2=>cases h2
   | .d (.bl _),_,h2=>cases h2
   | .d (.str _),_,h2=>cases h2
   | .d (.lst _),_,h2=>cases h2
   | .d (.tup _),_,h2=>cases h2
   | .d (.dct _ _),_,h2=>cases h2
   | .loc _,_,h2=>cases h2
   | .lst _,_,h2=>cases h2
   | .tup _,_,h2=>cases h2⟩
def NV(f:FX):FA:=fun δ S=>(f δ S).bind fun v S=>match v with | .d (.lst ds)=> .ok (ds.map .d) S | .lst vs=> .ok vs S | _=> .no
abbrev FG:=V3->DE->Option DE
abbrev DI:=List V3->DE->Option DE
def gX(K:W.Frag)(cl:Ru)(t:FG):TG:=fun v σ H Q=>∃ρ S δ x dH,eO K cl ρ H S σ δ/\a_ K ρ H x v/\t x δ=some dH/\∀cX H',aK H H'->eO K cl ρ H' S cX dH->Q cX H'
def N2(K:W.Frag)(cl:Ru)(t:DI):Bp:=fun v σ H Q=>∃ρ S δ x dH,eO K cl ρ H S σ δ/\aC K ρ H x v/\t x δ=some dH/\∀cX H',aK H H'->eO K cl ρ H' S cX dH->Q cX H'
structure HB (X:Cx) (cl:Ru) (tg:Expr) (t:FG):Prop where
 go:PG X tg (gX X.K cl t)
structure DK (X:Cx) (cl:Ru) (tg:List Expr) (t:DI):Prop where
 go:DY X tg (N2 X.K cl t)
theorem eO.same{K:W.Frag}{S:bc}{σ:L2.St}{δ:DE}(E:eO K cl ρ H S σ δ)(s:aK H H'):eO K cl ρ H' S σ δ:=E.to (Pre.same s) (E.sw.same s)
def lZ(i:Nat):FG:=fun d δ=>if i < δ.length then some (δ.set i (some d)) else none
theorem aZ{i:Nat}{pos:Pos}(hN:X.N.Nodup)(hi:X.N[i]? =some x)(hx:Loc X.env.scope x)(hf:X.fn x=true\/X.env.scope.names.lookup x=some .local:=by first | exact .inl rfl | exact .inr rfl | assumption):HB X cl (.Name x pos) (lZ i):=
 ⟨(xu hN hi hx hf).imp fun v σ H Q ⟨ρ,S,δ,d,dH,E,r,ht,q⟩=>by
   unfold lZ at ht;split at ht
   .rename_i hi;cases ht;exact q _ H (aK.refl H) (E.set (by rw[<-E.len];exact hi) r)
   .cases ht⟩
def Bl:DI:=fun ds δ=>match ds with | []=>some δ | _=>none
def qN(t:FG)(u:DI):DI:=fun ds δ=>match ds with | d ::r=>(t d δ).bind fun dH=>u r dH | []=>none
theorem er:DK X cl [] Bl:=⟨yg.imp fun vs σ H Q ⟨ρ,S,δ,ds,dH,E,r,ht,q⟩=>by
 cases ds with
 | nil=>unfold aC at r;cases ht;exact⟨r,q σ H (aK.refl H) E⟩
 | cons=>cases ht⟩
theorem bu{u:DI}(h1:HB X cl e t)(h2:DK X cl es u)(hs:(assignEach (e ::es) X.env).map (·.2)=assign e X.env ::(assignEach es X.env).map (·.2):=by rfl):DK X cl (e ::es) (qN t u):=
 ⟨(uP h1.1 h2.1 hs).imp fun vs σ H Q ⟨ρ,S,δ,ds,dH,E,r,ht,q⟩=>by
   cases ds with
   | nil=>cases ht
   | cons d ds=>
     obtain⟨x,xs,rfl,r1,r2⟩:=r.bM;have ht:(t d δ).bind (fun dH=>u ds dH)=some dH:=ht
     cases e1:t d δ with
     | none=>rw [e1] at ht;cases ht
     | some cY=>
       rw[e1] at ht;exact⟨x,xs,rfl,ρ,S,δ,d,cY,E,r1,e1,fun J3 H1 s1 E1=>⟨ρ,S,cY,ds,dH,E1,r2.pre (Pre.same s1),ht,fun ub H2 s2 E2=>q ub H2 (s1.trans s2) E2⟩⟩⟩
def zK(n:Nat)(t:DI):FG:=fun d δ=>match d with
 | .d (.tup ds)=>if ds.length=n then t (ds.map .d) δ else none
 | .tup vs=>if vs.length=n then t vs δ else none
 | _=>none
theorem gd{k:Nat}{t:DI}{n:Nat}{pos:Pos}(hc:X.calm=true)(h:DK X cl es t)(hn:(assignEach es X.env).length=n:=by rfl)(Cv:(assignEach es X.env).findIdx? (·.1)=none:=by rfl):HB X cl (.Tuple es k pos) (zK n t):=
 ⟨(BX hc h.1 hn Cv).imp fun v σ H Q ⟨ρ,S,δ,d,dH,E,r,ht,q⟩=>by
   have key:∃vs a xs,v= .ref a/\sf X.K ρ.b H a xs/\aC X.K ρ H vs xs/\vs.length=n/\t vs δ=some dH:=by
    unfold zK at ht;split at ht
    .rename_i ds;split at ht
     .rename_i hl;unfold a_ Rep at r;obtain⟨a,xs,e,l,r⟩:=r;exact⟨ds.map .d,a,xs,e,l,aC.of r,by rw[List.length_map];exact hl,ht⟩
     .cases ht
    .rename_i vs;split at ht
     .rename_i hl;unfold a_ at r;obtain⟨a,xs,e,l,r⟩:=r;exact⟨vs,a,xs,e,l,r,hl,ht⟩
     .cases ht
    .cases ht
   obtain⟨vs,a,xs,rfl,l,r,hl,ht⟩:=key;exact⟨a,xs,rfl,l.sq,by rw[<-r.length];exact hl,ρ,S,δ,vs,dH,E,r,ht,q⟩⟩
def Pf(f:FX)(t:FG):FZ:=fun δ S=>(f δ S).bind fun d S=>match t d δ with | some dH=> .ok (.nx dH) S | none=> .no
def kZ(t:FG)(body:FZ):List V3->FZ
 | [],δ,S=> .ok (.nx δ) S
 | d ::ds,δ,S=>match t d δ with
   | none=> .no
   | some cY=>(body cY S).bind fun o S=>match o with | .nx dj=>kZ t body ds dj S | .rt r=> .ok (.rt r) S
def lL(it:FA)(t:FG)(body:FZ):FZ:=fun δ S=>(it δ S).bind fun vs S=>kZ t body vs δ S
theorem fg{tg iter:Expr}{body:List Stmt}{it:FA}{t:FG}{F:FZ}{pos:Pos}(hp:PassesOwn (model X.prog X.w) X.A X.env X.xe)(hc:X.calm=true)(hi:Jz X cl tg iter it)(hg:HB X cl tg t)(hb:Bw X cl body F)
 (hs:∀x,foldedSetIterable iter X.env x=pure x:=by intro _;rfl):PZ X cl (.For tg iter body [] pos) (lL it t F):=⟨(BG hp hc hi.1 hg.1 hb.1 hs).imp fun D σ H ⟨ρ,S,δ,o,S',E,hf,q⟩=>by
 obtain⟨ds,S0,h1,h2⟩:=R3.ai hf;refine⟨ρ,S,δ,ds,S0,E,h1,fun J c_ H1 p1 w1 ir=>?_⟩
 refine⟨fun i m cX H'=>m=ds.length - i/\i<=ds.length/\∃cG S1 dH,Pre c_ H1 cG H'/\eO X.K cl cG H' S1 cX dH/\kZ t F (ds.drop i) dH S1= .ok o S',⟨ds.length,rfl,Nat.zero_le _,c_,S0,δ,Pre.refl c_ H1,E.to p1 w1,by simpa using h2⟩,?_⟩
 rintro i m cX H' ⟨rfl,hi,cG,S1,dH,pv,E',hl⟩;obtain⟨go,stop⟩:=ir cG H' pv.pw E'.sw.bs;by_cases hlt:i < ds.length
 .have hd:ds[i]? =some ds[i]:=List.getElem?_eq_getElem hlt;have hdrop:ds.drop i=ds[i] ::ds.drop (i+1):=List.drop_eq_getElem_cons hlt;rw[hdrop] at hl;unfold kZ at hl;split at hl
  .cases hl
  .rename_i cY h3;obtain⟨o1,S2,h5,h6⟩:=R3.ai hl;obtain⟨g1,g2⟩:=go i _ hd;refine .inr ⟨g1,fun ub H2=>∃t_ S2 dj,Pre c_ H1 t_ H2/\eO X.K cl t_ H2 S2 ub dj/\kZ t F (ds.drop (i+1)) dj S2= .ok o S',fun ub H2 n=>⟨ds.length - (i+1),by omega,rfl,hlt,n⟩,fun x l7 y=>?_⟩
   obtain⟨ss,rr⟩:=g2 x l7 y;refine⟨cG,S1,dH,ds[i],cY,E'.same ss,rr,h3,fun ub H2 s2 E2=>⟨cG,S1,cY,o1,S2,E2,h5,?_⟩⟩
   have pv2:Pre c_ H1 cG H2:=pv.trans (Pre.same (ss.trans s2));cases o1 with
   | nx dj=>exact fun Ew Hw H3 p3 E3=>⟨Hw,S2,dj,pv2.trans p3,E3,h6⟩
   | rt d=>
     cases h6;exact fun v Hw H3 p3 w r=>q v Hw H3 (p1.trans (pv2.trans p3)) w r
 .have e:i=ds.length:=by omega
  subst e;rw[List.drop_length] at hl;cases hl;exact .inl ⟨stop,q cX cG H' (p1.trans pv) E'⟩⟩
end
end L3
end
section
namespace L3
open PySem PySem.Spec PyProof.Rows L2
mutual
def uR(n:Nat):V3->Bool
 | .d _=>true
 | .loc k=>decide (k < n)
 | .lst vs=>nM n vs
 | .tup vs=>nM n vs
 | .fn _=>true
def nM(n:Nat):List V3->Bool
 | []=>true
 | v ::vs=>uR n v && nM n vs
end
def wI(n:Nat):SO->Bool
 | .ins _ fs=>nM n (fs.map (·.2))
 | _=>true
theorem Eb{ρ:P3}{n:Nat}{b:Addr}(h:b∈(ρ.cut n).b):b∈ρ.b:=by
 rcases P3.dn.mp h with z | z
 .exact P3.dn.mpr (.inl ⟨List.mem_of_mem_take z.1,z.2⟩)
 .exact P3.dn.mpr (.inr z)
theorem iq{ρ:P3}(n:Nat):c5 ρ.b H (ρ.cut n).b H:=fun b o e nb=>⟨e,fun hb=>nb (Eb hb)⟩
mutual
theorem a_.cut{K:W.Frag}{ρ:P3}{n:Nat}:∀{v:V3} {x:V},uR n v=true->a_ K ρ H v x->a_ K (ρ.cut n) H v x
 | .fn y,x,_,h=>by unfold a_ at h ⊢;exact h
 | .d y,x,_,h=>by unfold a_ at h ⊢;exact h.aY (iq n)
 | .loc k,x,o,h=>by
   unfold a_ at h ⊢;unfold uR at o;obtain⟨a,h1,h2⟩:=h;exact⟨a,by show(ρ.r.take n)[k]? =_;rw [List.getElem?_take_of_lt (of_decide_eq_true o)];exact h1,h2⟩
 | .lst vs,x,o,h=>by
   unfold a_ at h ⊢;unfold uR at o;obtain⟨a,xs,e,l,r⟩:=h;exact⟨a,xs,e,l.aY (iq n),aC.cut o r⟩
 | .tup vs,x,o,h=>by
   unfold a_ at h ⊢;unfold uR at o;obtain⟨a,xs,e,l,r⟩:=h;exact⟨a,xs,e,sf.aY (iq n) l,aC.cut o r⟩
theorem aC.cut{K:W.Frag}{ρ:P3}{n:Nat}:∀{vs:List V3} {xs:List V},nM n vs=true->aC K ρ H vs xs->aC K (ρ.cut n) H vs xs
 | [],_,_,h=>by unfold aC at h ⊢;exact h
 | v ::vs,xs,o,h=>by
   unfold nM at o;obtain⟨o1,o2⟩:=Bool.and_eq_true_iff.mp o;obtain⟨x,r,rfl,h1,h2⟩:=h.bM;exact aC.cons (a_.cut o1 h1) (aC.cut o2 h2)
end
theorem SW.cut{K:W.Frag}{cl:Ru}{ρ:P3}{S:bc}(w:SW K cl ρ H S){n:Nat}(ok:(S.take n).all (wI n)=true):SW K cl (ρ.cut n) H (S.take n):=
 ⟨by show(ρ.r.take n).length=_;rw [List.length_take,List.length_take,w.len],fun i j a hi hj=>by
   have hi:(ρ.r.take n)[i]? =some a:=hi;have hj:(ρ.r.take n)[j]? =some a:=hj;have gi:ρ.r[i]? =some a:=by
    rw[List.getElem?_take] at hi;split at hi
    .exact hi
    .cases hi
   have gj:ρ.r[j]? =some a:=by
    rw[List.getElem?_take] at hj;split at hj
    .exact hj
    .cases hj
   exact w.nd i j a gi gj,fun k a o hk ho=>by
   have hk:(ρ.r.take n)[k]? =some a:=hk;have gk:ρ.r[k]? =some a:=by
    rw[List.getElem?_take] at hk;split at hk
    .exact hk
    .cases hk
   have go:S[k]? =some o:=by
    rw[List.getElem?_take] at ho;split at ho
    .exact ho
    .cases ho
   have r:=w.ob k a o gk go;have oo:wI n o=true:=List.all_eq_true.mp ok o (List.mem_of_getElem? ho);cases o with
   | lst ds=>obtain⟨xs,e,q⟩:=r;exact⟨xs,e,q.aY (iq n)⟩
   | dct aP=>obtain⟨ys,e,e2,q⟩:=r;exact⟨ys,e,e2,q.aY (iq n)⟩
   | ins c fs=>obtain⟨dx,ys,e,e2,q⟩:=r;exact⟨dx,ys,e,e2,q.cut oo⟩
   | exc c=>exact r
   | jk=>exact r,fun b hb=>let⟨h1,h2⟩:=w.zb b hb;⟨h1,fun h=>h2 (List.mem_of_mem_take h)⟩,(fun k a hk ho=>by
   have hk:(ρ.r.take n)[k]? =some a:=hk;rw[List.getElem?_take] at hk;split at hk
   .rename_i hlt;rw[List.getElem?_take_of_lt hlt] at ho;exact w.fz k a hk ho
   .cases hk),w.ff,(fun k a hk ho=>by
   have hk:(ρ.r.take n)[k]? =some a:=hk;rw[List.getElem?_take] at hk;split at hk
   .rename_i hlt;rw[List.getElem?_take_of_lt hlt] at ho;exact w.fi k a hk ho
   .cases hk)⟩
theorem SW.GZ{K:W.Frag}{cl:Ru}{ρ cG:P3}{n:Nat}(hn:ρ.r.length<=n)(p:Pre ρ H cG H'):Pre ρ H (cG.cut n) H':=
 ⟨p.aY.trans (iq n),p.zz,p.zs,fun k a h=>by show(cG.r.take n)[k]? =_;rw [List.getElem?_take_of_lt (Nat.lt_of_lt_of_le (List.getElem?_eq_some_iff.mp h).1 hn)];exact p.ext k a h⟩
section
variable {X:Cx} {cl:Ru}
def dm(S:bc)(k:Nat):Option (List D):=match S[k]? with | some (.lst ds)=>some ds | _=>none
theorem jP{S:bc}{k:Nat}{ds:List D}(h:dm S k=some ds):S[k]? =some (.lst ds):=by
 unfold dm at h;split at h
 .rename_i e;cases h;exact e
 .cases h
def iM(δ:DE)(i:Nat):Option Nat:=match δ[i]? with | some (some (.loc k))=>some k | _=>none
theorem me{δ:DE}{i k:Nat}(h:iM δ i=some k):δ[i]? =some (some (.loc k)):=by
 unfold iM at h;split at h
 .rename_i e;cases h;exact e
 .cases h
def nG(i:Nat)(f:FX):FZ:=fun δ S=>match iM δ i with
 | none=> .no
 | some k=>match dm S k with
   | none=> .no
   | some _=>(f δ S).bind fun v S1=>match v with
     | .d d=>(match dm S1 k with | some ds=>R3.aU (decide (ds.length < sizeLine)) (.ok (.nx δ) (S1.set k (.lst (ds++[d])))) | none=> .no)
     | _=> .no
theorem lg{i:Nat}{x:Str}{e:Expr}{f:FX}{fG apos b_ pos:Pos}(hN:X.N[i]? =some x)(hv:Cz X.env.scope x)(he:PX X cl e f)
 (hd:(x==("__debug__":Str))=false:=by decide) (pb:(x==("__classdict__":Str))=false:=by decide)
 (hs:starEach [e] X.env=(false,eval e X.env) ::starEach [] X.env:=by rfl) (ll:(apos.endLine==b_.line)=true:=by rfl)
 (qJ:((backTo b_ (starEach [e] X.env)).all (fun x=>!x.1) && (backToKw b_ (keywordEach [] X.env)).all (fun x=>x.1.isSome)
   && decide (([e]:List Expr).length+([]:List Keyword).length+(if([]:List Keyword).isEmpty then 0 else 1) < 30))=true:=by rfl)
 (vC:swapsWith (.Call (.Attribute (.Name x fG) "append" apos) [e] [] b_) none pos.line X.env=pure false:=by rfl)
 (lj:attributeBase (.Name x fG) "append" X.env (eval (.Name x fG) X.env)=eval (.Name x fG) X.env:=by rfl) :
 PZ X cl (.Expr (.Call (.Attribute (.Name x fG) "append" apos) [e] [] b_) pos) (nG i f):=by
 refine⟨(tG (Aq (X:=X) PySem.F.plainAttrs_list PySem.F.slot_list_append PySem.F.type_list_append nC (qh hN hv hd pb) (dM he.1 gK hs) lj qJ ll hs) vC).imp fun D σ H ⟨ρ,S,δ,o,S',E,hf,q⟩=>?_⟩
 unfold nG at hf;split at hf
 .cases hf
 .rename_i k hk;split at hf
  .cases hf
  .rename_i ds0 h0;obtain⟨v,S1,h1,h2⟩:=R3.ai hf;split at h2
   .rename_i d;split at h2
    .rename_i ds h3;obtain⟨hl,h4⟩:=R3.aT h2;cases h4;obtain⟨u,u1,u2⟩:=E.val i _ (me hk);unfold a_ at u2;obtain⟨a,a1,rfl⟩:=u2;obtain⟨Qv,x0,_⟩:=E.sw.ob k a _ a1 (jP h0);refine⟨.ref a,u1, .inl ⟨rfl,Qv,mG.of x0⟩,⟨ρ,S,δ, .d d,S1,E,h1,fun y c_ H1 p1 w1 r1=>?_⟩⟩
     have b1:=p1.ext k a a1;obtain⟨xs,x1,x2⟩:=w1.ob k a _ b1 (jP h3);refine⟨a,xs,y,rfl,rfl,x1,by rw[<-x2.length];exact of_decide_eq_true hl,?_⟩
     unfold a_ at r1;obtain⟨w2,p2⟩:=w1.put (o:= .lst (ds++[d])) (u:= .lst (xs++[y])) b1 (w1.fz k a b1 (by rw[jP h3];intro h;cases h)) ⟨xs++[y],rfl,x2.append (aw.cons r1 aw.nil)⟩
     exact q σ c_ _ (p1.trans p2) (E.to (p1.trans p2) w2)
    .cases h2
   .cases h2
def OZ(fo fi fe:FX):FZ:=fun δ S=>(fe δ S).bind fun v S1=>(fo δ S1).bind fun o S2=>(fi δ S2).bind fun j S3=>match v,o,j with
 | .d d, .loc k, .d (.int n)=>(match dm S3 k with
   | some ds=>(match zI ds.length n with | some m=> .ok (.nx δ) (S3.set k (.lst (ds.set m d))) | none=> .no)
   | none=> .no)
 | _,_,_=> .no
def A2(K:W.Frag)(cl:Ru)(n:Nat)(g:List V3->bc->R3 V3):Sp:=fun vs H Q _=>vs.length=n/\∃ρ S xs v S',SW K cl ρ H S/\aC K ρ H xs vs/\g xs S= .ok v S'/\∀u cG H',Pre ρ H cG H'->SW K cl cG H' S'->a_ K cG H' v u->Q u H'
def jm(g:List V3->bc->R3 V3)(fs:FA):FX:=fun δ S=>(fs δ S).bind g
def cR(P:Program)(w:World)(K:W.Frag)(mg:Rt)(base:Heap)(cl:Ru)(k:Nat)(x:Str)(n:Nat)(g:List V3->bc->R3 V3):Prop:=
 ∃(f:Addr) (fd:FuncData) (ps:List Str),gR P w K mg base q8 k f fd ps (A2 K cl n g)/\mg x=some (.ref f)/\PySem.W.keepIn K (.ref f)=true/\Binds K fd ps []
theorem fm{g:List V3->bc->R3 V3}{k j n:Nat}{x:Str}{p pos:Pos}{e:Expr}{es:List Expr}{fs:FA}(C:cR X.prog X.w X.K X.mg X.base cl k x n g)(hr:dR j X.A)(Cq:k<=j)(hg:Gl X x)(ha:E5 X cl (e ::es) fs)
 (hn:∀δ S ds S',fs δ S= .ok ds S'->ds.length=n) (oA:(x==("__debug__":Str))=false:=by decide) (he:starEach (e ::es) X.env=(false,eval e X.env) ::starEach es X.env:=by rfl) (kx:(backTo pos (starEach es X.env)).any (·.1)=false:=by rfl) :
 PX X cl (.Call (.Name x p) (e ::es) [] pos) (jm g fs):=by
 obtain⟨f,fd,ps,F,hm,hk,hb⟩:=C;refine⟨(tq F (hr.mono Cq) hg hm hk hb .nil ui ha.1 oA he kx).imp fun σ H Q ⟨ρ,S,δ,v,S',E,hf,q⟩=>?_⟩
 obtain⟨vs,S1,h1,h2⟩:=R3.ai hf;refine⟨ρ,S,δ,vs,S1,E,h1,fun us c_ H1 p1 w1 r1=>?_⟩
 show A2 X.K cl n g (us++[]) H1 Q E0;rw[List.append_nil];exact⟨by rw[<-r1.length];exact hn δ S vs S1 h1,c_,S1,vs,v,S',w1,r1,h2,fun z t_ H2 p2 w2 r2=>q z t_ H2 (p1.trans p2) w2 r2⟩
end
def dr(N:List Str)(vs:List V3):DE:=vs.map some++List.replicate (N.length - vs.length) none
theorem B_{K:W.Frag}{cl:Ru}{S:bc}{N:List Str}{ds:List V3}{vs:List V}(w:SW K cl ρ H S)(r:aC K ρ H ds vs):eO K cl ρ H S (L2.start N vs) (dr N ds) where
 len:=by unfold L2.start dr;simp [r.length]
 sw:=w
 val:=fun i d e=>by
  unfold dr at e;unfold L2.start;by_cases hi:i < ds.length
  .rw [List.getElem?_append_left (by simpa using hi),List.getElem?_map] at e
   cases q:ds[i]? with
   | none=>rw [q] at e;cases e
   | some d'=>
     rw[q] at e;cases e;obtain⟨x,h1,h2⟩:=r.get q;exact⟨x,by rw[List.getElem?_append_left (by rw[List.length_map,<-r.length];exact hi),List.getElem?_map,h1];rfl,h2⟩
  .rw [List.getElem?_append_right (by simpa using hi),List.getElem?_replicate] at e
   split at e <;> cases e
def qC(N:List Str)(F:FZ):List V3->bc->R3 V3:=fun vs S=>(F (dr N vs) S).bind fun o S'=>match o with | .rt v=> .ok v S' | .nx _=> .ok (.d .cz) S'
def rF(N:List Str)(F:FZ):List V3->bc->R3 V3:=fun vs S=>(qC N F vs S).bind fun v S'=>match res S' v with
 | some d=>R3.aU ((S'.take S.length).all (wI S.length) && iW S.length v) (.ok (.d d) (S'.take S.length))
 | none=> .no
theorem CU{P:Program}{w:World}{K:W.Frag}{mg:Rt}{base:Heap}{cl:Ru}{x qual:Str}{st:Stmt}{f:Addr}{fd:FuncData}{N ps:List Str}{k:Nat}{F:FZ}(Fn:yh K x qual st f fd)(S:aX N ps (av st))
 (jL:∀(dC:Value) (A:Around) (outer:List Env) (s:Shared) (H:Hp) (E:XK),dR k (A.deeper (envOfC qual (av st) s.heap.objs.size f dC))->
   Bw (pI q8 P w K mg base N qual (av st) f dC A outer s H E).Es cl (aM st) F):gR P w K mg base q8 (k+1) f fd ps (A2 K cl ps.length (qC N F)):=by
 refine Fn.ok S (fun vs H Q E h=>h.1) (fun dC A outer s H vs Q E hr h=>⟨_,(jL dC A outer s H E hr).1,?_⟩)
 obtain⟨_,ρ,S,ds,v,S',w,r,hg,q⟩:=h;obtain⟨o,S1,h1,h2⟩:=R3.ai hg;refine⟨ρ,S,dr N ds,o,S1,B_ w r,h1,?_⟩;cases o with
 | nx dH=>
   cases h2;exact fun cX cG H' p' E'=>q _ cG H' p' E'.sw (by unfold a_ Rep;rfl)
 | rt d'=>
   cases h2;exact fun u cG H' p' w' r'=>q u cG H' p' w' r'
theorem vM{K:W.Frag}{cl:Ru}{N:List Str}{n:Nat}{vs:List V}{Q:VK}{E:XK}(h:A2 K cl n (rF N F) vs H Q E):A2 K cl n (qC N F) vs H Q E:=by
 obtain⟨hl,ρ,S,xs,v,S',w,r,hg,q⟩:=h;obtain⟨v1,S1,h1,h2⟩:=R3.ai hg;refine⟨hl,ρ,S,xs,v1,S1,w,r,h1,fun u c_ H1 p1 w1 r1=>?_⟩
 have pc:Pre ρ H (c_.cut S.length) H1:=SW.GZ (K:=K) (cl:=cl) (by rw[w.len];exact Nat.le_refl _) p1
 split at h2
 .rename_i d e;obtain⟨ok,h3⟩:=R3.aT h2;obtain⟨ok,hk⟩:=Bool.and_eq_true_iff.mp ok;cases h3;refine q u _ H1 pc (w1.cut ok) ?_;unfold a_;refine r1.resB w1 (iq _) (fun k a hk a1 ha=>?_) hk e
  rcases P3.dn.mp ha with⟨z,_⟩ | z
  .obtain⟨j,hj⟩:=List.getElem?_of_mem z;have hj:(c_.r.take S.length)[j]? =some a:=hj;rw[List.getElem?_take] at hj;split at hj
   .rename_i hjl;have:=w1.nd j k a hj a1;omega
   .cases hj
  .exact(w1.zb a z).2 (List.mem_of_getElem? a1)
 .cases h2
end L3
end
section
namespace L3
open PySem PySem.Spec PyProof.Rows L2
section
variable {X:Cx} {cl:Ru}
def kX(δ:DE)(i:Nat):Option V3:=match δ[i]? with | some (some v)=>some v | _=>none
def lT(own:List Str)(kp:List Nat)(δ:DE):DE:=List.replicate own.length none++kp.map (kX δ)
theorem DV{K:W.Frag}{S S':bc}{σ:L2.St}{δ:DE}{own:List Str}{kp:List Nat}(E:eO K cl ρ H S σ δ)(p:PW ρ H cG H')(w:SW K cl cG H' S'):eO K cl cG H' S' (cZ own kp σ) (lT own kp δ) where
 len:=by unfold cZ lT;simp
 sw:=w
 val:=fun i d e=>by
  unfold lT at e;unfold cZ;by_cases hi:i < own.length
  .rw [List.getElem?_append_left (by simpa using hi),List.getElem?_replicate] at e
   split at e <;> cases e
  .rw [List.getElem?_append_right (by simpa using hi),List.length_replicate,List.getElem?_map] at e ⊢
   cases q:kp[i - own.length]? with
   | none=>rw [q] at e;cases e
   | some j=>
     rw[q] at e;have e:kX δ j=some d:=Option.some.inj e;unfold kX at e;split at e
     .rename_i d' ed;cases e;obtain⟨v,h1,h2⟩:=E.val j d ed;exact⟨v,by simp [h1],h2.pw p⟩
     .cases e
def kT(t:FG)(c:FB)(f:FX)(δ:DE):List V3->bc->R3 (List V3)
 | [],S=> .ok [] S
 | v ::vs,S=>match t v δ with
   | none=> .no
   | some cY=>(c cY S).bind fun b S1=>if b then(f cY S1).bind fun y S2=>(kT t c f δ vs S2).bind fun ys S3=> .ok (y ::ys) S3 else kT t c f δ vs S1
def lX(it:FA)(t:FG)(c:FB)(f:FX)(own:List Str)(kp:List Nat):FX:=fun δ S=>(it δ S).bind fun vs S1=>R3.aU (decide (vs.length<=sizeLine)) ((kT t c f (lT own kp δ) vs S1).bind fun ys S2=> .ok (rY ys) S2)
theorem aC.append{K:W.Frag}:∀{ds es:List V3} {xs ys:List V},aC K ρ H ds xs->aC K ρ H es ys->aC K ρ H (ds++es) (xs++ys)
 | [],_,_,_,h,t=>by unfold aC at h;subst h;exact t
 | d ::ds,es,xs,ys,h,t=>by
   obtain⟨x,r,rfl,h1,h2⟩:=h.bM;exact aC.cons h1 (aC.append h2 t)
theorem x_{K:W.Frag}{own:List Str}{kp:List Nat}{σ:L2.St}{Q:VK}(h:tX K cl (lX it t c f own kp) σ H Q) :
 xt (Ni K cl it) (gX K cl t) (Gz K cl c) (tX K cl f) own kp σ H Q:=by
 obtain⟨ρ,S,δ,v,SF,E,hf,q⟩:=h;obtain⟨es,S1,h1,h2⟩:=R3.ai hf;obtain⟨hl,h3⟩:=R3.aT h2;have hl:=of_decide_eq_true hl;obtain⟨vs,S2,h4,h5⟩:=R3.ai h3;cases h5;refine⟨ρ,S,δ,es,S1,E,h1,fun J c_ H1 p1 w1 ir Dd hD=>?_⟩
 have nDz:Dd ∉ c_.b:=fun hb=>by obtain⟨o,ho⟩:=w1.bs Dd hb;rw [hD] at ho;cases ho
 have nDr:Dd ∉ c_.r:=fun hb=>by obtain⟨o,ho⟩:=w1.rs Dd hb;rw [hD] at ho;cases ho
 have toZ:∀{r' f':List Addr} {H':Hp},Pre c_ H1 ⟨r',c_.z,f'⟩ H'->PW c_ H1 ⟨r',Dd ::c_.z,f'⟩ H':=fun {r' f' H'} p=>⟨fun b o e nb=>⟨(p.aY b o e nb).1,fun hb=>by
  rcases P3.dn.mp hb with z | z
  .exact(p.aY b o e nb).2 (P3.dn.mpr (.inl z))
  .rcases List.mem_cons.mp z with y | y
   .exact cg e hD y
   .exact(p.aY b o e nb).2 (P3.dn.mpr (.inr y))⟩,p.ext⟩
 have w0:SW K cl ⟨c_.r,Dd ::c_.z,c_.f⟩ (upd H1 Dd (.lst [])) S1:=by
  have s0:aK H1 (upd H1 Dd (.lst [])):=aW hD;have ws:=w1.same s0;refine⟨ws.len,ws.nd,fun k a o hk ho=>?_,fun b hb=>?_,ws.fz,ws.ff,ws.fi⟩
  .have r:=w1.ob k a o hk ho;obtain⟨u,hu⟩:=r.some;rw[s0 a u hu,<-hu];exact r.pw (toZ (Pre.same s0))
  .rcases List.mem_cons.mp hb with y | y
   .subst y;exact⟨⟨_,aV⟩,nDr⟩
   .exact ws.zb b y
 refine⟨fun i m ys H'=>m=es.length - i/\i<=es.length/\ys.length<=i/\H' Dd=some (.lst ys)/\∃r' f' S' done rest,Pre c_ H1 ⟨r',c_.z,f'⟩ H'/\SW K cl ⟨r',Dd ::c_.z,f'⟩ H' S'/\vs=done++rest/\aC K ⟨r',Dd ::c_.z,f'⟩ H' done ys/\kT t c f (lT own kp δ) (es.drop i) S'= .ok rest SF,
  ⟨es.length,rfl,Nat.zero_le _,Nat.le_refl _,aV,c_.r,c_.f,S1,[],vs,Pre.same (aW hD),w0,rfl,aC.nil,by simpa using h4⟩,?_⟩
 rintro i m ys H' ⟨rfl,hi,hy,hDl,r',f',S',done,rest,pv,w',rfl,rd,hc⟩;obtain⟨go,stop⟩:=ir ⟨r',Dd ::c_.z,f'⟩ H' (toZ pv) w'.bs;have unZ:∀{Fm:P3} {H4:Hp},Pre ⟨r',Dd ::c_.z,f'⟩ H' Fm H4->Pre c_ H1 ⟨Fm.r,c_.z,Fm.f⟩ H4:=fun {Fm H4} p4=>⟨fun b o e nb=>by
  obtain⟨e1,n1⟩:=(toZ pv).aY b o e nb;obtain⟨kl,n2⟩:=p4.aY b o e1 n1;refine⟨kl,fun hb=>n2 ?_⟩
  rcases P3.dn.mp hb with z | z
  .exact P3.dn.mpr (.inl z)
  .exact P3.dn.mpr (.inr (by rw[p4.zz];exact List.mem_cons_of_mem _ z)),rfl,fun b o hb h=>p4.zs b o (List.mem_cons_of_mem _ hb) (pv.zs b o hb h),fun k a h=>p4.ext k a (pv.ext k a h)⟩
 by_cases hlt:i < es.length
 .have hd:es[i]? =some es[i]:=List.getElem?_eq_getElem hlt;have hdrop:es.drop i=es[i] ::es.drop (i+1):=List.drop_eq_getElem_cons hlt;rw[hdrop] at hc;unfold kT at hc;split at hc
  .cases hc
  .rename_i cY h6;obtain⟨b,T1,h7,h8⟩:=R3.ai hc;obtain⟨g1,g2⟩:=go i _ hd;refine .inr ⟨g1,fun x H2 y=>?_⟩
   obtain⟨sy,ry⟩:=g2 x H2 y;have Ec:eO K cl ⟨r',Dd ::c_.z,f'⟩ H2 S' (cZ own kp σ) (lT own kp δ):=DV E (p1.pw.trans ((toZ pv).trans (Pre.same sy).pw)) (w'.same sy);refine⟨⟨r',Dd ::c_.z,f'⟩,S',lT own kp δ,es[i],cY,Ec,ry,h6,fun Ew H3 s3 E3=>⟨⟨r',Dd ::c_.z,f'⟩,S',cY,b,T1,E3,h7,fun Fm H4 p4 w4=>?_⟩⟩
   have JM:Pre ⟨r',Dd ::c_.z,f'⟩ H' Fm H4:=(Pre.same (sy.trans s3)).trans p4;cases b with
   | true=>
     rw[if_pos rfl] at h8;refine CS ?_;obtain⟨yv,T2,h9,LX⟩:=R3.ai h8;obtain⟨rs,T3,LL,Qg⟩:=R3.ai LX;cases Qg;refine⟨Fm,T1,cY,yv,T2,E3.to p4 w4,h9,fun v5 Nr H5 p5 w5 r5=>?_⟩
     have pv5:Pre ⟨r',Dd ::c_.z,f'⟩ H' Nr H5:=JM.trans p5;have L6:H5 Dd=some (.lst ys):=pv5.zs Dd _ List.mem_cons_self hDl;have u5:=unZ pv5;obtain⟨Ko,z5,f5⟩:=Nr;have ez:z5=Dd ::c_.z:=pv5.zz;subst ez;have nr:Dd ∉ Ko:=(w5.zb Dd List.mem_cons_self).2;have pw:PW ⟨Ko,Dd ::c_.z,f5⟩ H5 ⟨Ko,Dd ::c_.z,f5⟩ (upd H5 Dd (.lst (ys++[v5]))):=⟨fun b o e nb=>⟨by rw[aS (fun(z:b=Dd)=>nb (by rw[z];exact P3.dn.mpr (.inr List.mem_cons_self)))];exact e,nb⟩,fun _ _ h=>h⟩
     refine⟨L6,by omega,es.length - (i+1),by omega,rfl,hlt,by rw[List.length_append,List.length_singleton];omega,aV,Ko,f5,T2,done++[yv],rs,?_,?_,by simp,aC.append ((rd.pre pv5).pw pw) (aC.cons (r5.pw pw) aC.nil),LL⟩
     .refine⟨fun b o e nb=>⟨by rw[aS (cg e hD)];exact(u5.aY b o e nb).1,(u5.aY b o e nb).2⟩,rfl,fun b o hb h=>?_,u5.ext⟩
      rw[aS (cg h hD)];exact u5.zs b o hb h
     .refine⟨w5.len,w5.nd,fun k a o hk ho=>?_,fun b hb=>?_,w5.fz,fun b hb=>?_,w5.fi⟩
      .have ne:a≠Dd:=fun z=>nr (by rw[<-z];exact List.mem_of_getElem? hk)
       rw[aS ne];exact(w5.ob k a o hk ho).pw pw
      .obtain⟨⟨o,ho⟩,n⟩:=w5.zb b hb;refine⟨?_,n⟩;by_cases z:b=Dd
       .subst z;exact⟨_,aV⟩
       .rw [aS z];exact⟨o,ho⟩
      .obtain⟨o,ho⟩:=w5.ff b hb;by_cases z:b=Dd
       .subst z;exact⟨_,aV⟩
       .rw [aS z];exact⟨o,ho⟩
   | false=>
     rw[if_neg (by decide)] at h8
     refine Dz ?_;have Qr:H4 Dd=some (.lst ys):=JM.zs Dd _ List.mem_cons_self hDl;have u4:=unZ JM;obtain⟨P0,z4,f4⟩:=Fm;have ez:z4=Dd ::c_.z:=JM.zz;subst ez;exact⟨es.length - (i+1),by omega,rfl,hlt,by omega,Qr,P0,f4,T1,done,rest,u4,w4,rfl,rd.pre JM,h8⟩
 .have e:i=es.length:=by omega
  subst e;rw[List.drop_length] at hc;cases hc;rw[List.append_nil] at q;refine .inl ⟨stop,?_⟩;have back:PW ⟨r',Dd ::c_.z,f'⟩ H' ⟨r',c_.z,f'⟩ H':=⟨fun b o e nb=>⟨e,fun hb=>nb (by
   rcases P3.dn.mp hb with z | z
   .exact P3.dn.mpr (.inl z)
   .exact P3.dn.mpr (.inr (List.mem_cons_of_mem _ z)))⟩,fun _ _ h=>h⟩
  have wB:SW K cl ⟨r',c_.z,f'⟩ H' _:=⟨w'.len,w'.nd,fun k a o hk ho=>(w'.ob k a o hk ho).pw back,fun b hb=>w'.zb b (List.mem_cons_of_mem _ hb),w'.fz,w'.ff,w'.fi⟩
  refine q _ ⟨r',c_.z,f'⟩ H' (p1.trans pv) wB (yz (.inl ⟨fun hb=>?_, .inl hDl⟩) (rd.pw back))
  rcases P3.dn.mp hb with z | z
  .exact(w'.zb Dd List.mem_cons_self).2 z.1
  .exact nDz (P3.dn.mpr (.inr z))
end
end L3
end
section
namespace L3
open PySem PySem.Spec PyProof.Rows L2
section
variable {X:Cx} {cl:Ru}
theorem ya{scope:Scope}{own:List Str}{kp:List Nat}{kn:List Str}{tg iter elt:Expr}{ifs:List Expr}{it:FA}{t:FG}{c:FB}{f:FX}{pos:Pos}(hc:X.calm=true)(C:bt X scope own kp kn)(hi:Jz X cl tg iter it)
 (hg:∀fp s H,HB (bg X scope (own++kn) fp s H) cl tg t) (xc:∀fp s H,mN (bg X scope (own++kn) fp s H) ifs (Gz X.K cl c)) (he:∀fp s H,PX (bg X scope (own++kn) fp s H) cl elt f)
 (hs:∀x,foldedSetIterable iter X.env x=pure x:=by intro _;rfl):PX X cl (.ListComp elt [⟨tg,iter,ifs,0⟩] scope pos) (lX it t c f own kp):=
 ⟨(xQ hc C hi.1 (fun fp s H=>(hg fp s H).1) xc (fun fp s H=>(he fp s H).1) hs).imp fun σ H Q h=>x_ h⟩
def Bj:FB:=fun _ S=> .ok true S
theorem nF:mN X [] (Gz X.K cl Bj):=fun pins s σ H Q I ⟨ρ,S,δ,b,S',E,hf,q⟩=>u7 pins s σ H Q I (by cases hf;exact q ρ H (Pre.refl ρ H) E.sw)
theorem um(h:HD X cl e c):mN X [e] (Gz X.K cl c):=uu h.1
theorem Gu{K:W.Frag}{i:Nat}{D:Ends}{σ:L2.St}(h:sX K cl (dW i f) D σ H):Bz (tX K cl f) (qf i) D σ H:=by
 obtain⟨ρ,S,δ,o,S',E,hf,q⟩:=h;obtain⟨v,S1,h1,h2⟩:=R3.ai hf;obtain⟨hi,h3⟩:=R3.aT h2;cases h3;refine⟨ρ,S,δ,v,_,E,h1,fun u c_ H1 p1 w1 r1=>?_⟩
 exact q _ c_ H1 p1 ((E.to p1 w1).set (by rw[<-E.len];exact of_decide_eq_true hi) r1)
theorem mj{i:Nat}{x:Str}{pos' qH:Pos}{scope:Scope}{own:List Str}{kp:List Nat}{kn:List Str}{tg iter elt:Expr}{ifs:List Expr}{it:FA}{t:FG}{c:FB}{f:FX}{pos:Pos}(hc:X.calm=true)
 (hN:X.N.Nodup) (hx:X.N[i]? =some x) (Ff:X.env.scope.names.lookup x=some .local) (C:bt X scope own kp kn) (hi:Jz X cl tg iter it)
 (hg:∀fp s H,HB (bg X scope (own++kn) fp s H) cl tg t) (xc:∀fp s H,mN (bg X scope (own++kn) fp s H) ifs (Gz X.K cl c)) (he:∀fp s H,PX (bg X scope (own++kn) fp s H) cl elt f)
 (vC:swapsWith (.ListComp elt [⟨tg,iter,ifs,0⟩] scope pos) (some (.Name x pos')) qH.line X.env=pure true:=by rfl)
 (hs:∀x,foldedSetIterable iter X.env x=pure x:=by intro _;rfl):PZ X cl (.Assign [.Name x pos'] (.ListComp elt [⟨tg,iter,ifs,0⟩] scope pos) qH) (dW i (lX it t c f own kp)):=
 ⟨(pQ hc hN hx Ff C hi.1 (fun fp s H=>(hg fp s H).1) xc (fun fp s H=>(he fp s H).1) vC hs).imp fun D σ H h=>x_ (Gu h)⟩
def QE(g:FA):FX:=fun δ S=>(g δ S).bind fun vs S1=>match o8 vs with
 | some ds=>R3.aU (decide (ds.length<=sizeLine)) (.ok (.loc S1.length) (S1++[.lst ds]))
 | none=> .no
end
end L3
end
section
namespace L3
open PySem PySem.Spec PyProof.Rows L2
section
variable {X:Cx} {cl:Ru}
def tL(g:List D->R D)(fs:FA):FX:=fun δ S=>(fs δ S).bind fun vs S1=>match o8 vs with
 | some ds=>(R3.of (g ds) S1).bind fun d S=> .ok (.d d) S
 | none=> .no
def Q2(c:FB)(f g:FX):FX:=fun δ S=>(c δ S).bind fun b S=>if b then f δ S else g δ S
theorem bY:∀(δ:DE) (S:bc) (ds:List V3) (S':bc),gy δ S= .ok ds S'->ds.length=0:=fun δ S ds S' h=>by cases h;rfl
theorem aH{g:FA}{n:Nat}(h:∀(δ:DE) (S:bc) (ds:List V3) (S':bc),g δ S= .ok ds S'->ds.length=n):∀(δ:DE) (S:bc) (ds:List V3) (S':bc),br f g δ S= .ok ds S'->ds.length=n+1:=fun δ S ds S' e=>by
 obtain⟨v,S1,h1,h2⟩:=R3.ai e;obtain⟨vs,S2,h3,h4⟩:=R3.ai h2;cases h4;rw[List.length_cons,h δ S1 vs _ h3]
end
end L3
end
section
namespace L3
open PySem PySem.Spec PyProof.Rows L2
theorem sk{K:W.Frag}{ds:List V3}{xs:List V}{i:Int}{d:V3}(r:aC K ρ H ds xs)(h:qu ds i=some d):∃x,qu xs i=some x/\a_ K ρ H d x:=by
 unfold qu at h ⊢;rw[<-r.length];cases e:zI ds.length i with
 | none=>rw [e] at h;cases h
 | some j=>
   rw[e] at h;exact r.get h
section
variable {X:Cx} {cl:Ru}
def Je(fa fb:FX):FX:=fun δ S=>(fa δ S).bind fun a S1=>(fb δ S1).bind fun b S2=>match a,b with
 | .d x, .d y=>(R3.of (cn x y) S2).bind fun d S=> .ok (.d d) S
 | .lst vs, .d (.int i)=>(match qu vs i with | some v=> .ok v S2 | none=> .no)
 | .tup vs, .d (.int i)=>(match qu vs i with | some v=> .ok v S2 | none=> .no)
 | _,_=> .no
theorem EM(ha:PX X cl a fa)(hb:PX X cl b fb)(hs:pe b):PX X cl (.Subscript a b pos) (Je fa fb):=by
 refine⟨(EZ (r:=KG X.K) Bo ha.1 hb.1 hs).imp fun σ H Q ⟨ρ,S,δ,v,S',E,hf,q⟩=>?_⟩
 obtain⟨v1,S1,h1,h2⟩:=R3.ai hf;obtain⟨v2,S2,h3,h4⟩:=R3.ai h2;refine⟨ρ,S,δ,v1,S1,E,h1,fun u1 c_ H1 p1 w1 r1=>⟨c_,S1,δ,v2,S2,E.to p1 w1,h3,fun u2 t_ H2 p2 w2 r2=>?_⟩⟩
 have so:=r1.pre p2;have J2:=p1.trans p2;split at h4
 .rename_i x y;obtain⟨d,S3,h5,h6⟩:=R3.ai h4;obtain⟨h7,e7⟩:=R3.of_ok h5;cases h6;subst e7;unfold a_ at so r2;unfold cn at h7;split at h7
  .split at h7
   .rename_i e;cases h7;obtain⟨p,xs,rfl,l,rs⟩:=Rep.lst.mp so;obtain⟨y,e1,e2⟩:=mY rs e;exact .inl ⟨p,xs,_,y,rfl,Rep.int.mp r2,l.sq,e1,q y t_ H2 J2 w2 (by unfold a_;exact e2)⟩
   .cases h7
  .split at h7
   .rename_i e;cases h7;obtain⟨p,xs,rfl,l,rs⟩:=Rep.tup.mp so;obtain⟨y,e1,e2⟩:=mY rs e;exact .inr (.inl ⟨p,xs,_,y,rfl,Rep.int.mp r2,l.sq,e1,q y t_ H2 J2 w2 (by unfold a_;exact e2)⟩)
   .cases h7
  .obtain⟨hl,h8⟩:=R.aT h7;split at h8
   .rename_i e;cases h8;exact .inr (.inr ⟨_,_,_,Rep.str.mp so,Rep.int.mp r2,of_decide_eq_true hl,e,q _ t_ H2 J2 w2 (by unfold a_;exact Rep.str.mpr rfl)⟩)
   .cases h8
  .cases h7
 .split at h4
  .rename_i e;cases h4;unfold a_ at so r2;obtain⟨p,xs,rfl,l,rs⟩:=so;obtain⟨y,e1,e2⟩:=sk rs e;exact .inl ⟨p,xs,_,y,rfl,Rep.int.mp r2,l.sq,e1,q y t_ H2 J2 w2 e2⟩
  .cases h4
 .split at h4
  .rename_i e;cases h4;unfold a_ at so r2;obtain⟨p,xs,rfl,l,rs⟩:=so;obtain⟨y,e1,e2⟩:=sk rs e;exact .inr (.inl ⟨p,xs,_,y,rfl,Rep.int.mp r2,l.sq,e1,q y t_ H2 J2 w2 e2⟩)
  .cases h4
 .cases h4
end
end L3
end
section
namespace L3
open PySem PySem.Spec PyProof.Rows L2
section
variable {X:Cx} {cl:Ru}
structure QZ (X:Cx) (cl:Ru) (e:Expr) (f:FB):Prop where
 go:L2.PW X e (Gz X.K cl f)
def N8(f g:FB):FB:=fun δ S=>(f δ S).bind fun b S=>if b then g δ S else .ok false S
def QY(f g:FB):FB:=fun δ S=>(f δ S).bind fun b S=>if b then .ok true S else g δ S
def Oq(f:FB):FB:=fun δ S=>(f δ S).bind fun b S=> .ok (!b) S
def CZ(f:FX):FB:=fun δ S=>(f δ S).bind fun v S=>match v with | .d d=>R3.of (Dw d) S | _=> .no
theorem Ei(ha:PX X cl a f)(ht:∀{t:TE},PE X a t->PT X a (fun σ H Q=>t σ H fun x H'=>∃b,D9 X.K x H' b/\Q b H')):HD X cl a (CZ f):=
 ⟨(ht ha.1).imp fun σ H Q ⟨ρ,S,δ,b,S',E,hf,q⟩=>by
   obtain⟨v,S1,h1,h2⟩:=R3.ai hf;split at h2
   .rename_i d;obtain⟨h3,e3⟩:=R3.of_ok h2;subst e3;exact⟨ρ,S,δ, .d d,_,E,h1,fun u c_ H1 p1 w1 r1=>⟨b,AX (by unfold a_ at r1;exact r1) h3,q c_ H1 p1 w1⟩⟩
   .cases h2⟩
abbrev HP:=DE->bc->R3 (Option Int)
def OT(K:W.Frag)(cl:Ru)(f:HP):TO:=fun σ H Q=>∃ρ S δ o S',eO K cl ρ H S σ δ/\f δ S= .ok o S'/\∀cG H',Pre ρ H cG H'->SW K cl cG H' S'->Q o H'
structure Q3 (X:Cx) (cl:Ru) (e:Option Expr) (f:HP):Prop where
 go:PO X e (OT X.K cl f)
def K_:HP:=fun _ S=> .ok none S
def KP(f:FX):HP:=fun δ S=>(f δ S).bind fun v S=>match v with | .d (.int i)=> .ok (some i) S | _=> .no
def QC(f:FX)(fl fh:HP):FX:=fun δ S=>(f δ S).bind fun v S1=>(fl δ S1).bind fun lo S2=>(fh δ S2).bind fun hi S3=>match v with
 | .d d=>(R3.of (HJ d lo hi) S3).bind fun r S=> .ok (.d r) S
 | _=> .no
end
end L3
end
section
namespace L2
open PySem PySem.Spec PyProof.Rows
section
variable {X:Cx}
def FH(t T:String):Bool:=t==T || (t=="bool" && T=="int")
def O6(T:String)(f:FD):FD:=fun δ=>(f δ).bind fun d=>match d with | .dct _ _=> .no | _=> .ok (.bl (FH (tyName d) T))
def nList(f:FD):ak->R (List D):=fun δ=>(f δ).bind fun d=>match d with | .lst ds=> .ok ds | .tup ds=> .ok ds | _=> .no
end
end L2
namespace L3
open PySem PySem.Spec PyProof.Rows L2
theorem dw{P:Program}{w:World}{K:W.Frag}{mg:Rt}{base:Heap}{cl:Ru}{x qual:Str}{st:Stmt}{f:Addr}{fd:FuncData}{N ps:List Str}{k:Nat}{F:FZ}{b:List Stmt}{sc:Scope}(hb:aM st=b)(hs:av st=sc)(Fn:yh K x qual st f fd)(S:aX N ps sc)
 (jL:∀(dC:Value) (A:Around) (outer:List Env) (s:Shared) (H:Hp) (E:XK),dR k (A.deeper (envOfC qual sc s.heap.objs.size f dC))->
   Bw (pI q8 P w K mg base N qual sc f dC A outer s H E).Es cl b F):gR P w K mg base q8 (k+1) f fd ps (A2 K cl ps.length (qC N F)):=by
 subst hb hs;exact CU Fn S jL
theorem cR.p{K:W.Frag}{mg:Rt}{cl:Ru}{k:Nat}{n:Nat}{N:List Str}(C:cR P w K mg base cl k x n (qC N F)):cR P w K mg base cl k x n (rF N F):=
 let⟨f,fd,ps,F,h⟩:=C;⟨f,fd,ps,F.imp fun _ _ _ _ h=>vM h,h⟩
def J9(N:List Str)(F:FZ):List D->R D:=fun ds=>match rF N F (ds.map .d) [] with
 | .ok (.d d) []=>R.aU d.atom (.ok d)
 | _=> .no
theorem GS{K:W.Frag}{cl:Ru}{N:List Str}{n:Nat}{vs:List V}{Q:VK}{E:XK}(h:B7 K n (J9 N F) vs H Q E):A2 K cl n (qC N F) vs H Q E:=by
 obtain⟨hl,B,ds,d,hb,r,hg,q⟩:=h;unfold J9 at hg;split at hg
 .rename_i d' e;obtain⟨ha,h2⟩:=R.aT hg;cases h2;have r0:aw K (⟨[],[],[]⟩:P3).b H ds vs:=r.aY fun b o e _=>⟨e,by simp [P3.b]⟩
  refine vM ⟨hl,⟨[],[],[]⟩,[],ds.map .d, .d d,[],⟨rfl,fun i j a hi=>by simp at hi,fun k a o hk=>by simp at hk,fun b hb=>by simp at hb,fun k a hk=>by simp at hk,fun b hb=>by simp at hb,fun k a hk=>by simp at hk⟩,aC.of r0,e,fun u cG H' p w' r'=>q u H' (fun b o eb=>?_) ?_⟩
  .exact(p.aY b o eb (by simp [P3.b])).1
  .unfold a_ at r';exact r'.atom ha
 .cases hg
section
variable {X:Cx} {cl:Ru}
theorem Ao{a:Expr}(ha:PX X cl a f)(he:∀whole,isTrue a X.env whole=(do let v <-whole;standAt a.pos;holding [v] (truthy v)):=by intro _;rfl):HD X cl a (CZ f):=Ei ha fun h=>uq h he
theorem vt{g:List D->R D}{k j n:Nat}{x:Str}{p pos:Pos}{e:Expr}{es:List Expr}{fs:FA}(C:Callee X.prog X.w X.K X.mg X.base k x n g)(hr:dR j X.A)(Cq:k<=j)(hg:Gl X x)(ha:E5 X cl (e ::es) fs)
 (hn:∀δ S ds S',fs δ S= .ok ds S'->ds.length=n) (oA:(x==("__debug__":Str))=false:=by decide) (he:starEach (e ::es) X.env=(false,eval e X.env) ::starEach es X.env:=by rfl) (kx:(backTo pos (starEach es X.env)).any (·.1)=false:=by rfl) :
 PX X cl (.Call (.Name x p) (e ::es) [] pos) (tL g fs):=by
 obtain⟨f,fd,ps,F,hm,hk,hb⟩:=C;refine⟨(tq F (hr.mono Cq) hg hm hk hb .nil ui ha.1 oA he kx).imp fun σ H Q ⟨ρ,S,δ,v,S',E,hf,q⟩=>?_⟩
 obtain⟨vs,S1,h1,h2⟩:=R3.ai hf;split at h2
 .rename_i ds e;obtain⟨d,S2,h3,h4⟩:=R3.ai h2;obtain⟨h5,e5⟩:=R3.of_ok h3;cases h4;subst e5;refine⟨ρ,S,δ,vs,_,E,h1,fun us c_ H1 p1 w1 r1=>?_⟩
  have hl:=hn δ S vs _ h1;rw[jF e] at r1;show B7 X.K n g (us++[]) H1 Q E0;rw[List.append_nil];exact⟨by rw[<-r1.length,<-jF e];exact hl,c_.b,ds,d,w1.bs,r1.to,h5,fun z H' s r=>q z c_ H' (p1.trans (Pre.same s)) (w1.same s) (by unfold a_;exact r)⟩
 .cases h2
def Ln(f:FX):FA:=fun δ S=>(f δ S).bind fun v S=>match v with | .d (.tup ds)=> .ok (ds.map .d) S | .tup vs=> .ok vs S | _=> .no
end
end L3
end
section
namespace L3
open PySem PySem.Spec PyProof.Rows L2
def W3{α:Type}(r:R3 α)(Q:α->bc->Prop):Prop:=∃a S,r= .ok a S/\Q a S
section
variable {α β:Type} {Q Q':α->bc->Prop} {S:bc} {δ:DE}
theorem W3.ok{a:α}(h:Q a S):W3 (.ok a S) Q:=⟨a,S,rfl,h⟩
theorem W3.bind{Q:β->bc->Prop}{r:R3 α}{f:α->bc->R3 β}(h:W3 r fun a S=>W3 (f a S) Q):W3 (r.bind f) Q:=by
 obtain⟨a,S1,e1,b,S2,h2,q⟩:=h;exact⟨b,S2,by rw[e1];exact h2,q⟩
theorem W3.mono{r:R3 α}(h:W3 r Q)(m:∀a S,Q a S->Q' a S):W3 r Q':=let⟨a,S,e,q⟩:=h;⟨a,S,e,m a S q⟩
theorem W3.wh{c:Bool}{r:R3 α}(hc:c=true)(h:W3 r Q):W3 (R3.aU c r) Q:=by rw[hc];exact h
theorem W3.of{r:R α}{a:α}(e:r= .ok a)(h:Q a S):W3 (R3.of r S) Q:=by rw[e];exact⟨a,S,rfl,h⟩
end
section
variable {S:bc} {δ:DE} {QV:V3->bc->Prop} {QB:Bool->bc->Prop} {QA:List V3->bc->Prop} {QO:Ou->bc->Prop}
theorem eo{f:FD}{d:D}(e:f (down δ)= .ok d)(h:QV (.d d) S):W3 (xP f δ S) QV:=W3.bind (W3.of e (W3.ok h))
theorem HC{f:FD}{d:D}(e:f (df S δ)= .ok d)(ha:uC d=true)(h:QV (.d d) S):W3 (xT f δ S) QV:=W3.bind (W3.of e (W3.wh ha (W3.ok h)))
theorem wK{f:ak->R Bool}{b:Bool}(e:f (down δ)= .ok b)(h:QB b S):W3 (bP f δ S) QB:=W3.of e h
theorem w_var{i:Nat}{v:V3}(e:δ[i]? =some (some v))(h:QV v S):W3 (iF i δ S) QV:=by unfold iF;rw [e];exact W3.ok h
theorem qb{f:ak->R (List D)}{ds:List D}(e:f (down δ)= .ok ds)(h:QV (.loc S.length) (S++[.lst ds])):W3 (t5 f δ S) QV:=W3.bind (W3.of e (W3.ok h))
theorem eV(h:QA [] S):W3 (gy δ S) QA:=W3.ok h
theorem ba{f:FX}{g:FA}(h:W3 (f δ S) fun v S1=>W3 (g δ S1) fun vs S2=>QA (v ::vs) S2):W3 (br f g δ S) QA:=W3.bind (h.mono fun _ _ h=>W3.bind (h.mono fun _ _ h=>W3.ok h))
theorem EU{g:FA}(h:W3 (g δ S) fun vs S1=>vs.length<=sizeLine/\QV (x9 vs) S1):W3 (D3 g δ S) QV:=W3.bind (h.mono fun _ _ h=>W3.wh (decide_eq_true h.1) (W3.ok h.2))
theorem Nm{g:D->D->R D}{fa fb:FX}(h:W3 (fa δ S) fun a S1=>W3 (fb δ S1) fun b S2=>∃x y d,a= .d x/\b= .d y/\g x y= .ok d/\QV (.d d) S2):W3 (x2 g fa fb δ S) QV:=
 W3.bind (h.mono fun _ _ h=>W3.bind (h.mono fun _ _ ⟨_,_,_,e1,e2,e3,q⟩=>by subst e1 e2;exact W3.bind (W3.of e3 (W3.ok q))))
theorem LF{g:D->D->R D}{fa fb:FX}(h:W3 (fa δ S) fun a S1=>W3 (fb δ S1) fun b S2=>∃x y k,a= .d x/\b= .d y/\g x y= .ok (.bl k)/\QB k S2):W3 (KR g fa fb δ S) QB:=
 W3.bind (Nm (h.mono fun _ _ h=>h.mono fun _ _ ⟨x,y,k,e1,e2,e3,q⟩=>⟨x,y, .bl k,e1,e2,e3,W3.ok q⟩))
theorem Lg{fa fb:FX}(h:W3 (fa δ S) fun a S1=>W3 (fb δ S1) fun b S2=>∃x y d,a= .d x/\b= .d y/\cn x y= .ok d/\QV (.d d) S2):W3 (Je fa fb δ S) QV:=
 W3.bind (h.mono fun _ _ h=>W3.bind (h.mono fun _ _ ⟨_,_,_,e1,e2,e3,q⟩=>by subst e1 e2;exact W3.bind (W3.of e3 (W3.ok q))))
theorem g7{g:List V3->bc->R3 V3}{fs:FA}(h:W3 (fs δ S) fun vs S1=>W3 (g vs S1) QV):W3 (jm g fs δ S) QV:=W3.bind h
theorem xZ{g:List D->R D}{fs:FA}(h:W3 (fs δ S) fun vs S1=>∃ds d,vs=ds.map .d/\g ds= .ok d/\QV (.d d) S1):W3 (tL g fs δ S) QV:=
 W3.bind (h.mono fun _ _ ⟨ds,_,e1,e2,q⟩=>by subst e1;rw [qg];exact W3.bind (W3.of e2 (W3.ok q)))
theorem F9{it:FA}{own:List Str}{kp:List Nat}(h:W3 (it δ S) fun vs S1=>vs.length<=sizeLine/\W3 (kT t c f (lT own kp δ) vs S1) fun ys S2=>QV (rY ys) S2):W3 (lX it t c f own kp δ S) QV:=
 W3.bind (h.mono fun _ _ h=>W3.wh (decide_eq_true h.1) (W3.bind (h.2.mono fun _ _ h=>W3.ok h)))
theorem IU{f:FX}(h:W3 (f δ S) fun v S1=>∃d b,v= .d d/\Dw d= .ok b/\QB b S1):W3 (CZ f δ S) QB:=W3.bind (h.mono fun _ _ ⟨_,_,e,e2,q⟩=>by subst e;exact W3.of e2 q)
theorem bC{F G:FZ}(h:W3 (F δ S) fun o S1=>∃cY,o= .nx cY/\W3 (G cY S1) QO):W3 (cm F G δ S) QO:=W3.bind (h.mono fun _ _ ⟨_,e,h⟩=>by subst e;exact h)
theorem FW{F G:FZ}(h:W3 (F δ S) fun o S1=>∃v,o= .rt v/\QO (.rt v) S1):W3 (cm F G δ S) QO:=W3.bind (h.mono fun _ _ ⟨_,e,h⟩=>by subst e;exact W3.ok h)
theorem cJ{i:Nat}{f:FX}(hi:i < δ.length)(h:W3 (f δ S) fun v S1=>QO (.nx (δ.set i (some v))) S1):W3 (dW i f δ S) QO:=W3.bind (h.mono fun _ _ h=>W3.wh (decide_eq_true hi) (W3.ok h))
theorem il{f:FX}(h:W3 (f δ S) fun v S1=>QO (.rt v) S1):W3 (kq f δ S) QO:=W3.bind (h.mono fun _ _ h=>W3.ok h)
theorem wq{c:FB}{F G:FZ}(h:W3 (c δ S) fun b S1=>if b then W3 (F δ S1) QO else W3 (G δ S1) QO):W3 (E7 c F G δ S) QO:=W3.bind (h.mono fun b _ h=>by cases b <;> exact h)
theorem nJ(h:QO (.nx δ) S):W3 (vc δ S) QO:=W3.ok h
theorem kr{f:ak->R (List D)}{ds:List D}(e:f (down δ)= .ok ds)(h:QA (ds.map .d) S):W3 (iP f δ S) QA:=W3.bind (W3.of e (W3.ok h))
theorem F4{f:FX}(h:W3 (f δ S) fun v S1=>∃n:Nat,v= .d (.int n)/\n < 1000000/\QA ((gH 0 n).map .d) S1):W3 (uN f δ S) QA:=W3.bind (h.mono fun _ _ ⟨n,e,hn,q⟩=>by
 subst e;refine W3.wh (decide_eq_true ⟨by omega,by omega⟩) (W3.ok ?_)
 rw[Int.toNat_natCast];exact q)
theorem iT{it:FA}(h:W3 (it δ S) fun vs S1=>W3 (kZ t F vs δ S1) QO):W3 (lL it t F δ S) QO:=W3.bind h
theorem oS{i k:Nat}{f:FX}(hk:δ[i]? =some (some (.loc k)))(h0:∃ds,S[k]? =some (.lst ds))(h:W3 (f δ S) fun v S1=>∃d ds,v= .d d/\S1[k]? =some (.lst ds)/\ds.length < sizeLine/\QO (.nx δ) (S1.set k (.lst (ds++[d])))):W3 (nG i f δ S) QO:=by
 obtain⟨es,h0⟩:=h0;unfold nG;have e1:iM δ i=some k:=by unfold iM;rw [hk]
 have e2:dm S k=some es:=by unfold dm;simp only[h0]
 rw[e1];show W3 (match dm S k with | none=>_ | some _=>_) _
 rw[e2];refine W3.bind (h.mono fun v S1 ⟨d,ds,e,h1,hl,q⟩=>?_)
 subst e;have e3:dm S1 k=some ds:=by unfold dm;simp only[h1]
 show W3 (match dm S1 k with | some ds=>_ | none=>_) _
 rw[e3];exact W3.wh (decide_eq_true hl) (W3.ok q)
theorem pX{t:FG}{body:FZ}:∀(vs:List V3) (n:Nat) (P:Nat->DE->bc->Prop) {δ:DE} {S:bc},P n δ S->
 (∀i v δ S,vs[i]? =some v->P (n+i) δ S->∃cY,t v δ=some cY/\W3 (body cY S) fun o S1=>∃dj,o= .nx dj/\P (n+i+1) dj S1)->W3 (kZ t body vs δ S) fun o S1=>∃dj,o= .nx dj/\P (n+vs.length) dj S1
 | [],n,P,δ,S,h0,_=>W3.ok ⟨δ,rfl,h0⟩
 | v ::vs,n,P,δ,S,h0,hs=>by
   obtain⟨cY,e1,o,S1,e2,dj,rfl,p2⟩:=hs 0 v δ S rfl h0;have ih:=pX vs (n+1) P p2 (fun i v' dH S' hi hp=>by
    have:=hs (i+1) v' dH S' (by simpa using hi) (by rw[show n+(i+1)=n+1+i by omega];exact hp)
    rw[show n+(i+1)+1=n+1+i+1 by omega] at this
    exact this)
   rw[show n+1+vs.length=n+(v ::vs).length by rw[List.length_cons];omega] at ih
   unfold kZ;rw[e1];refine W3.bind ⟨_,_,e2,?_⟩;exact ih
theorem dG{t:FG}{body:FZ}{vs:List V3}(P:Nat->DE->bc->Prop){δ:DE}{S:bc}(h0:P 0 δ S)
 (hs:∀i v δ S,vs[i]? =some v->P i δ S->∃cY,t v δ=some cY/\W3 (body cY S) fun o S1=>∃dj,o= .nx dj/\P (i+1) dj S1):W3 (kZ t body vs δ S) fun o S1=>∃dj,o= .nx dj/\P vs.length dj S1:=by
 have:=pX (t:=t) (body:=body) vs 0 P h0 (fun i v δ S hi hp=>by simpa using hs i v δ S hi (by simpa using hp))
 simpa using this
theorem qj{t:FG}{c:FB}{f:FX}{δ:DE}:∀(vs:List V3) (n:Nat) (P:Nat->List V3->bc->Prop) {ys:List V3} {S:bc},P n ys S->
 (∀i v ys S,vs[i]? =some v->P (n+i) ys S->∃cY,t v δ=some cY/\W3 (c cY S) fun b S1=>if b then W3 (f cY S1) fun y S2=>P (n+i+1) (ys++[y]) S2 else P (n+i+1) ys S1)->W3 (kT t c f δ vs S) fun zs S1=>P (n+vs.length) (ys++zs) S1
 | [],n,P,ys,S,h0,_=>W3.ok (by rw[List.append_nil];exact h0)
 | v ::vs,n,P,ys,S,h0,hs=>by
   obtain⟨cY,e1,b,S1,e2,h2⟩:=hs 0 v ys S rfl h0;have ih:∀{J0 S'},P (n+1) J0 S'->W3 (kT t c f δ vs S') fun zs S1=>P (n+(v ::vs).length) (J0++zs) S1:=fun {J0 S'} p=>by
    have:=qj (t:=t) (c:=c) (f:=f) (δ:=δ) vs (n+1) P p (fun i v' J0 S' hi hp=>by
     have:=hs (i+1) v' J0 S' (by simpa using hi) (by rw[show n+(i+1)=n+1+i by omega];exact hp)
     rw[show n+(i+1)+1=n+1+i+1 by omega] at this
     exact this)
    rw[show n+1+vs.length=n+(v ::vs).length by rw[List.length_cons];omega] at this
    exact this
   unfold kT;rw[e1];refine W3.bind ⟨b,S1,e2,?_⟩;cases b with
   | true=>
     rw[if_pos rfl] at h2 ⊢;exact W3.bind (h2.mono fun y S2 p=>W3.bind ((ih p).mono fun zs S3 q=>W3.ok (by rw[List.append_assoc] at q;exact q)))
   | false=>rw [if_neg (by decide)] at h2 ⊢;exact ih h2
theorem yS{t:FG}{c:FB}{f:FX}{δ:DE}{vs:List V3}(P:Nat->List V3->bc->Prop){S:bc}(h0:P 0 [] S)
 (hs:∀i v ys S,vs[i]? =some v->P i ys S->∃cY,t v δ=some cY/\W3 (c cY S) fun b S1=>if b then W3 (f cY S1) fun y S2=>P (i+1) (ys++[y]) S2 else P (i+1) ys S1):W3 (kT t c f δ vs S) fun zs S1=>P vs.length zs S1:=by
 have:=qj (t:=t) (c:=c) (f:=f) (δ:=δ) vs 0 P h0 (fun i v ys S hi hp=>by simpa using hs i v ys S hi (by simpa using hp))
 simpa using this
theorem zP{QB:Bool->bc->Prop}(h:QB true S):W3 (Bj δ S) QB:=W3.ok h
theorem AY{N:List Str}{F:FZ}{vs:List V3}{δ:DE}(e:dr N vs=δ)(h:W3 (F δ S) fun o S1=>∃v,o= .rt v/\QV v S1):W3 (qC N F vs S) QV:=by
 subst e;exact W3.bind (h.mono fun _ _ ⟨_,e,q⟩=>by subst e;exact W3.ok q)
def MJ(S:bc):Prop:=∀o∈S,∃ds,o=SO.lst ds
end
section
variable {S:bc} {δ:DE} {QV:V3->bc->Prop}
theorem mS{it:FA}{t:FG}{c:FB}{f:FX}{own:List Str}{kp:List Nat}(P:Nat->List D->bc->Prop)(h:W3 (it δ S) fun vs S1=>vs.length<=sizeLine/\P 0 [] S1/\
 (∀i v ds S2,vs[i]? =some v->P i ds S2->∃cY,t v (lT own kp δ)=some cY/\W3 (c cY S2) fun b S3=>if b then W3 (f cY S3) fun y S4=>∃d,y= .d d/\P (i+1) (ds++[d]) S4 else P (i+1) ds S3)/\
 ∀ds S2,P vs.length ds S2->QV (.d (.lst ds)) S2):W3 (lX it t c f own kp δ S) QV:=by
 refine F9 (h.mono fun vs S1 ⟨hl,h0,hs,hq⟩=>⟨hl,?_⟩)
 refine(yS (fun i ys S=>∃ds,ys=ds.map V3.d/\P i ds S) ⟨[],rfl,h0⟩ ?_).mono fun zs S2 ⟨ds,e,p⟩=>?_
 .rintro i v ys S2 hv ⟨ds,rfl,p⟩;obtain⟨cY,e1,h1⟩:=hs i v ds S2 hv p;refine⟨cY,e1,h1.mono fun b S3 h3=>?_⟩
  cases b with
  | true=>
    rw[if_pos rfl] at h3 ⊢;exact h3.mono fun y S4 ⟨d,e,p⟩=>by subst e;exact⟨ds++[d],by simp,p⟩
  | false=>rw [if_neg (by decide)] at h3 ⊢;exact⟨ds,rfl,h3⟩
 .subst e;unfold rY;rw[qg];exact hq ds S2 p
structure i0 (n:Nat) (d:D):Prop where
 pl:dI d=true
 ly:(toPy d).canLay0=true
 dp:(toPy d).depth<=n
theorem i0.int(i:Int):i0 0 (.int i):=⟨by unfold dI;rfl,by unfold toPy PyData.canLay0;rfl,by unfold toPy PyData.depth;omega⟩
theorem i0.str(h:(PyData.str s).canLay0=true):i0 0 (.str s):=⟨by unfold dI;rfl,by unfold toPy;exact h,by unfold toPy PyData.depth;omega⟩
theorem i0.mono{n m:Nat}{d:D}(h:i0 n d)(hm:n<=m):i0 m d:=⟨h.pl,h.ly,Nat.le_trans h.dp hm⟩
theorem i0.all{n:Nat}:∀{ds:List D},(∀d∈ds,i0 n d)->iU ds=true/\PyData.canLayAll0 (kg ds)=true/\PyData.depthAll (kg ds)<=n
 | [],_=>⟨by unfold iU;rfl,by unfold kg PyData.canLayAll0;rfl,by unfold kg PyData.depthAll;omega⟩
 | d ::ds,h=>by
   obtain⟨h1,h2,h3⟩:=i0.all (ds:=ds) fun x hx=>h x (List.mem_cons_of_mem _ hx)
   have f:=h d List.mem_cons_self;refine⟨by unfold iU;rw [f.pl,h1];rfl,by unfold kg PyData.canLayAll0;rw [f.ly,h2];rfl,?_⟩
   unfold kg PyData.depthAll;have:=f.dp;omega
theorem i0.lst{n:Nat}{ds:List D}(h:∀d∈ds,i0 n d):i0 (n+1) (.lst ds):=by
 obtain⟨h1,h2,h3⟩:=i0.all h;exact⟨by unfold dI;exact h1,by unfold toPy PyData.canLay0;exact h2,by unfold toPy PyData.depth;omega⟩
theorem i0.tup{n:Nat}{ds:List D}(h:∀d∈ds,i0 n d):i0 (n+1) (.tup ds):=by
 obtain⟨h1,h2,h3⟩:=i0.all h;exact⟨by unfold dI;exact h1,by unfold toPy PyData.canLay0;exact h2,by unfold toPy PyData.depth;omega⟩
theorem i0.sh{n:Nat}{d:D}(h:i0 n d)(hn:n<=64):SeqAt.shaped (toPy d)=true:=by
 unfold SeqAt.shaped;rw[h.ly,decide_eq_true (Nat.le_trans h.dp hn)];rfl
theorem Hg{d e:List D}:CC (.lst d) (.lst e)=R.aU (dI (.lst d) && dI (.lst e) && SeqAt.shaped (toPy (.lst d)) && SeqAt.shaped (toPy (.lst e))) (.ok (PyData.eqv (toPy (.lst d)) (toPy (.lst e)))):=rfl
theorem FQ{d e:List D}:CC (.tup d) (.tup e)=R.aU (dI (.tup d) && dI (.tup e) && SeqAt.shaped (toPy (.tup d)) && SeqAt.shaped (toPy (.tup e))) (.ok (PyData.eqv (toPy (.tup d)) (toPy (.tup e)))):=rfl
theorem i0.eqT{n:Nat}{ds:List D}(h:i0 n (.tup ds))(hn:n<=64):CC (.tup ds) (.tup ds)= .ok true:=by
 rw[FQ,h.pl,h.sh hn,SeqAt.eqv_refl _ h.ly];rfl
end
end L3
end
section
namespace L2
open PySem PySem.Spec PyProof.Rows
section
variable {X:Cx}
def E_:D->Bool | .cz=>true | _=>false
def Q_(d e:D):R D:=match e with | .cz=> .ok (.bl (E_ d)) | _=> .no
def N3(d e:D):R D:=match e with | .cz=> .ok (.bl (!E_ d)) | _=> .no
theorem yH:lW X (.type "int") (fun xs H Q=>∃x n,xs=[.str x]/\PySem.intText? x=some n/\x.length<=640/\Q (.int n) H):=by
 intro pins s σ H xs us Q I r h;obtain⟨x,n,rfl,h1,h2,q⟩:=h;obtain⟨u,rfl,ru⟩:=vals1 r;obtain⟨t,rfl⟩:=ru;exact PySem.W.KIN.call_text h1 h2 ⟨.int n,H,I.tok _,⟨_,rfl⟩,q⟩
def BR:List D->R D
 | [.str x]=>R.aU (decide (x.length<=640)) (match PySem.intText? x with | some n=> .ok (.int n) | none=> .no)
 | _=> .no
theorem Gg:cD X (.type "int") BR:=cD.of yH fun B H ds d xs Q _ rs hg q=>by
 unfold BR at hg;split at hg
 .obtain⟨h1,h2⟩:=R.aT hg;split at h2
  .rename_i e;cases h2;obtain⟨x,rfl,r⟩:=rs.one;exact⟨_,_,by rw[Rep.str.mp r],e,of_decide_eq_true h1,q _ H (aK.refl H) (Rep.int.mpr rfl)⟩
  .cases h2
 .cases hg
def pG(ds:List D):R D:=match ds with | [.str _]=>BR ds | _=>cInt ds
theorem s_:cD X (.type "int") pG:=cD.or Gg Jy fun a d h=>by
 unfold pG at h;split at h
 .exact .inl h
 .exact .inr h
def O4(f:FD):FD:=fun δ=>(f δ).bind fun d=>match d with | .int i=> .ok (.int (-i)) | _=> .no
def Nc(d:D)(ds:List D):R D:=match d,ds with
 | .str x,[.str y]=> .ok (.int (Txt.find x y))
 | _,_=> .no
def OG(aP:List (Str × Str)):D:= .dct (aP.map fun p=>Sum.inr p.1) (aP.map fun p=> .str p.2)
def Q4(aP:List (Str × Str)):List (Key × V):=aP.map fun p=>((Sum.inr p.1:Key),V.str p.2)
def NW(d k:D):R D:=match d,k with
 | .dct ks ds, .str x=>(match (ks.zip ds).find? fun p=>decide (p.1=Sum.inr x) with | some p=> .ok p.2 | none=> .no)
 | _,_=> .no
end
theorem Jn{K:W.Frag}{mg:Rt}{k n:Nat}{f:Addr}{fd:FuncData}{ps:List Str}:gR P w K mg base q8 k f fd ps (B7 K n fun _=> .no):=
 ⟨fun vs H Q E h=>(by obtain⟨_,_,_,_,_,_,h,_⟩:=h;cases h),fun A outer s H args us vs Q E _ _ _ _ h=>(by obtain⟨_,_,_,_,_,_,h,_⟩:=h;cases h)⟩
end L2
namespace L3
open PySem PySem.Spec PyProof.Rows L2
section
variable {X:Cx} {cl:Ru}
def Nn(f:FX):FB:=fun δ S=>(f δ S).bind fun v S=>match v with | .d (.bl b)=> .ok b S | _=> .no
def NR(f g:FX):FX:=fun δ S=>(Nn f δ S).bind fun b S=>if b then g δ S else .ok (.d (.bl false)) S
def Q5(f g:FX):FX:=fun δ S=>(Nn f δ S).bind fun b S=>if b then .ok (.d (.bl true)) S else g δ S
def vO(i:Nat)(F:FZ):FZ:=fun δ S=>match iM δ i with
 | some k=>(match dm S k with | some ds=>F (δ.set i (some (.d (.lst ds)))) (S.set k .jk) | none=> .no)
 | none=> .no
theorem tW(i:Nat)(h:Bw X cl Fp F):Bw X cl Fp (vO i F):=⟨h.1.imp fun D σ H ⟨ρ,S,δ,o,S',E,hf,q⟩=>by
 unfold vO at hf;split at hf
 .rename_i k hk;split at hf
  .rename_i ds hds;obtain⟨v,v1,v2⟩:=E.val i _ (me hk);unfold a_ at v2;obtain⟨a,a1,rfl⟩:=v2;obtain⟨w,p,r⟩:=E.sw.jk a1 (jP hds);have E1:eO X.K cl ⟨ρ.r,ρ.z,a ::ρ.f⟩ H (S.set k .jk) σ (δ.set i (some (.d (.lst ds)))):=⟨by rw[List.length_set];exact E.len,w,fun j d e=>by
    by_cases h:i=j
    .subst h;rw[List.getElem?_set_self (by obtain⟨h1,_⟩:=List.getElem?_eq_some_iff.mp (me hk);exact h1)] at e
     cases e;exact⟨_,v1,by unfold a_;exact r⟩
    .rw [List.getElem?_set_ne h] at e;obtain⟨u,u1,u2⟩:=E.val j d e;exact⟨u,u1,u2.pre p⟩⟩
   exact⟨_,_,_,o,S',E1,hf,q.pre p⟩
  .cases hf
 .cases hf⟩
theorem AK{i k:Nat}{ds:List D}{F:FZ}{δ:DE}{S:bc}{QO:Ou->bc->Prop}(hk:δ[i]? =some (some (.loc k)))(hS:S[k]? =some (.lst ds))(h:W3 (F (δ.set i (some (.d (.lst ds)))) (S.set k .jk)) QO):W3 (vO i F δ S) QO:=by
 unfold vO;have e1:iM δ i=some k:=by unfold iM;rw [hk]
 have e2:dm S k=some ds:=by unfold dm;simp only[hS]
 simp only[e1,e2];exact h
end
def Flat(S:bc):Prop:=∀o∈S,∀n,wI n o=true
theorem Flat.nil:Flat []:=fun o ho=>by cases ho
end L3
end
section
namespace PySem
open Sem (wp)
open AutoSeq1 (wpAny_loadPart')
section
variable {prog:Program} {w:World} {A:Around} {E:Ro} {s:Shared}
end
end PySem
namespace L2
open PySem PySem.Spec PyProof.Rows
section
variable {X:Cx}
def Kb(f:FD):FD:=fun δ=>(f δ).bind fun d=>match d with
 | .int j=>R.aU (decide (-(2 ^ 62)<=j/\j < 16777216)) (.ok (.tup (gH 0 j.toNat)))
 | _=> .no
end
end L2
end
section
namespace PySem
open Sem (wp)
open AutoSeq1 (wpAny_loadPart')
section
variable {prog:Program} {w:World} {A:Around} {E:Ro} {s:Shared}
theorem kj{it l:Addr}{i:Nat}{items:Array Value}{x:Value}{Q:Ro}(hit:s.heap.IsTupleIter it l i)(hl:s.heap.IsTuple l items)(hx:items[i]? =some x)
 (hQ:∀h',h'.IsTupleIter it l (i+1)->Heap.SameBut it s.heap h'->Q x {s with heap:=h'}):wpAny (model prog w) A (Builtin.SmallTypes.nextOf (.ref it)) Q E s:=by
 obtain⟨o,ho,hc,hd⟩:=id hit;obtain⟨ol,Ey,_,nl,hdl⟩:=hl;unfold Builtin.SmallTypes.nextOf;refine wpAny_bind (wpAny_callSpecial?_slot (name:="__next__") hit.typeIs F.slot_tuple_iterator_next (wpAny_call_entry F.slot_tuple_iterator_next hit.typeIs F.entry_tuple_iterator_next ?_ (F.args_tuple_iterator_next_1 _)));show wpAny _ _ (field (.ref it) 0 >>=_) _ _ s;refine wpAny_bind (wpAny_field ho hd (x:= .ref l) rfl ?_);show wpAny _ _ (if(Value.ref l==Value.none)=true then _ else _) _ _ s;rw [if_neg (show ¬((Value.ref l==Value.none)=true) from Bool.false_ne_true)]
 show wpAny _ _ (field (.ref it) 1 >>=_) _ _ s;refine wpAny_bind (wpAny_field ho hd (x:= .int i 0) rfl ?_);show wpAny _ _ (seqItems? (.ref l) >>=_) _ _ s;refine wpAny_bind (wpAny_seqItems Ey hdl ?_);simp only[Int.toNat_natCast,hx];refine wpAny_bind (wpAny_setField ho hd (by simp) (wpAny_pure ⟨x,rfl,wpAny_pure (hQ _ ⟨_,Heap.get?_update_self _ ho (Obj.isFreed_of_fields (Obj.data_mapFields hd _)),(Obj.cls_mapFields ..).trans hc,by rw[Obj.data_mapFields hd];simp [rawInt]⟩ (Heap.SameBut.update ..))⟩))
theorem g8{it l:Addr}{i:Nat}{items:Array Value}{Q:Ro}(hh:A.handled=none)(hit:s.heap.IsTupleIter it l i)(hl:s.heap.IsTuple l items)(hx:items[i]? =none)
 (hE:∀h' e,Heap.ExtBut it s.heap h'->(∃o,h'.get? e=some o/\o.cls= .type "StopIteration")->E (.ref e) {s with heap:=h'}):wpAny (model prog w) A (Builtin.SmallTypes.nextOf (.ref it)) Q E s:=by
 obtain⟨o,ho,hc,hd⟩:=id hit;obtain⟨ol,Ey,_,nl,hdl⟩:=hl;unfold Builtin.SmallTypes.nextOf;refine wpAny_bind (wpAny_callSpecial?_slot (name:="__next__") hit.typeIs F.slot_tuple_iterator_next (wpAny_call_entry F.slot_tuple_iterator_next hit.typeIs F.entry_tuple_iterator_next ?_ (F.args_tuple_iterator_next_1 _)));show wpAny _ _ (field (.ref it) 0 >>=_) _ _ s;refine wpAny_bind (wpAny_field ho hd (x:= .ref l) rfl ?_);show wpAny _ _ (if(Value.ref l==Value.none)=true then _ else _) _ _ s;rw [if_neg (show ¬((Value.ref l==Value.none)=true) from Bool.false_ne_true)]
 show wpAny _ _ (field (.ref it) 1 >>=_) _ _ s;refine wpAny_bind (wpAny_field ho hd (x:= .int i 0) rfl ?_);show wpAny _ _ (seqItems? (.ref l) >>=_) _ _ s;refine wpAny_bind (wpAny_seqItems Ey hdl ?_);simp only[Int.toNat_natCast,hx];refine wpAny_bind (wpAny_rule (wpAny_bind (wpAny_setField ho hd (by simp) ?_)))
 show wpAny _ _ (newExc (.type "StopIteration") [] >>=_) _ _ _;refine wpAny_bind ?_;simp only[newExc,newTuple];refine wpAny_bind (wpAny_newObj_type ?_ (by size_fits))
 refine wpAny_bind (m:=firstArgMember _ _) (wpAny_of_eq (a:=Value.none) (by first | rfl | (simp only[firstArgMember];rfl)) ?_);refine wpAny_newObj_type ?_ (by size_fits)
 simp only[raiseNew];refine wpAny_bind (wpAny_handled ?_)
 first | rw[show A.in1.handled=none from hh] | rw[hh]
 exact wpAny_bind (wpAny_pure (wpAny_throw (hE _ _ (((Heap.SameBut.update ..).extBut.push _).push _) ⟨_,Heap.get?_push_size _ rfl,rfl⟩)))
end
theorem zo{prog:Program}{w:World}{A:Around}(hh:A.handled=none)(it l:Addr)(Cg:l≠it)(items:Array Value) :
 Draws prog w A it [it,l] items.size (fun i v=>items[i]? =some v) (fun i h=>h.IsTupleIter it l i/\h.IsTuple l items) where
 live:=fun _ _ st=>let⟨o,ho,_⟩:=st.1;⟨o,ho⟩
 frame:=fun _ _ _ st hk=>⟨st.1.at fun o e=>hk it (by simp) o e,Heap.IsTuple.at st.2 fun o e=>hk l (by simp) o e⟩
 item:=fun i s Q E hi st hQ=>kj st.1 st.2 (x:=items[i]) (by simp [hi]) fun h' L0 Nu=>hQ _ h' s.toks (by simp [hi]) ⟨L0,st.2.extBut Nu.extBut Cg⟩ Nu
 done:=fun s Q E st hE=>g8 hh st.1 st.2 (by simp) hE
theorem oZ(l:Addr)(items:Array Value)(o:Obj)(n:Nat)(hc:o.cls= .type "tuple")(hd:o.data= .seq items n) :
 Meets (Builtin.«enumerate.__new__» ⟨[.type "enumerate", .ref l],[]⟩) (fun _ R s=>s.heap.get? l=some o/\
  R (.ok (.ret (.ref (s.heap.push {cls:= .type "tuple_iterator",data:= .fields #[.ref l, .int 0 0]}).objs.size)))
   {s with heap:=(s.heap.push {cls:= .type "tuple_iterator",data:= .fields #[.ref l, .int 0 0]}).push {cls:= .type "enumerate",data:= .fields #[.none, .bool false, .ref s.heap.objs.size,rawInt 0, .none, .none]}}):=
 .of_wp fun prog w A R s h=>by
   obtain⟨hp,g,d,tk,os⟩:=s;obtain⟨hl,h⟩:=h;have hsub:=sub_enumerate;have hL:Heap.IsTuple (Shared.heap ⟨hp,g,d,tk,os⟩) l items:=⟨_,hl,hc,n,hd⟩
   wp_walk using wpAny_loadPart' hl
   refine wpAny_stack_any fun st=>wpAny_pure ?_
   split
   .rename_i c _ _ _ _ _;cases(c==Value.type "enumerate") <;> (wp_walk using wpAny_loadPart' hl,wpAny_pyIter_tuple hL;exact⟨_,rfl,h⟩)
   .wp_walk using wpAny_loadPart' hl,wpAny_pyIter_tuple hL
    exact⟨_,rfl,h⟩
theorem vP{prog:Program}{w:World}{A:Around}{E:Ro}{s:Shared}{l:Addr}{items:Array Value}{Q:Ro}(hL:s.heap.IsTuple l items)
 (h:∀h':Heap,IsEnum h' (s.heap.objs.size+1) s.heap.objs.size 0 .none->h'.IsTupleIter s.heap.objs.size l 0->(∀b o,s.heap.get? b=some o->h'.get? b=some o)->Q (.ref (s.heap.objs.size+1)) {s with heap:=h'}) :
 wpAny (model prog w) A (call (.type "enumerate") [.ref l]) Q E s:=by
 obtain⟨o,hl,hc,n,hd⟩:=hL;refine callType_new F.called_enumerate (by decide) (F.typeCall_enumerate_1 _) (F.newCall_enumerate_1 _) (fun obj=>F.args_object_init_2 obj _) F.entry_enumerate_new (oZ l items o n hc hd) ⟨hl,?_⟩
 have hz:(s.heap.push {cls:= .type "tuple_iterator",data:= .fields #[.ref l, .int 0 0]}).objs.size=s.heap.objs.size+1:=Heap.size_push ..;show _/\_;rw [hz];have he:IsEnum ((s.heap.push {cls:= .type "tuple_iterator",data:= .fields #[.ref l, .int 0 0]}).push {cls:= .type "enumerate",data:= .fields #[.none, .bool false, .ref s.heap.objs.size,rawInt 0, .none, .none]}) (s.heap.objs.size+1) s.heap.objs.size 0 .none:=by
  have:=Heap.get?_push_size (s.heap.push {cls:= .type "tuple_iterator",data:= .fields #[.ref l, .int 0 0]}) (o:={cls:= .type "enumerate",data:= .fields #[.none, .bool false, .ref s.heap.objs.size,rawInt 0, .none, .none]}) rfl;rw[hz] at this;exact this
 exact⟨⟨_,he,rfl⟩,h _ he ⟨_,Heap.get?_push_of_some _ (Heap.get?_push_size _ rfl),rfl,rfl⟩ fun b o x=>Heap.get?_push_of_some _ (Heap.get?_push_of_some _ x)⟩
end PySem
namespace L2
open PySem PySem.Spec PyProof.Rows
def Lf(K:W.Frag)(a:Addr):It:=
 ⟨fun i H=>∃xs x,oX K H a xs/\xs[i]? =some x,fun i H v H'=>∃p x,H p=none/\v= .ref p/\(∀xs,oX K H a xs->xs[i]? =some x)/\H'=upd H p (.tup [.int i,x]),fun i H=>∃xs,oX K H a xs/\xs.length<=i⟩
theorem wL{K:W.Frag}{k:Nat}(a e it:Addr)(HS:e≠it):Turn P w K (.Tuple elts k pos) (Lf K a) [e,it] e (fun i h=>(∃old,IsEnum h e it ((i:Nat):Int) old)/\h.IsTupleIter it a i) where
 mem:=by simp
 obj:=fun i h st b hb=>by
  obtain⟨⟨old,he⟩,o,ho,c,d⟩:=st;rcases List.mem_cons.mp hb with rfl | hb
  .exact⟨_,he,fun v z=>by cases z⟩
  .have e:b=it:=by simpa using hb
   subst e;exact⟨o,ho,fun v z=>by rw[d] at z;cases z⟩
 keep:=fun i h h' st k=>by
  obtain⟨⟨old,he⟩,hi⟩:=st;exact⟨⟨old,k e (by simp) _ he⟩,hi.at fun o x=>k it (by simp) o x⟩
 item:=by
  intro X hP hw hK hc i pins s σ H E I hf st hg;subst hP hw hK;obtain⟨xs,x,hq,hx⟩:=hg;obtain⟨its,rv,p,hz⟩:=I.tuple hq;have p':s.heap.IsTuple a its.toArray:=p;obtain⟨u,hu,ru⟩:=rv.get hx;obtain⟨⟨old,he⟩,hit⟩:=st;obtain⟨f0,f1,f2,f3,f4,f5⟩:=hf e (by simp)
  obtain⟨g0,g1,g2,g3,g4,g5⟩:=hf it (by simp)
  have ha_it:a≠it:=fun z=>by
   obtain⟨o1,h1,c1,_⟩:=p';obtain⟨o2,h2,c2,_⟩:=hit;rw[z,h2] at h1;cases h1;rw[c2] at c1;exact absurd c1 (by decide)
  have ha_e:e ∉ [it,a]:=fun z=>by
   rcases List.mem_cons.mp z with q | q
   .exact HS q
   .have q:e=a:=by simpa using q
    obtain⟨o1,h1,c1,_⟩:=p';rw[<-q,he] at h1;cases h1;exact absurd (show Value.type "enumerate"=Value.type "tuple" from c1) (by decide)
  refine wpAny_pyNext_enum_itemD (zo (A:=X.A.in1) (I.ok.hd hc) it a ha_it its.toArray) he ⟨hit,p'⟩ (by have:=(List.getElem?_eq_some_iff.mp hu).1;simpa using this) HS ha_e fun u2 gM tk P_ CO JV Cu l6 sr=>⟨_,rfl,?_⟩
  obtain rfl:u2=u:=by
   have h1:its[i]? =some u2:=by simpa using P_
   rw[hu] at h1;cases h1;rfl
  obtain⟨xj,_⟩:=JV;refine wpAny_letOwnedTupleGo_enum CO fun fL Ct cy=>?_
  replace cy:Heap.SameBut e gM fL:=cy
  have hel:e < s.heap.objs.size:=Heap.lt_size he;have vB:fL.get? s.heap.objs.size=some {cls:= .type "tuple",data:= .seq #[.int i tk,u2]}:=(cy.2 _ (Nat.ne_of_gt hel)).trans Cu;have kk:∀b o,b≠e->b≠it->s.heap.get? b=some o->fL.get? b=some o:=fun b o h1 h2 q=>(cy.2 b h1).trans (sr b o h1 h2 q)
  have hn:H s.heap.objs.size=none:=I.fresh;have sm:aK H (upd H s.heap.objs.size (.tup [.int i,x])):=aW hn;have nit:∀b o,H b=some o->b≠e/\b≠it:=fun b o q=>⟨fun z=>(by rw[z,f0] at q;cases q),fun z=>(by rw[z,g0] at q;cases q)⟩
  have hok:lQ X.prog X.w (upd H s.heap.objs.size (.tup [.int i,x])) fL:=fun b ob q=>by
   by_cases hb:b=s.heap.objs.size
   .subst hb;rw[aV] at q;cases q;exact⟨by show 2<=sizeLine;decide,[.int i tk,u2], .cons ⟨_,rfl⟩ (.cons ru .nil),⟨_,vB,rfl,_,rfl⟩⟩
   .rw [aS hb] at q;refine(I.hok b ob q).tQ (fun c v hc z=>?_) (fun c z=>sm c _ z) fun c ys z=>sm c _ z
    rcases hc with rfl | hc
    .exact kk c v (nit c _ q).1 (nit c _ q).2 z
    .exact kk c v (nit c _ hc).1 (nit c _ hc).2 z
  have nch:∀b,b ∉ [e,it]->b≠e/\b≠it:=fun b hb=>⟨fun z=>hb (by simp [z]),fun z=>hb (by simp [z])⟩
  have I2:Inv X pins σ (upd H s.heap.objs.size (.tup [.int i,x])) {s with heap:=fL,toks:=tk+1}:=by
   refine I.step (g':=s.gens) (d':=s.drawn) (ch:=[e,it]) (fun b hb=>?_) (fun b o _ _ hb q _=>kk b o (nch b hb).1 (nch b hb).2 q) (fun b o _ _ hb q _=>⟨o.slots,kk b o (nch b hb).1 (nch b hb).2 q⟩)
    (fun b o hb q n=>by rw[aS (Nat.ne_of_lt (Heap.lt_size q))];exact n) (fun b o hb q=>⟨o,kk b o (nch b hb).1 (nch b hb).2 q⟩) (fun b ys z=>sm b _ z) (fun b o u z=>sm b _ z) (fun b ps z=>⟨#[],by rw[sm b _ z];simp⟩) (fun m hm=>?_) hok I.bare
   .rcases List.mem_cons.mp hb with rfl | hb
    .exact⟨f3,f1,f4,f5⟩
    .have z:b=it:=by simpa using hb
     subst z;exact⟨g3,g1,g4,g5⟩
   .obtain⟨o,es,ep,ho,r⟩:=hm;exact⟨o,es,ep,kk _ o (Ne.symm f1) (Ne.symm g1) ho,r⟩
  refine⟨.ref s.heap.objs.size,_,I2,rfl,⟨s.heap.objs.size,x,hn,rfl,fun ys hy=>(by rw[I.nS hy hq];exact hx),rfl⟩,⟨⟨_,by simpa using Ct⟩,xj.at fun o q=>(cy.2 it (Ne.symm HS)).trans q⟩,fun b hb=>?_⟩
  rcases List.mem_cons.mp hb with rfl | hb
  .rw [aS (Nat.ne_of_lt hel)];exact f0
  .have z:b=it:=by simpa using hb
   subst z;obtain⟨o,ho,_⟩:=hit;rw[aS (Nat.ne_of_lt (Heap.lt_size ho))];exact g0
 done:=by
  intro X hP hw hK hc i pins s σ H E I hf st hg;subst hP hw hK;obtain⟨xs,hq,hx⟩:=hg;obtain⟨its,rv,p,hz⟩:=I.tuple hq;have p':s.heap.IsTuple a its.toArray:=p;obtain⟨⟨old,he⟩,hit⟩:=st;obtain⟨g0,g1,g2,g3,g4,g5⟩:=hf it (by simp)
  have hl:=rv.length;have hT:s.TypeIs (.ref e) "enumerate":=⟨_,he,rfl⟩;unfold pyNext;refine wpAny_bind (wpAny_attempt (wpAny_callSpecial?_slot (name:="__next__") hT F.slot_enumerate_next (wpAny_call_entry F.slot_enumerate_next hT F.entry_enumerate_next ?_ (F.args_enumerate_next_1 _))));show wpAny _ _ (field (.ref e) 2 >>=_) _ _ _;refine wpAny_bind (wpAny_field he rfl (x:= .ref it) rfl ?_);refine wpAny_bind (g8 (A:=X.A.in1) (I.ok.hd hc) hit p' (by simp;omega) fun h' x Qd PQ=>?_)
  obtain⟨o,ho,hcl⟩:=PQ;refine wpAny_bind (wpAny_isInstance (T:="StopIteration") (b:=true) ⟨o,ho,hcl⟩ isSubtype_stop ?_);exact wpAny_pure ⟨rfl,I.turned (t':=s.toks) (fun b o hb q=>Qd b o hb q) g0 g1 g3 g4 g5⟩
 self:=fun A i s Q E st h=>let⟨⟨_,he⟩,_⟩:=st;wpAny_pyIter_enum he h
section
variable {X:Cx}
def sM(f:FD):ak->R (List D):=fun δ=>(f δ).bind fun d=>match d with | .tup ds=> .ok (dy ds) | _=> .no
theorem vI{elts:List Expr}{k:Nat}{qG:Pos}{p pos:Pos}(h:QD X a f)(hg:Gl X "enumerate")(hm:X.mg "enumerate"=none)(hs:starEach [a] X.env=[(false,eval a X.env)]:=by rfl):uS X (.Tuple elts k qG) (.Call (.Name "enumerate" p) [a] [] pos) (sM f):=by
 refine⟨?_⟩;intro pins s σ H RR I ⟨Z,B,δ,ds,E,hf,q⟩;obtain⟨d,h1,h2⟩:=R.ai hf;have hA:=dM h.1 gK hs pos pins s σ H (fun vs H1=>aK H H1/\∃v,vs=[v]/\Rep X.K B H1 d v) I ⟨Z,B,δ,d,E,h1,fun v H1 s1 r1=>⟨s1,v,rfl,r1⟩⟩
 refine Call_ (kQ I hg hm boot_enumerate (PyProof.Rows.callWith_type1 (ee hA fun us s1 ⟨vs,H1,I1,r1,ss,v,ev,rr⟩=>?_) hs rfl))
 subst ev;obtain⟨u,rfl,ru⟩:=vals1 r1;cases d with
 | tup es=>
   cases h2;obtain⟨b,xs,rfl,l,rs⟩:=Rep.tup.mp rr;cases ru;obtain⟨its,rv,pt,hz⟩:=I1.tuple l.sq;refine vP (items:=its.toArray) pt fun h' he hit kk=>wpAny_pyIter_enum he ?_
   have I2:Inv X pins σ H1 {s1 with heap:=h'}:=I1.kept (t':=s1.toks) kk
   refine⟨s1.heap.objs.size+1,[s1.heap.objs.size+1,s1.heap.objs.size],_,_,H1,rfl,I2,wL b (s1.heap.objs.size+1) s1.heap.objs.size (Nat.succ_ne_self _),⟨⟨_,he⟩,hit⟩,fun c hc=>?_,q _ H1 ss fun B' H' pr=>?_⟩
   .have hle:s1.heap.objs.size<=c:=by
     rcases List.mem_cons.mp hc with z | hc
     .rw [z];exact Nat.le_succ _
     .have z:c=s1.heap.objs.size:=by simpa using hc
      rw[z];exact Nat.le_refl _
    exact I1.tF hle (I1.hok.fresh hle)
   .have l':sf X.K B' H' b xs:=l.elim (fun z=> .inl ⟨(pr.rd z.2 z.1).2,(pr.rd z.2 z.1).1⟩) .inr
    have rs':=rs.aY pr;refine⟨fun i d hd=>?_,⟨xs,l'.sq,by rw[<-rs.length];unfold dy;simp⟩⟩
    unfold dy at hd;rw[List.getElem?_map,List.getElem?_zipIdx] at hd;cases e:es[i]? with
    | none=>rw [e] at hd;cases hd
    | some d0=>
      rw[e] at hd;have hd:D.tup [.int ((0+i:Nat):Int),d0]=d:=Option.some.inj hd;rw[Nat.zero_add] at hd;obtain⟨x,hx,rx⟩:=rs'.get e;refine⟨⟨xs,x,l'.sq,hx⟩,fun v l7 y EC=>?_⟩
      obtain⟨p,y,hp,rfl,hy,rfl⟩:=y;refine⟨aW hp,?_⟩;subst hd;have zF:=hy xs l'.sq;rw[hx] at zF;cases zF;refine Rep.tup.mpr ⟨p,_,rfl, .inl ⟨fun ha=>?_, .inl aV⟩,aw.cons (Rep.int.mpr rfl) (aw.cons (rx.same (aW hp)) aw.nil)⟩
      obtain⟨o,ho⟩:=EC p ha;rw[hp] at ho;cases ho
 | _=>cases h2
end
end L2
end
section
namespace L2
open PySem PySem.Spec PyProof.Rows
section
variable {X:Cx}
abbrev Mz:D->D->R D:=A8 (fun _ j=>decide (0 < j/\j.natAbs.log2 < 9000)) fun i j=>i / j
def OJ(f:ak->R (List D))(g:FD):ak->R (List D):=fun δ=>(f δ).bind fun ds=>(g δ).bind fun d=>match d with
 | .int k=>R.aU (decide (0<=k/\k < 1000000/\ds.length*k.toNat<=sizeLine)) (.ok (List.replicate k.toNat ds).flatten)
 | _=> .no
def Ad(ns:List Int):List Int:=ns.mergeSort fun a b=>decide (a<=b)
def Kc:List D->R D
 | [.lst ds]=>(match ints? ds with | some ns=>R.aU (decide (ns.length < 64)) (.ok (.lst ((Ad ns).map .int))) | none=> .no)
 | _=> .no
theorem getD_in{l:List Int}{i:Nat}(h:i < l.length):l.getD i 0∈l:=by
 have e:l.getD i 0=l[i]:=by simp [h]
 rw[e];exact List.getElem_mem h
theorem fold_min:∀(ns:List Int) (n:Int),ns.foldl min n∈n ::ns/\∀a∈n ::ns,ns.foldl min n<=a
 | [],n=>⟨by simp,fun a ha=>by simp at ha;subst ha;exact Int.le_refl _⟩
 | x ::ns,n=>by
   obtain⟨h1,h2⟩:=fold_min ns (min n x);rw[List.foldl_cons];refine⟨?_,fun a ha=>?_⟩
   .rcases List.mem_cons.mp h1 with z | z
    .rw [z];by_cases hc:n<=x
     .rw [Int.min_eq_left hc];simp
     .rw [Int.min_eq_right (by omega)];simp
    .exact List.mem_cons_of_mem _ (List.mem_cons_of_mem _ z)
   .have hm:=h2 _ List.mem_cons_self;rcases List.mem_cons.mp ha with z | z
    .subst z;omega
    .rcases List.mem_cons.mp z with z | z
     .subst z;omega
     .exact h2 a (List.mem_cons_of_mem _ z)
theorem fold_max:∀(ns:List Int) (n:Int),ns.foldl max n∈n ::ns/\∀a∈n ::ns,a<=ns.foldl max n
 | [],n=>⟨by simp,fun a ha=>by simp at ha;subst ha;exact Int.le_refl _⟩
 | x ::ns,n=>by
   obtain⟨h1,h2⟩:=fold_max ns (max n x);rw[List.foldl_cons];refine⟨?_,fun a ha=>?_⟩
   .rcases List.mem_cons.mp h1 with z | z
    .rw [z];by_cases hc:n<=x
     .rw [Int.max_eq_right hc];simp
     .rw [Int.max_eq_left (by omega)];simp
    .exact List.mem_cons_of_mem _ (List.mem_cons_of_mem _ z)
   .have hm:=h2 _ List.mem_cons_self;rcases List.mem_cons.mp ha with z | z
    .subst z;omega
    .rcases List.mem_cons.mp z with z | z
     .subst z;omega
     .exact h2 a (List.mem_cons_of_mem _ z)
def uB:List D->R D
 | [.lst ds]=>(match ints? ds with | some (n ::ns)=> .ok (.int (ns.foldl min n)) | _=> .no)
 | ds=>Bf ds
def BM:List D->R D
 | [.lst ds]=>(match ints? ds with | some (n ::ns)=> .ok (.int (ns.foldl max n)) | _=> .no)
 | ds=>Gm ds
theorem zR(hc:X.calm=true):cD X (.builtin "min") uB:=by
 intro pins s σ H B ds d xs us I hb rx rs hg;unfold uB at hg;split at hg
 .split at hg
  .rename_i es n ns e;cases hg;obtain⟨x,rfl,r⟩:=rs.one;obtain⟨a,ys,rfl,l,r⟩:=Rep.lst.mp r;obtain⟨u,rfl,ru⟩:=vals1 rx;cases ru;obtain⟨its,k,rv,e1,hz⟩:=I.EJ l;rw[dD r e] at rv;obtain⟨ps,rfl,hps⟩:=eB rv;have hl:s.heap.IsList a (intItems ps.toArray):=⟨_,e1,rfl,k,by simp [intItems]⟩
   have hlp:ps.length=ns.length+1:=by have:=congrArg List.length hps;simpa using this
   refine min_intList (I.ok.hd hc) hl (by simp;omega) fun v h' tk hv hk=>?_
   obtain⟨t,rfl⟩:=intItems_at hv;obtain⟨b1,b2⟩:=argBest_lt (numAt ps.toArray) (ps.toArray.size - 1);refine⟨.int _,H,I.kept hk,⟨t,rfl⟩,aK.refl H,Rep.int.mpr ?_⟩;obtain⟨m1,m2⟩:=fold_min ns n;have hge:∀j,j < ps.length->numAt ps.toArray j=(n ::ns).getD j 0:=fun j hj=>by rw[numAt_eq,<-hps]
   have hin:numAt ps.toArray (argBest (fun i j=>decide (numAt ps.toArray i < numAt ps.toArray j)) (ps.toArray.size - 1))∈n ::ns:=by
    rw[hge _ (by simp at b1 ⊢;omega)];exact getD_in (by simp at b1 ⊢;omega)
   have hle:=m2 _ hin;obtain⟨j,hj,ej⟩:=List.getElem_of_mem m1;have Fd:j < ns.length+1:=by simpa using hj
   have h3:=b2 j (by simp;omega)
   rw[hge j (by omega)] at h3
   have h4:(n ::ns).getD j 0=ns.foldl min n:=by rw[<-ej,List.getD_eq_getElem?_getD,List.getElem?_eq_getElem hj];rfl
   rw[h4] at h3;congr 1;omega
  .cases hg
 .exact Jc hc pins s σ H B _ d xs us I hb rx rs hg
theorem Gn(hc:X.calm=true):cD X (.builtin "max") BM:=by
 intro pins s σ H B ds d xs us I hb rx rs hg;unfold BM at hg;split at hg
 .split at hg
  .rename_i es n ns e;cases hg;obtain⟨x,rfl,r⟩:=rs.one;obtain⟨a,ys,rfl,l,r⟩:=Rep.lst.mp r;obtain⟨u,rfl,ru⟩:=vals1 rx;cases ru;obtain⟨its,k,rv,e1,hz⟩:=I.EJ l;rw[dD r e] at rv;obtain⟨ps,rfl,hps⟩:=eB rv;have hl:s.heap.IsList a (intItems ps.toArray):=⟨_,e1,rfl,k,by simp [intItems]⟩
   have hlp:ps.length=ns.length+1:=by have:=congrArg List.length hps;simpa using this
   refine max_intList (I.ok.hd hc) hl (by simp;omega) fun v h' tk hv hk=>?_
   obtain⟨t,rfl⟩:=intItems_at hv;obtain⟨b1,b2⟩:=argBest_gt (numAt ps.toArray) (ps.toArray.size - 1);refine⟨.int _,H,I.kept hk,⟨t,rfl⟩,aK.refl H,Rep.int.mpr ?_⟩;obtain⟨m1,m2⟩:=fold_max ns n;have hge:∀j,j < ps.length->numAt ps.toArray j=(n ::ns).getD j 0:=fun j hj=>by rw[numAt_eq,<-hps]
   have hin:numAt ps.toArray (argBest (fun i j=>decide (numAt ps.toArray i > numAt ps.toArray j)) (ps.toArray.size - 1))∈n ::ns:=by
    rw[hge _ (by simp at b1 ⊢;omega)];exact getD_in (by simp at b1 ⊢;omega)
   have hle:=m2 _ hin;obtain⟨j,hj,ej⟩:=List.getElem_of_mem m1;have Fd:j < ns.length+1:=by simpa using hj
   have h3:=b2 j (by simp;omega)
   rw[hge j (by omega)] at h3
   have h4:(n ::ns).getD j 0=ns.foldl max n:=by rw[<-ej,List.getD_eq_getElem?_getD,List.getElem?_eq_getElem hj];rfl
   rw[h4] at h3;congr 1;omega
  .cases hg
 .exact JD hc pins s σ H B _ d xs us I hb rx rs hg
end
end L2
namespace L3
open PySem PySem.Spec PyProof.Rows L2
def Jb(S:bc):V3->Option (List D)
 | .d (.lst ds)=>some ds
 | .loc k=>dm S k
 | _=>none
section
variable {X:Cx} {cl:Ru}
def Oo(fa fb:FX):FX:=fun δ S=>(fa δ S).bind fun a S1=>(fb δ S1).bind fun b S2=>match Jb S2 a,Jb S2 b with
 | some ds,some es=>R3.aU (decide (ds.length+es.length<=sizeLine)) (.ok (.loc S2.length) (S2++[.lst (ds++es)]))
 | _,_=> .no
def Oh(i:Nat):FZ:=fun δ S=>match iM δ i with
 | none=> .no
 | some k=>(match dm S k with | some _=> .ok (.nx δ) (S.set k (.lst [])) | none=> .no)
end
end L3
end
section
namespace L3
open PySem PySem.Spec PyProof.Rows L2
def kU(S:bc)(c k:Nat):Option (List (Str × V3)):=match S[k]? with | some (.ins c' fs)=>(if c'=c then some fs else none) | _=>none
theorem jM{S:bc}{c k:Nat}{fs:List (Str × V3)}(h:kU S c k=some fs):S[k]? =some (.ins c fs):=by
 unfold kU at h;split at h
 .rename_i c' HV e;split at h
  .rename_i hc;cases h;rw [e,hc]
  .cases h
 .cases h
theorem xA{K:W.Frag}{v:V3}:∀{fs:List (Str × V3)} {ys:List (Str × V)},ys.map (·.1)=fs.map (·.1)->aC K ρ H (fs.map (·.2)) (ys.map (·.2))->fs.lookup f=some v->∃x,ys.lookup f=some x/\a_ K ρ H v x
 | [],ys,_,_,h=>by simp at h
 | (g,w) ::fs,[],e,_,_=>by simp at e
 | (g,w) ::fs,(g',y) ::ys,e,r,h=>by
   obtain⟨e1,kl⟩:=List.cons.inj e;have e1:g'=g:=e1;subst e1;obtain⟨x,xs,ex,r1,r2⟩:=r.bM;cases ex;rw[List.lookup_cons] at h ⊢;cases hq:f==g' with
   | true=>rw [hq] at h;cases h;exact⟨y,rfl,r1⟩
   | false=>rw [hq] at h;exact xA kl r2 h
theorem vq:∀{fs:List (Str × V3)} {ys:List (Str × V)},ys.map (·.1)=fs.map (·.1)->fs.lookup f=none->ys.lookup f=none
 | [],[],_,_=>rfl
 | [],_ ::_,e,_=>by simp at e
 | _ ::_,[],e,_=>by simp at e
 | (g,w) ::fs,(g',y) ::ys,e,h=>by
   obtain⟨e1,kl⟩:=List.cons.inj e;have e1:g'=g:=e1;subst e1;rw[List.lookup_cons] at h ⊢;cases hq:f==g' with
   | true=>rw [hq] at h;cases h
   | false=>rw [hq] at h;exact vq kl h
def uM(f:Str)(v:V3):List (Str × V3)->List (Str × V3)
 | []=>[(f,v)]
 | (g,x) ::r=>if g=f then(g,v) ::r else(g,x) ::uM f v r
theorem xG{K:W.Frag}{f:Str}{v:V3}{u:V}(rv:a_ K ρ H v u):∀{fs:List (Str × V3)} {ys:List (Str × V)},ys.map (·.1)=fs.map (·.1)->aC K ρ H (fs.map (·.2)) (ys.map (·.2))->
 (i4 f u ys).map (·.1)=(uM f v fs).map (·.1)/\aC K ρ H ((uM f v fs).map (·.2)) ((i4 f u ys).map (·.2))
 | [],[],_,_=>⟨rfl,aC.cons rv aC.nil⟩
 | [],_ ::_,e,_=>by simp at e
 | _ ::_,[],e,_=>by simp at e
 | (g,w) ::fs,(g',y) ::ys,e,r=>by
   obtain⟨e1,kl⟩:=List.cons.inj e;have e1:g'=g:=e1;subst e1;obtain⟨x,xs,ex,r1,r2⟩:=r.bM;cases ex;unfold uM i4;by_cases hg:g'=f
   .rw [if_pos hg,if_pos hg];exact⟨by rw[List.map_cons,List.map_cons,kl],aC.cons rv r2⟩
   .rw [if_neg hg,if_neg hg];obtain⟨h1,h2⟩:=xG rv kl r2;exact⟨by rw[List.map_cons,List.map_cons,h1],aC.cons r1 h2⟩
section
variable {X:Cx} {cl:Ru}
def wC(c:Nat)(f:Str)(g:FX):FX:=fun δ S=>(g δ S).bind fun v S1=>match v with
 | .loc k=>(match kU S1 c k with | some fs=>(match fs.lookup f with | some v=> .ok v S1 | none=> .no) | none=> .no)
 | _=> .no
theorem pN{c:Nat}{pos:Pos}(hC:vE X.K (cl c))(hn:dY X.K (cl c) f)(he:PX X cl e g)(hb:attributeBase e f X.env (eval e X.env)=eval e X.env:=by rfl):PX X cl (.Attribute e f pos) (wC c f g):=⟨(GK he.1 hb).imp fun σ H Q ⟨ρ,S,δ,v,S',E,hf,q⟩=>by
 obtain⟨o,S1,h1,h2⟩:=R3.ai hf;split at h2
 .rename_i k;split at h2
  .rename_i fs e1;split at h2
   .rename_i w kl;cases h2;refine⟨ρ,S,δ, .loc k,_,E,h1,fun u c_ H1 p1 w1 r1=>?_⟩
    unfold a_ at r1;obtain⟨a,a1,rfl⟩:=r1;obtain⟨dx,ys,ey,ek,rs⟩:=w1.ob k a _ a1 (jM e1);obtain⟨x,hx,rx⟩:=xA ek rs kl;exact⟨a,cl c,dx,ys,x,rfl,ey,hC,hn,hx,q x c_ H1 p1 w1 rx⟩
   .cases h2
  .cases h2
 .cases h2⟩
theorem w_fld{c k:Nat}{g:FX}{δ:DE}{S:bc}{Q:V3->bc->Prop}(h:W3 (g δ S) fun v S1=>∃fs w,v= .loc k/\S1[k]? =some (.ins c fs)/\fs.lookup f=some w/\Q w S1):W3 (wC c f g δ S) Q:=
 W3.bind (h.mono fun v S1 ⟨fs,w,e1,kl,e3,q⟩=>by
  subst e1;have e4:kU S1 c k=some fs:=by unfold kU;simp only[kl,if_true]
  simp only[e4,e3];exact W3.ok q)
def oB(P:Program)(w:World)(K:W.Frag)(mg:Rt)(base:Heap)(cl:Ru)(k c:Nat)(m:Str)(n:Nat)(g:List V3->bc->R3 V3):Prop:=
 ∃(f:Addr) (fd:FuncData) (ps:List Str),vE K (cl c)/\Meth K (cl c) m f/\gR P w K mg base q8 k f fd ps (A2 K cl (n+1) g)/\Binds K fd ps []
def pF(c:Nat)(m:Str)(g:List V3->bc->R3 V3)(fo:FX)(fs:FA):FX:=fun δ S=>(fo δ S).bind fun o S1=>match o with
 | .loc k=>(match kU S1 c k with | some ys=>(match ys.lookup m with | none=>(fs δ S1).bind fun vs S2=>g (.loc k ::vs) S2 | some _=> .no) | none=> .no)
 | _=> .no
theorem pq{g:List V3->bc->R3 V3}{k j n c:Nat}{m:Str}{o e:Expr}{es:List Expr}{fo:FX}{fs:FA}{apos pos:Pos}{pl:Sem Bool}(M:oB X.prog X.w X.K X.mg X.base cl k c m n g)(hr:dR j X.A)(Cq:k<=j)(ho:PX X cl o fo)(ha:E5 X cl (e ::es) fs)(hn:∀δ S ds S',fs δ S= .ok ds S'->ds.length=n)
 (Cv:starEach (e ::es) X.env=(false,eval e X.env) ::starEach es X.env:=by rfl) (kx:(backTo pos (starEach es X.env)).any (·.1)=false:=by rfl)
 (ht:eval (.Call (.Attribute o m apos) (e ::es) [] pos) X.env=(do
   let ov <-eval o X.env
   standAt apos.atName
   let(f,first) <-holding [ov] (getMethod ov m pl)
   callWith pos f first (backTo pos (starEach (e ::es) X.env)) (backToKw pos (keywordEach [] X.env))):=by rfl) :
 PX X cl (.Call (.Attribute o m apos) (e ::es) [] pos) (pF c m g fo fs):=by
 obtain⟨f,fd,ps,hC,hm,F,hb⟩:=M;refine⟨(DC ho.1 hC hm F (hr.mono Cq) hb .nil ui ha.1 Cv kx ht).imp fun σ H Q ⟨ρ,S,δ,v,S',E,hf,q⟩=>?_⟩
 obtain⟨ov,S1,h1,h2⟩:=R3.ai hf;split at h2
 .rename_i kk;split at h2
  .rename_i ys e1;split at h2
   .rename_i kl;obtain⟨vs,S2,h3,h4⟩:=R3.ai h2;refine⟨ρ,S,δ, .loc kk,S1,E,h1,fun u c_ H1 p1 w1 r1=>?_⟩
    have so:=r1;unfold a_ at r1;obtain⟨a,a1,rfl⟩:=r1;obtain⟨dx,zs,ey,ek,rs⟩:=w1.ob kk a _ a1 (jM e1);refine⟨a,dx,zs,rfl,ey,vq ek kl,c_,S1,δ,vs,S2,E.to p1 w1,h3,fun us t_ H2 p2 w2 r2=>?_⟩
    show A2 X.K cl (n+1) g (V.ref a ::(us++[])) H2 Q E0;rw[List.append_nil];exact⟨by rw[List.length_cons,<-r2.length,hn δ S1 vs S2 h3],t_,S2, .loc kk ::vs,v,S',w2,aC.cons (so.pre p2) r2,h4,fun z Hw H3 p3 w3 r3=>q z Hw H3 (p1.trans (p2.trans p3)) w3 r3⟩
   .cases h2
  .cases h2
 .cases h2
def B8(P:Program)(w:World)(K:W.Frag)(mg:Rt)(base:Heap)(cl:Ru)(k c:Nat)(x:Str)(n:Nat)(g:List V3->bc->R3 V3):Prop:=
 ∃(f:Addr) (fd:FuncData) (ps:List Str),Mk K (cl c) f/\gR P w K mg base q8 k f fd ps (A2 K cl (n+1) g)/\mg x=some (.ref (cl c))/\Binds K fd ps []
def AI(c:Nat)(g:List V3->bc->R3 V3)(fs:FA):FX:=fun δ S=>(fs δ S).bind fun vs S1=>(g (.loc S1.length ::vs) (S1++[.ins c []])).bind fun v S2=>match v with
 | .d .cz=> .ok (.loc S1.length) S2
 | _=> .no
theorem C6{g:List V3->bc->R3 V3}{k j n c:Nat}{x:Str}{p pos:Pos}{e:Expr}{es:List Expr}{fs:FA}(M:B8 X.prog X.w X.K X.mg X.base cl k c x n g)(hr:dR j X.A)(Cq:k+1<=j)(hg:Gl X x)(ha:E5 X cl (e ::es) fs)(hn:∀δ S ds S',fs δ S= .ok ds S'->ds.length=n)
 (oA:(x==("__debug__":Str))=false:=by decide) (he:starEach (e ::es) X.env=(false,eval e X.env) ::starEach es X.env:=by rfl) (kx:(backTo pos (starEach es X.env)).any (·.1)=false:=by rfl) :
 PX X cl (.Call (.Name x p) (e ::es) [] pos) (AI c g fs):=by
 obtain⟨f,fd,ps,M,F,hm,hb⟩:=M;refine⟨(DU M F (hr.mono Cq) hg hm hb .nil ui ha.1 oA he kx).imp fun σ H Q ⟨ρ,S,δ,v,S',E,hf,q⟩=>?_⟩
 obtain⟨vs,S1,h1,h2⟩:=R3.ai hf;obtain⟨v0,S2,h3,h4⟩:=R3.ai h2;split at h4
 .cases h4;refine⟨ρ,S,δ,vs,S1,E,h1,fun us c_ H1 p1 w1 r1 xa dx hx Pp Cg=>?_⟩
  have hx1:upd H1 dx (.own xa) xa=none:=by rw[aS (fun z=>Cg z.symm)];exact hx
  have sm:aK H1 (upd (upd H1 dx (.own xa)) xa (.ins (cl c) dx [])):=(aW Pp).trans (aW hx1);obtain⟨w2,p2⟩:=w1.new (a:=xa) (o:= .ins c []) sm hx ⟨dx,[],aV,rfl,aC.nil⟩;show A2 X.K cl (n+1) g (V.ref xa ::(us++[])) _ _ E0;rw[List.append_nil];have rl:a_ X.K (c_.push xa) (upd (upd H1 dx (.own xa)) xa (.ins (cl c) dx [])) (.loc S1.length) (.ref xa):=by
   unfold a_;exact⟨xa,by show(c_.r++[xa])[_]? =_;rw [<-w1.len,List.getElem?_append_right (Nat.le_refl _),Nat.sub_self];rfl,rfl⟩
  exact⟨by rw[List.length_cons,<-r1.length,hn δ S vs S1 h1],_,_, .loc S1.length ::vs, .d .cz,_,w2,aC.cons rl (r1.pre p2),h3,fun z Hw H3 p3 w3 r3=>⟨by unfold a_ Rep at r3;exact r3,q _ Hw H3 (p1.trans (p2.trans p3)) w3 (rl.pre p3)⟩⟩
 .cases h4
def zg(c:Nat)(f:Str)(fo fe:FX):FZ:=fun δ S=>(fe δ S).bind fun v S1=>(fo δ S1).bind fun o S2=>match o with
 | .loc k=>(match kU S2 c k with | some fs=>R3.aU (decide (fs.length < 1000)) (.ok (.nx δ) (S2.set k (.ins c (uM f v fs)))) | none=> .no)
 | _=> .no
theorem tJ{c:Nat}{pos pos':Pos}(hC:vE X.K (cl c))(hn:dY X.K (cl c) f)(ho:PX X cl o fo)(he:PX X cl value fe)(hs:swapsWith value (some (.Attribute o f pos')) pos.line X.env=pure false:=by rfl) :
 PZ X cl (.Assign [.Attribute o f pos'] value pos) (zg c f fo fe):=⟨(Gk ho.1 he.1 hs).imp fun D σ H ⟨ρ,S,δ,ou,S',E,hf,q⟩=>by
 obtain⟨v,S1,h1,h2⟩:=R3.ai hf;obtain⟨vo,S2,h3,h4⟩:=R3.ai h2;split at h4
 .rename_i k;split at h4
  .rename_i fs e1;obtain⟨hl,h5⟩:=R3.aT h4;cases h5;refine⟨ρ,S,δ,v,S1,E,h1,fun u c_ H1 p1 w1 r1=>⟨c_,S1,δ, .loc k,S2,E.to p1 w1,h3,fun u2 t_ H2 p2 w2 r2=>?_⟩⟩
   unfold a_ at r2;obtain⟨a,a1,rfl⟩:=r2;obtain⟨dx,ys,ey,ek,rs⟩:=w2.ob k a _ a1 (jM e1);have hlen:ys.length=fs.length:=by have:=congrArg List.length ek;simpa using this
   obtain⟨k1,k2⟩:=xG (f:=f) (r1.pre p2) ek rs;obtain⟨w3,p3⟩:=w2.put (o:= .ins c (uM f v fs)) (u:= .ins (cl c) dx (i4 f u ys)) a1 (w2.fz k a a1 (by rw[jM e1];intro h;cases h)) ⟨dx,_,rfl,k1,k2⟩
   exact⟨a,cl c,dx,ys,rfl,ey,hC,hn,by rw[hlen];exact of_decide_eq_true hl,q σ t_ _ (p1.trans (p2.trans p3)) (E.to (p1.trans (p2.trans p3)) w3)⟩
  .cases h4
 .cases h4⟩
theorem m_{c k:Nat}{fo fe:FX}{δ:DE}{S:bc}{QO:Ou->bc->Prop}(h:W3 (fe δ S) fun v S1=>W3 (fo δ S1) fun o S2=>∃fs,o= .loc k/\S2[k]? =some (.ins c fs)/\fs.length < 1000/\QO (.nx δ) (S2.set k (.ins c (uM f v fs)))):W3 (zg c f fo fe δ S) QO:=
 W3.bind (h.mono fun v S1 h=>W3.bind (h.mono fun o S2 ⟨fs,e1,kl,hl,q⟩=>by
  subst e1;have e4:kU S2 c k=some fs:=by unfold kU;simp only[kl,if_true]
  simp only[e4];exact W3.wh (decide_eq_true hl) (W3.ok q)))
theorem v7{c k:Nat}{g:List V3->bc->R3 V3}{fo:FX}{fs:FA}{δ:DE}{S:bc}{Q:V3->bc->Prop}(h:W3 (fo δ S) fun o S1=>∃ys,o= .loc k/\S1[k]? =some (.ins c ys)/\ys.lookup m=none/\W3 (fs δ S1) fun vs S2=>W3 (g (.loc k ::vs) S2) Q):W3 (pF c m g fo fs δ S) Q:=
 W3.bind (h.mono fun o S1 ⟨ys,e1,kl,e3,h⟩=>by
  subst e1;have e4:kU S1 c k=some ys:=by unfold kU;simp only[kl,if_true]
  simp only[e4,e3];exact W3.bind h)
theorem G3{c:Nat}{g:List V3->bc->R3 V3}{fs:FA}{δ:DE}{S:bc}{Q:V3->bc->Prop}(h:W3 (fs δ S) fun vs S1=>W3 (g (.loc S1.length ::vs) (S1++[.ins c []])) fun v S2=>v= .d .cz/\Q (.loc S1.length) S2):W3 (AI c g fs δ S) Q:=
 W3.bind (h.mono fun vs S1 h=>W3.bind (h.mono fun v S2 ⟨e,q⟩=>by subst e;exact W3.ok q))
end
end L3
end
section
namespace PySem
open Sem (wp)
def eW(t:Bool)(h:Heap)(i l:Addr)(k:Nat):Prop:=cond t (h.IsTupleIter i l k) (h.IsListIter i l k)
def iE(t:Bool)(h:Heap)(l:Addr)(xs:Array Value):Prop:=cond t (h.IsTuple l xs) (h.IsList l xs)
def pL(t:Bool):String:=cond t "tuple_iterator" "list_iterator"
theorem eW.at{t:Bool}{h h':Heap}{i l:Addr}{k:Nat}(x:eW t h i l k)(e:∀o,h.get? i=some o->h'.get? i=some o):eW t h' i l k:=by
 cases t with
 | true=>exact Heap.IsTupleIter.at x e
 | false=>exact Heap.IsListIter.at x e
theorem iE.at{t:Bool}{h h':Heap}{l:Addr}{xs:Array Value}(x:iE t h l xs)(e:∀o,h.get? l=some o->h'.get? l=some o):iE t h' l xs:=by
 cases t with
 | true=>exact Heap.IsTuple.at x e
 | false=>exact Heap.IsList.at x e
theorem eW.xb{t:Bool}{i l b:Addr}{k:Nat}(x:eW t h i l k)(hs:Heap.ExtBut b h h')(Mh:i≠b):eW t h' i l k:=x.at fun o e=>hs i o Mh e
theorem iE.xb{t:Bool}{l b:Addr}{xs:Array Value}(x:iE t h l xs)(hs:Heap.ExtBut b h h')(Mh:l≠b):iE t h' l xs:=x.at fun o e=>hs l o Mh e
theorem eW.ob{t:Bool}{h:Heap}{i l:Addr}{k:Nat}(x:eW t h i l k):∃o,h.get? i=some o/\∀v,o.data≠ .cell v:=by
 cases t with
 | true=>obtain⟨o,e,_,d⟩:=x;exact⟨o,e,fun v z=>by rw[d] at z;cases z⟩
 | false=>obtain⟨o,e,_,d⟩:=x;exact⟨o,e,fun v z=>by rw[d] at z;cases z⟩
theorem iE.lt{t:Bool}{h:Heap}{l:Addr}{xs:Array Value}(x:iE t h l xs):l < h.objs.size:=by
 cases t with
 | true=>obtain⟨o,e,_⟩:=x;exact Heap.lt_size e
 | false=>obtain⟨o,e,_⟩:=x;exact Heap.lt_size e
theorem eW.lt{t:Bool}{h:Heap}{i l:Addr}{k:Nat}(x:eW t h i l k):i < h.objs.size:=let⟨_,e,_⟩:=x.ob;Heap.lt_size e
section
variable {prog:Program} {w:World} {A:Around} {E:Ro} {s:Shared}
theorem hW{t:Bool}{it l:Addr}{i:Nat}{items:Array Value}{x:Value}{Q:Ro}(hit:eW t s.heap it l i)(hl:iE t s.heap l items)(hx:items[i]? =some x)
 (hQ:∀h',eW t h' it l (i+1)->Heap.SameBut it s.heap h'->Q x {s with heap:=h'}):wpAny (model prog w) A (Builtin.SmallTypes.nextOf (.ref it)) Q E s:=by
 cases t with
 | true=>exact kj hit hl hx hQ
 | false=>exact wpAny_nextOf_list_item hit hl hx hQ
theorem lY{t:Bool}{it l:Addr}{i:Nat}{items:Array Value}{Q:Ro}(hh:A.handled=none)(hit:eW t s.heap it l i)(hl:iE t s.heap l items)(hx:items[i]? =none)
 (hE:∀h' e,Heap.ExtBut it s.heap h'->(∃o,h'.get? e=some o/\o.cls= .type "StopIteration")->E (.ref e) {s with heap:=h'}):wpAny (model prog w) A (Builtin.SmallTypes.nextOf (.ref it)) Q E s:=by
 cases t with
 | true=>exact g8 hh hit hl hx hE
 | false=>exact wpAny_nextOf_list_end hh hit hl hx hE
theorem sd{t:Bool}{l:Addr}{items:Array Value}{Q:Ro}(hl:iE t s.heap l items)
 (hQ:Q (.ref s.heap.objs.size) {s with heap:=s.heap.push {cls:= .type (pL t),data:= .fields #[.ref l, .int 0 0]}}):wpAny (model prog w) A (pyIter (.ref l)) Q E s:=by
 cases t with
 | true=>exact wpAny_pyIter_tuple hl hQ
 | false=>exact wpAny_pyIter_list hl hQ
theorem zl{t u:Bool}{z TI TO i1 i2 l1 l2:Addr}{k1 k2:Nat}{xs ys:Array Value}{x y a b:Value}{Q:Ro}(D:ZipApart z TI TO i1 i2 l1 l2)(hz:IsZip s.heap z TI TO .none)(xf:IsPair s.heap TI (.ref i1) (.ref i2))
 (yp:IsPair s.heap TO a b) (h1:eW t s.heap i1 l1 k1) (h2:eW u s.heap i2 l2 k2) (CK:iE t s.heap l1 xs) (Ex:iE u s.heap l2 ys) (hx:xs[k1]? =some x) (hy:ys[k2]? =some y)
 (hQ:∀h',IsZip h' z TI TO (rawInt s.heap.objs.size)->IsPair h' TO x y->eW t h' i1 l1 (k1+1)->eW u h' i2 l2 (k2+1)->IsPair h' s.heap.objs.size x y->h'.objs.size=s.heap.objs.size+1->(∀c o,c≠z->c≠TO->c≠i1->c≠i2->s.heap.get? c=some o->h'.get? c=some o)->Q (.ref s.heap.objs.size) {s with heap:=h'}) :
 wpAny (model prog w) A (Builtin.«zip.__next__» ⟨[.ref z],[]⟩) (fun fin s'=>∃v,fin= .done (.ret v)/\Q v s') E s:=by
 show wpAny _ _ (field (.ref z) 2 >>=_) _ _ _;refine wpAny_bind (wpAny_field hz rfl (x:= .bool false) rfl ?_);show wpAny _ _ (field (.ref z) 3 >>=_) _ _ _;refine wpAny_bind (wpAny_field hz rfl (x:= .ref TI) rfl ?_);refine wpAny_bind (wpAny_seqItems xf rfl ?_);show wpAny _ _ (Builtin.SmallTypes.ownedTupleIsFree (.ref z) >>=_) _ _ _;refine wpAny_bind ?_;unfold Builtin.SmallTypes.ownedTupleIsFree;refine wpAny_bind (wpAny_field hz rfl (x:= .none) rfl (wpAny_pure ?_));simp only[if_true];refine wpAny_bind (wpAny_rule ?_);refine wpAny_bind (wpAny_field hz rfl (x:= .ref TO) rfl ?_);refine wpAny_bind (wpAny_setField_rec hz (by simp) fun gM l6 gC=>?_)
 replace l6:IsZip gM z TI TO .ellipsis:=l6;refine wpAny_bind ?_;simp only[List.zipIdx_cons,List.zipIdx_nil,List.forIn_cons,List.forIn_nil]
 refine wpAny_bind (wpAny_bind (wpAny_onRaise ?_));show wpAny _ _ (Builtin.SmallTypes.nextOf (.ref i1) >>=_) _ _ _;refine wpAny_bind (hW (h1.xb gC.extBut D.i1z) (CK.xb gC.extBut D.l1z) hx fun fL Fj cy=>wpAny_pure ?_)
 have hTO₂:IsPair fL TO a b:=cy.extBut _ _ D.TOi1 (gC.extBut _ _ D.TOz yp);refine wpAny_bind (wpAny_seqItems hTO₂ rfl ?_);refine wpAny_bind (wpAny_updateSeq_pair hTO₂ fun ED t7 iV=>?_)
 replace t7:IsPair ED TO x b:=t7;refine wpAny_bind (wpAny_letGo (wpAny_pure ?_));refine wpAny_bind (wpAny_bind (wpAny_onRaise ?_));show wpAny _ _ (Builtin.SmallTypes.nextOf (.ref i2) >>=_) _ _ _
 refine wpAny_bind (hW (((h2.xb gC.extBut D.i2z).xb cy.extBut D.i12.symm).xb iV.extBut D.TOi2.symm) (((Ex.xb gC.extBut D.l2z).xb cy.extBut D.l2i1).xb iV.extBut D.l2TO) hy fun Hs JO oT=>wpAny_pure ?_)
 have hTO₄:IsPair Hs TO x b:=oT.extBut _ _ D.TOi2 t7;refine wpAny_bind (wpAny_seqItems hTO₄ rfl ?_);refine wpAny_bind (wpAny_updateSeq_pair hTO₄ fun lN t9 oU=>?_)
 replace t9:IsPair lN TO x y:=t9;refine wpAny_bind (wpAny_letGo (wpAny_pure (wpAny_pure ?_)));refine wpAny_bind (wpAny_seqItems t9 rfl ?_);refine wpAny_bind (wpAny_newTuple ?_)
 have vG:lN.objs.size=s.heap.objs.size:=(oU.1.trans (oT.1.trans (iV.1.trans (cy.1.trans gC.1))));have hz₅:IsZip lN z TI TO .ellipsis:=oU.extBut _ _ D.TOz.symm <| oT.extBut _ _ D.i2z.symm <| iV.extBut _ _ D.TOz.symm <| cy.extBut _ _ D.i1z.symm l6
 have hk₅:∀c o,c≠z->c≠TO->c≠i1->c≠i2->s.heap.get? c=some o->lN.get? c=some o:=fun c o c1 c2 c3 c4 e=>oU.extBut _ _ c2 <| oT.extBut _ _ c4 <| iV.extBut _ _ c2 <| cy.extBut _ _ c3 <| gC.extBut _ _ c1 e
 have h1₅:eW t lN i1 l1 (k1+1):=((Fj.xb iV.extBut D.TOi1.symm).xb oT.extBut D.i12).xb oU.extBut D.TOi1.symm;have h2₅:eW u lN i2 l2 (k2+1):=JO.xb oU.extBut D.TOi2.symm;have hzlt:=Heap.lt_size hz₅;show wpAny _ _ (Builtin.SmallTypes.ownedTupleHandOut (.ref z) (.ref lN.objs.size) >>=_) _ _ _;refine wpAny_bind ?_;unfold Builtin.SmallTypes.ownedTupleHandOut;have hz₆:IsZip (lN.push {cls:= .type "tuple",data:= .seq #[x,y]}) z TI TO .ellipsis:=Heap.get?_push_of_some _ hz₅;refine wpAny_bind (wpAny_setField_rec hz₆ (by simp) fun Mj Cm Cj=>?_)
 replace Cm:IsZip Mj z TI TO (rawInt lN.objs.size):=Cm;refine wpAny_setField_rec Cm (by simp) fun Co yn Cr=>?_;replace yn:IsZip Co z TI TO (rawInt lN.objs.size):=yn
 have up:∀c o,c≠z->lN.get? c=some o->Co.get? c=some o:=fun c o c1 e=>Cr.extBut _ _ c1 <| Cj.extBut _ _ c1 (Heap.get?_push_of_some _ e)
 have hT₈:IsPair Co lN.objs.size x y:=Cr.extBut _ _ (Nat.ne_of_gt hzlt) <| Cj.extBut _ _ (Nat.ne_of_gt hzlt) (Heap.get?_push_size _ rfl)
 have hz8:Co.objs.size=lN.objs.size+1:=(Cr.1.trans Cj.1).trans (Heap.size_push ..);rw[vG] at yn hT₈ hz8;refine wpAny_pure ⟨_,rfl,?_⟩;show Q (.ref lN.objs.size) _;rw [vG];exact hQ Co yn (up _ _ D.TOz t9) (h1₅.at fun o e=>up _ o D.i1z e) (h2₅.at fun o e=>up _ o D.i2z e) hT₈ hz8 fun c o c1 c2 c3 c4 e=>up c o c1 (hk₅ c o c1 c2 c3 c4 e)
theorem Bc{t u:Bool}{z TI TO i1 i2 l1 l2:Addr}{k1 k2:Nat}{xs ys:Array Value}{a b:Value}{Q:Fin->Shared->Prop}(hh:A.handled=none)(D:ZipApart z TI TO i1 i2 l1 l2)(hz:IsZip s.heap z TI TO .none)
 (xf:IsPair s.heap TI (.ref i1) (.ref i2)) (yp:IsPair s.heap TO a b) (h1:eW t s.heap i1 l1 k1) (h2:eW u s.heap i2 l2 k2) (CK:iE t s.heap l1 xs) (Ex:iE u s.heap l2 ys) (Mb:xs[k1]? =none\/ys[k2]? =none)
 (hE:∀h' e,(∀c o,c≠z->c≠TO->c≠i1->c≠i2->s.heap.get? c=some o->h'.get? c=some o)->(∃o,h'.get? e=some o/\o.cls= .type "StopIteration")->E (.ref e) {s with heap:=h'}):wpAny (model prog w) A (Builtin.«zip.__next__» ⟨[.ref z],[]⟩) Q E s:=by
 show wpAny _ _ (field (.ref z) 2 >>=_) _ _ _;refine wpAny_bind (wpAny_field hz rfl (x:= .bool false) rfl ?_);show wpAny _ _ (field (.ref z) 3 >>=_) _ _ _;refine wpAny_bind (wpAny_field hz rfl (x:= .ref TI) rfl ?_);refine wpAny_bind (wpAny_seqItems xf rfl ?_);show wpAny _ _ (Builtin.SmallTypes.ownedTupleIsFree (.ref z) >>=_) _ _ _;refine wpAny_bind ?_;unfold Builtin.SmallTypes.ownedTupleIsFree;refine wpAny_bind (wpAny_field hz rfl (x:= .none) rfl (wpAny_pure ?_));simp only[if_true];refine wpAny_bind (wpAny_rule ?_);refine wpAny_bind (wpAny_field hz rfl (x:= .ref TO) rfl ?_);refine wpAny_bind (wpAny_setField_rec hz (by simp) fun gM l6 gC=>?_)
 replace l6:IsZip gM z TI TO .ellipsis:=l6;refine wpAny_bind ?_;simp only[List.zipIdx_cons,List.zipIdx_nil,List.forIn_cons,List.forIn_nil]
 refine wpAny_bind (wpAny_bind (wpAny_onRaise ?_));show wpAny _ _ (Builtin.SmallTypes.nextOf (.ref i1) >>=_) _ _ _;cases hx:xs[k1]? with
 | none=>
   refine wpAny_bind (lY hh (h1.xb gC.extBut D.i1z) (CK.xb gC.extBut D.l1z) hx fun fL e cy he=>?_)
   obtain⟨oe,hoe,hce⟩:=he;have ym:IsZip fL z TI TO .ellipsis:=cy _ _ D.i1z.symm l6;have hez:e≠z:=fun x=>by {subst x;rw [ym] at hoe;cases hoe;simp at hce}
   exact wpAny_setField_rec ym (by simp) fun ED _ iV=>hE ED e (fun c o c1 _ c3 _ x=>iV.extBut _ _ c1 <| cy _ _ c3 <| gC.extBut _ _ c1 x) ⟨oe,iV.extBut _ _ hez hoe,hce⟩
 | some x=>
   have hy:ys[k2]? =none:=Mb.resolve_left fun h=>by {rw [hx] at h;cases h}
   refine wpAny_bind (hW (h1.xb gC.extBut D.i1z) (CK.xb gC.extBut D.l1z) hx fun fL Fj cy=>wpAny_pure ?_)
   have hTO₂:IsPair fL TO a b:=cy.extBut _ _ D.TOi1 (gC.extBut _ _ D.TOz yp);refine wpAny_bind (wpAny_seqItems hTO₂ rfl ?_);refine wpAny_bind (wpAny_updateSeq_pair hTO₂ fun ED t7 iV=>?_)
   refine wpAny_bind (wpAny_letGo (wpAny_pure ?_));refine wpAny_bind (wpAny_bind (wpAny_onRaise ?_));show wpAny _ _ (Builtin.SmallTypes.nextOf (.ref i2) >>=_) _ _ _;refine wpAny_bind (lY hh (((h2.xb gC.extBut D.i2z).xb cy.extBut D.i12.symm).xb iV.extBut D.TOi2.symm) (((Ex.xb gC.extBut D.l2z).xb cy.extBut D.l2i1).xb iV.extBut D.l2TO) hy fun Hs e oT he=>?_)
   obtain⟨oe,hoe,hce⟩:=he;have hz₄:IsZip Hs z TI TO .ellipsis:=oT _ _ D.i2z.symm <| iV.extBut _ _ D.TOz.symm <| cy.extBut _ _ D.i1z.symm l6
   have hez:e≠z:=fun x=>by {subst x;rw [hz₄] at hoe;cases hoe;simp at hce}
   exact wpAny_setField_rec hz₄ (by simp) fun lN _ oU=>hE lN e (fun c o c1 c2 c3 c4 x=>oU.extBut _ _ c1 <| oT _ _ c4 <| iV.extBut _ _ c2 <| cy.extBut _ _ c3 <| gC.extBut _ _ c1 x) ⟨oe,oU.extBut _ _ hez hoe,hce⟩
end
abbrev Kj(t:Bool)(h:Heap)(l1:Addr):Heap:=h.push {cls:= .type (pL t),data:= .fields #[.ref l1, .int 0 0]}
abbrev Kd(t u:Bool)(h:Heap)(l1 l2:Addr):Heap:=(Kj t h l1).push {cls:= .type (pL u),data:= .fields #[.ref l2, .int 0 0]}
abbrev J8(t u:Bool)(h:Heap)(l1 l2:Addr):Heap:=(Kd t u h l1 l2).push {cls:= .type "tuple",data:= .seq #[.ref h.objs.size, .ref (Kj t h l1).objs.size]}
abbrev Kk(t u:Bool)(h:Heap)(l1 l2:Addr):Heap:=(J8 t u h l1 l2).push {cls:= .type "tuple",data:= .seq #[.none, .none]}
abbrev HA(t u:Bool)(h:Heap)(l1 l2:Addr):Heap:=(Kk t u h l1 l2).push {cls:= .type "zip",data:= .fields #[.none, .bool false, .bool false, .ref (Kd t u h l1 l2).objs.size, .ref (J8 t u h l1 l2).objs.size]}
theorem wz(t u:Bool)(l1 l2:Addr)(xs ys:Array Value):Meets (Builtin.«zip.__new__» ⟨[.type "zip", .ref l1, .ref l2],[]⟩) (fun _ R s=>iE t s.heap l1 xs/\iE u s.heap l2 ys/\R (.ok (.ret (.ref (Kk t u s.heap l1 l2).objs.size))) {s with heap:=HA t u s.heap l1 l2}):=
 .of_wp fun prog w A R s h=>by
   obtain⟨hp,g,d,tk,os⟩:=s;obtain⟨CK,Ex,h⟩:=h;have hsub:=sub_zip;have hL1:iE t (Shared.heap ⟨hp,g,d,tk,os⟩) l1 xs:=CK;have hL2:iE u (Shared.heap ⟨hp.push {cls:= .type (pL t),data:= .fields #[.ref l1, .int 0 0]},g,d,tk,os⟩) l2 ys:=Ex.at fun o e=>Heap.get?_push_of_some _ e
   wp_walk using sd hL1,sd hL2
   exact⟨_,rfl,h⟩
theorem eW.new{t:Bool}{h:Heap}{i l:Addr}(e:h.get? i=some {cls:= .type (pL t),data:= .fields #[.ref l, .int 0 0]}):eW t h i l 0:=by
 cases t with
 | true=>exact⟨_,e,rfl,rfl⟩
 | false=>exact⟨_,e,rfl,rfl⟩
theorem zj{prog:Program}{w:World}{A:Around}{E:Ro}{s:Shared}{t u:Bool}{l1 l2:Addr}{xs ys:Array Value}{Q:Ro}(CK:iE t s.heap l1 xs)(Ex:iE u s.heap l2 ys)
 (h:∀h',IsZip h' (s.heap.objs.size+4) (s.heap.objs.size+2) (s.heap.objs.size+3) .none->IsPair h' (s.heap.objs.size+2) (.ref s.heap.objs.size) (.ref (s.heap.objs.size+1))->IsPair h' (s.heap.objs.size+3) .none .none->
   eW t h' s.heap.objs.size l1 0->eW u h' (s.heap.objs.size+1) l2 0->(∀c o,s.heap.get? c=some o->h'.get? c=some o)->Q (.ref (s.heap.objs.size+4)) {s with heap:=h'}):wpAny (model prog w) A (call (.type "zip") [.ref l1, .ref l2]) Q E s:=by
 refine callType_new F.called_zip (by decide) (F.typeCall_zip_2 _ _) (F.newCall_zip_2 _ _) (fun obj=>F.args_object_init_3 obj _ _) F.entry_zip_new (wz t u l1 l2 xs ys) ⟨CK,Ex,?_⟩
 have z1:(Kj t s.heap l1).objs.size=s.heap.objs.size+1:=Heap.size_push ..;have z2:(Kd t u s.heap l1 l2).objs.size=s.heap.objs.size+2:=(Heap.size_push ..).trans (congrArg (·+1) z1)
 have z3:(J8 t u s.heap l1 l2).objs.size=s.heap.objs.size+3:=(Heap.size_push ..).trans (congrArg (·+1) z2)
 have z4:(Kk t u s.heap l1 l2).objs.size=s.heap.objs.size+4:=(Heap.size_push ..).trans (congrArg (·+1) z3)
 have g5:(HA t u s.heap l1 l2).get? (Kk t u s.heap l1 l2).objs.size=some _:=Heap.get?_push_size _ rfl;have g4:(HA t u s.heap l1 l2).get? (J8 t u s.heap l1 l2).objs.size=some _:=Heap.get?_push_of_some _ (Heap.get?_push_size _ rfl);have g3:(HA t u s.heap l1 l2).get? (Kd t u s.heap l1 l2).objs.size=some _:=Heap.get?_push_of_some _ <| Heap.get?_push_of_some _ (Heap.get?_push_size _ rfl)
 have g2:(HA t u s.heap l1 l2).get? (Kj t s.heap l1).objs.size=some _:=Heap.get?_push_of_some _ <| Heap.get?_push_of_some _ <| Heap.get?_push_of_some _ (Heap.get?_push_size _ rfl)
 have g1:(HA t u s.heap l1 l2).get? s.heap.objs.size=some _:=Heap.get?_push_of_some _ <| Heap.get?_push_of_some _ <| Heap.get?_push_of_some _ <| Heap.get?_push_of_some _ (Heap.get?_push_size _ rfl)
 show _/\_;rw[z2,z3,z4] at g5;rw [z1,z2] at g3;rw [z3] at g4;rw [z1] at g2;rw [z4];exact⟨⟨_,g5,rfl⟩,h _ g5 g3 g4 (eW.new g1) (eW.new g2) fun c o x=>Heap.get?_push_of_some _ <| Heap.get?_push_of_some _ <| Heap.get?_push_of_some _ <| Heap.get?_push_of_some _ <| Heap.get?_push_of_some _ x⟩
end PySem
namespace L2
open PySem PySem.Spec PyProof.Rows
def CG(t:Bool)(K:W.Frag)(H:Hp)(a:Addr)(xs:List V):Prop:=cond t (oX K H a xs) (mG K H a xs)
theorem Inv.AH{X:Cx}{pins:Rn}{σ:L2.St}{s:Shared}{t:Bool}{a:Addr}{xs:List V}(I:Inv X pins σ H s)(h:CG t X.K H a xs):∃its:List Value,Vals xs its/\iE t s.heap a its.toArray:=by
 cases t with
 | true=>obtain⟨its,r,p,_⟩:=I.tuple h;exact⟨its,r,p⟩
 | false=>obtain⟨its,r,p,_⟩:=I.list h;exact⟨its,r,p.isList⟩
theorem Inv.xW{X:Cx}{pins:Rn}{σ:L2.St}{s:Shared}{t:Bool}{a:Addr}{xs ys:List V}(I:Inv X pins σ H s)(h:CG t X.K H a xs)(h':CG t X.K H a ys):xs=ys:=by
 cases t with
 | true=>exact I.nS h h'
 | false=>exact I.mK h h'
def O1(K:W.Frag)(t u:Bool)(a b:Addr):It:=
 ⟨fun i H=>∃xs ys x y,CG t K H a xs/\CG u K H b ys/\xs[i]? =some x/\ys[i]? =some y,
  fun i H v H'=>∃p x y,H p=none/\v= .ref p/\(∀xs,CG t K H a xs->xs[i]? =some x)/\(∀ys,CG u K H b ys->ys[i]? =some y)/\H'=upd H p (.tup [x,y]),
  fun i H=>∃xs ys,CG t K H a xs/\CG u K H b ys/\(xs.length<=i\/ys.length<=i)⟩
theorem A9{K:W.Frag}{k:Nat}{t u:Bool}{z TI TO i1 i2 a b:Addr}(D:ZipApart z TI TO i1 i2 a b):Turn P w K (.Tuple elts k pos) (O1 K t u a b) [z,TI,TO,i1,i2] z
 (fun i h=>IsZip h z TI TO .none/\IsPair h TI (.ref i1) (.ref i2)/\(∃x y,IsPair h TO x y)/\eW t h i1 a i/\eW u h i2 b i) where
 mem:=by simp
 obj:=fun i h st c hc=>by
  obtain⟨hz,xf,⟨x,y,yp⟩,h1,h2⟩:=st;simp only[List.mem_cons,List.not_mem_nil,or_false] at hc;rcases hc with rfl | rfl | rfl | rfl | rfl
  .exact⟨_,hz,fun v z=>by cases z⟩
  .exact⟨_,xf,fun v z=>by cases z⟩
  .exact⟨_,yp,fun v z=>by cases z⟩
  .exact h1.ob
  .exact h2.ob
 keep:=fun i h h' st k=>by
  obtain⟨hz,xf,⟨x,y,yp⟩,h1,h2⟩:=st;exact⟨k z (by simp) _ hz,k TI (by simp) _ xf,⟨x,y,k TO (by simp) _ yp⟩,h1.at fun o e=>k i1 (by simp) o e,h2.at fun o e=>k i2 (by simp) o e⟩
 item:=by
  intro X hP hw hK hc i pins s σ H E I hf st hg;subst hP hw hK;obtain⟨xs,ys,x,y,hq,hr,hx,hy⟩:=hg;obtain⟨its,rv,p⟩:=I.AH hq;obtain⟨jts,CI,p'⟩:=I.AH hr;obtain⟨ux,hu,ru⟩:=rv.get hx;obtain⟨uy,Qt,LP⟩:=CI.get hy;obtain⟨hz,xf,⟨a0,b0,yp⟩,h1,h2⟩:=st;have hT:s.TypeIs (.ref z) "zip":=⟨_,hz,rfl⟩;unfold pyNext;refine wpAny_bind (wpAny_attempt (wpAny_callSpecial?_slot (name:="__next__") hT F.slot_zip_next (wpAny_call_entry F.slot_zip_next hT F.entry_zip_next (zl D hz xf yp h1 h2 p p' (x:=ux) (y:=uy) (by simpa using hu) (by simpa using Qt) fun gM a1 a2 a3 a4 a5 a6 sr=>wpAny_pure ?_) (F.args_zip_next_1 _))))
  refine⟨_,rfl,wpAny_letOwnedTupleGo_zip a1 fun fL ym cy=>?_⟩
  replace cy:Heap.SameBut z gM fL:=cy
  have hzl:z < s.heap.objs.size:=Heap.lt_size hz;have vB:fL.get? s.heap.objs.size=some {cls:= .type "tuple",data:= .seq #[ux,uy]}:=(cy.2 _ (Nat.ne_of_gt hzl)).trans a5;have kk:∀b o,b≠z->b≠TO->b≠i1->b≠i2->s.heap.get? b=some o->fL.get? b=some o:=fun b o c1 c2 c3 c4 q=>(cy.2 b c1).trans (sr b o c1 c2 c3 c4 q)
  have hn:H s.heap.objs.size=none:=I.fresh;have sm:aK H (upd H s.heap.objs.size (.tup [x,y])):=aW hn;have f0:∀c∈[z,TI,TO,i1,i2],H c=none:=fun c hc=>(hf c hc).1
  have nit:∀b o,H b=some o->b≠z/\b≠TO/\b≠i1/\b≠i2:=fun b o q=>by
   refine⟨fun e=>?_,fun e=>?_,fun e=>?_,fun e=>?_⟩
   .rw [e,f0 z (by simp)] at q;cases q
   .rw [e,f0 TO (by simp)] at q;cases q
   .rw [e,f0 i1 (by simp)] at q;cases q
   .rw [e,f0 i2 (by simp)] at q;cases q
  have kH:∀b o q,H b=some q->s.heap.get? b=some o->fL.get? b=some o:=fun b o q hb e=>let⟨c1,c2,c3,c4⟩:=nit b q hb;kk b o c1 c2 c3 c4 e
  have hok:lQ X.prog X.w (upd H s.heap.objs.size (.tup [x,y])) fL:=fun b ob q=>by
   by_cases hb:b=s.heap.objs.size
   .subst hb;rw[aV] at q;cases q;exact⟨by show 2<=sizeLine;decide,[ux,uy], .cons ru (.cons LP .nil),⟨_,vB,rfl,_,rfl⟩⟩
   .rw [aS hb] at q;refine(I.hok b ob q).tQ (fun c v hc e=>?_) (fun c e=>sm c _ e) fun c ys e=>sm c _ e
    rcases hc with rfl | hc
    .exact kH c v _ q e
    .exact kH c v _ hc e
  have nch:∀b,b ∉ [z,TI,TO,i1,i2]->b≠z/\b≠TO/\b≠i1/\b≠i2:=fun b hb=>⟨fun e=>hb (by simp [e]),fun e=>hb (by simp [e]),fun e=>hb (by simp [e]),fun e=>hb (by simp [e])⟩
  have kc:∀b o,b ∉ [z,TI,TO,i1,i2]->s.heap.get? b=some o->fL.get? b=some o:=fun b o hb e=>let⟨c1,c2,c3,c4⟩:=nch b hb;kk b o c1 c2 c3 c4 e
  have I2:Inv X pins σ (upd H s.heap.objs.size (.tup [x,y])) {s with heap:=fL,toks:=s.toks}:=by
   refine I.step (g':=s.gens) (d':=s.drawn) (ch:=[z,TI,TO,i1,i2]) (fun b hb=>?_) (fun b o _ _ hb q _=>kc b o hb q) (fun b o _ _ hb q _=>⟨o.slots,kc b o hb q⟩)
    (fun b o hb q n=>by rw[aS (Nat.ne_of_lt (Heap.lt_size q))];exact n) (fun b o hb q=>⟨o,kc b o hb q⟩) (fun b ys e=>sm b _ e) (fun b o u e=>sm b _ e) (fun b ps e=>⟨#[],by rw[sm b _ e];simp⟩) (fun m hm=>?_) hok I.bare
   .obtain⟨g0,g1,g2,g3,g4,g5⟩:=hf b hb;exact⟨g3,g1,g4,g5⟩
   .obtain⟨o,es,ep,ho,r⟩:=hm;refine⟨o,es,ep,kc _ o (fun hb=>?_) ho,r⟩
    exact(hf _ hb).2.1 rfl
  have up:∀c,c≠z->∀o,gM.get? c=some o->fL.get? c=some o:=fun c hc o e=>(cy.2 c hc).trans e
  refine⟨.ref s.heap.objs.size,_,I2,rfl,⟨s.heap.objs.size,x,y,hn,rfl,fun zs Mn=>(by rw[I.xW Mn hq];exact hx),fun zs Mn=>(by rw[I.xW Mn hr];exact hy),rfl⟩,
   ⟨ym,up _ D.TIz _ (sr TI _ D.TIz D.TITO D.TIi1 D.TIi2 xf),⟨_,_,up _ D.TOz _ a2⟩,a3.at fun o e=>up _ D.i1z o e,a4.at fun o e=>up _ D.i2z o e⟩,fun c hc=>?_⟩
  have hlt:c < s.heap.objs.size:=by
   simp only[List.mem_cons,List.not_mem_nil,or_false] at hc;rcases hc with rfl | rfl | rfl | rfl | rfl
   .exact hzl
   .exact Heap.lt_size xf
   .exact Heap.lt_size yp
   .exact h1.lt
   .exact h2.lt
  rw[aS (Nat.ne_of_lt hlt)];exact f0 c hc
 done:=by
  intro X hP hw hK hc i pins s σ H E I hf st hg;subst hP hw hK;obtain⟨xs,ys,hq,hr,hl⟩:=hg;obtain⟨its,rv,p⟩:=I.AH hq;obtain⟨jts,CI,p'⟩:=I.AH hr;obtain⟨hz,xf,⟨a0,b0,yp⟩,h1,h2⟩:=st;have hT:s.TypeIs (.ref z) "zip":=⟨_,hz,rfl⟩;have l1:=rv.length;have l2:=CI.length;unfold pyNext;refine wpAny_bind (wpAny_attempt (wpAny_callSpecial?_slot (name:="__next__") hT F.slot_zip_next (wpAny_call_entry F.slot_zip_next hT F.entry_zip_next (Bc (I.ok.hd hc) D hz xf yp h1 h2 p p' ?_ fun h' e hk he=>?_) (F.args_zip_next_1 _))))
  .rcases hl with hl | hl
   .exact .inl (by simp;omega)
   .exact .inr (by simp;omega)
  obtain⟨o,ho,hcl⟩:=he;refine wpAny_bind (wpAny_isInstance (T:="StopIteration") (b:=true) ⟨o,ho,hcl⟩ isSubtype_stop ?_);have nch:∀b,b ∉ [z,TI,TO,i1,i2]->b≠z/\b≠TO/\b≠i1/\b≠i2:=fun b hb=>⟨fun e=>hb (by simp [e]),fun e=>hb (by simp [e]),fun e=>hb (by simp [e]),fun e=>hb (by simp [e])⟩
  have kc:∀b o,b ∉ [z,TI,TO,i1,i2]->s.heap.get? b=some o->h'.get? b=some o:=fun b o hb e=>let⟨c1,c2,c3,c4⟩:=nch b hb;hk b o c1 c2 c3 c4 e
  have f0:∀c∈[z,TI,TO,i1,i2],H c=none:=fun c hc=>(hf c hc).1
  have kH:∀b o q,H b=some q->s.heap.get? b=some o->h'.get? b=some o:=fun b o q hb e=>kc b o (fun z=>by rw[f0 b z] at hb;cases hb) e
  refine wpAny_pure ⟨rfl,?_⟩;refine I.step (h':=h') (H':=H) (g':=s.gens) (d':=s.drawn) (t':=s.toks) (ch:=[z,TI,TO,i1,i2]) (fun b hb=>?_) (fun b o _ _ hb q _=>kc b o hb q) (fun b o _ _ hb q _=>⟨o.slots,kc b o hb q⟩)
   (fun b o hb q n=>n) (fun b o hb q=>⟨o,kc b o hb q⟩) (fun b ys e=>e) (fun b o u e=>e) (fun b ps e=>⟨#[],by rw[e];simp⟩) (fun m hm=>?_) (fun b ob q=>?_) I.bare
  .obtain⟨g0,g1,g2,g3,g4,g5⟩:=hf b hb;exact⟨g3,g1,g4,g5⟩
  .obtain⟨o,es,ep,ho,r⟩:=hm;refine⟨o,es,ep,kc _ o (fun hb=>?_) ho,r⟩
   exact(hf _ hb).2.1 rfl
  .refine(I.hok b ob q).tQ (fun c v hc e=>?_) (fun c e=>e) fun c ys e=>e
   rcases hc with rfl | hc
   .exact kH c v _ q e
   .exact kH c v _ hc e
 self:=fun A i s Q E st h=>wpAny_pyIter_zip st.1 h
section
variable {X:Cx}
def mv(ds es:List D):List D:=(ds.zip es).map fun p=> .tup [p.1,p.2]
def seqD?:D->Option (List D)
 | .lst ds=>some ds
 | .tup ds=>some ds
 | _=>none
def xo(f g:FD):ak->R (List D):=fun δ=>(f δ).bind fun d=>(g δ).bind fun e=>match seqD? d,seqD? e with | some ds,some es=> .ok (mv ds es) | _,_=> .no
theorem Rep.AH{K:W.Frag}{B:List Addr}{d:D}{v:V}{ds:List D}(r:Rep K B H d v)(h:seqD? d=some ds):∃t a xs,v= .ref a/\(∀B' H',c5 B H B' H'->CG t K H' a xs/\aw K B' H' ds xs):=by
 cases d with
 | lst es=>
   cases h;obtain⟨a,xs,rfl,l,rs⟩:=Rep.lst.mp r;exact⟨false,a,xs,rfl,fun B' H' p=>⟨(l.aY p).sq,rs.aY p⟩⟩
 | tup es=>
   cases h;obtain⟨a,xs,rfl,l,rs⟩:=Rep.tup.mp r;refine⟨true,a,xs,rfl,fun B' H' p=>⟨?_,rs.aY p⟩⟩
   have l':sf K B' H' a xs:=l.elim (fun z=> .inl ⟨(p.rd z.2 z.1).2,(p.rd z.2 z.1).1⟩) .inr
   exact l'.sq
 | _=>cases h
theorem pY{elts:List Expr}{k:Nat}{qG:Pos}{p pos:Pos}(h:QD X a f)(h':QD X b g)(hg:Gl X "zip")(hm:X.mg "zip"=none)(hs:starEach [a,b] X.env=[(false,eval a X.env),(false,eval b X.env)]:=by rfl)(vH:starEach [b] X.env=[(false,eval b X.env)]:=by rfl) :
 uS X (.Tuple elts k qG) (.Call (.Name "zip" p) [a,b] [] pos) (xo f g):=by
 refine⟨?_⟩;intro pins s σ H RR I ⟨Z,B,δ,ds,E,hf,q⟩;obtain⟨d,h1,h2⟩:=R.ai hf;obtain⟨e,h3,h4⟩:=R.ai h2;have hA:=dM h.1 (dM h'.1 gK vH) (by rw[hs,vH]) pos pins s σ H (fun vs H1=>aK H H1/\∃v v',vs=[v,v']/\Rep X.K B H1 d v/\Rep X.K B H1 e v') I
  ⟨Z,B,δ,d,E,h1,fun v H1 s1 r1=>⟨Z,B,δ,e,E.same s1,h3,fun v' H2 s2 r2=>⟨s1.trans s2,v,v',rfl,r1.same s2,r2⟩⟩⟩
 refine Call_ (kQ I hg hm boot_zip (PyProof.Rows.callWith_type1 (ee hA fun us s1 ⟨vs,H1,I1,r1,ss,v,v',ev,rr,JS⟩=>?_) (by rw[hs,vH]) (by rw[vH];rfl)))
 subst ev;obtain⟨u,u',rfl,ru,LP⟩:=vals2 r1;cases e1:seqD? d with
 | none=>rw [e1] at h4;cases h4
 | some ls=>
   cases e2:seqD? e with
   | none=>rw [e1,e2] at h4;cases h4
   | some ms=>
     rw[e1,e2] at h4;cases h4;obtain⟨t,a,xs,rfl,k1⟩:=rr.AH e1;obtain⟨w,b,ys,rfl,k2⟩:=JS.AH e2;cases ru;cases LP;obtain⟨its,rv,pp⟩:=I1.AH (k1 B H1 (c5.refl B H1)).1;obtain⟨jts,CI,Nx⟩:=I1.AH (k2 B H1 (c5.refl B H1)).1;have la:=pp.lt;have lb:=Nx.lt;refine zj pp Nx fun fL hz xf yp Qf P4 kk=>wpAny_pyIter_zip hz ?_
     have I2:Inv X pins σ H1 {s1 with heap:=fL}:=I1.kept (t':=s1.toks) kk
     refine⟨s1.heap.objs.size+4,[s1.heap.objs.size+4,s1.heap.objs.size+2,s1.heap.objs.size+3,s1.heap.objs.size,s1.heap.objs.size+1],_,_,H1,rfl,I2,A9 (t:=t) (u:=w) (zipApart_new la lb),⟨hz,xf,⟨_,_,yp⟩,Qf,P4⟩,fun c hc=>?_,q _ H1 ss fun B' H' pr=>?_⟩
     .have hle:s1.heap.objs.size<=c:=by
       simp only[List.mem_cons,List.not_mem_nil,or_false] at hc;rcases hc with rfl | rfl | rfl | rfl | rfl <;> omega
      exact I1.tF hle (I1.hok.fresh hle)
     .obtain⟨l1,NA⟩:=k1 B' H' pr;obtain⟨l2,Km⟩:=k2 B' H' pr;refine⟨fun i d hd=>?_,⟨xs,ys,l1,l2,?_⟩⟩
      .unfold mv at hd;rw[List.getElem?_map] at hd;cases ez:(ls.zip ms)[i]? with
       | none=>rw [ez] at hd;cases hd
       | some pr'=>
         rw[ez] at hd;have hd:D.tup [pr'.1,pr'.2]=d:=Option.some.inj hd;obtain⟨ea,eb⟩:=List.getElem?_zip_eq_some.mp ez;obtain⟨x,hx,rx⟩:=NA.get ea;obtain⟨y,hy,ry⟩:=Km.get eb;refine⟨⟨xs,ys,x,y,l1,l2,hx,hy⟩,fun v l7 yl EC=>?_⟩
         obtain⟨p,x2,y2,hp,rfl,Kq,zF,rfl⟩:=yl;refine⟨aW hp,?_⟩;subst hd;have Kq:=Kq xs l1;have zF:=zF ys l2;rw[hx] at Kq;cases Kq;rw[hy] at zF;cases zF;refine Rep.tup.mpr ⟨p,_,rfl, .inl ⟨fun ha=>?_, .inl aV⟩,aw.cons (rx.same (aW hp)) (aw.cons (ry.same (aW hp)) aw.nil)⟩
         obtain⟨o,ho⟩:=EC p ha;rw[hp] at ho;cases ho
      .rw [<-NA.length,<-Km.length];unfold mv;rw[List.length_map,List.length_zip];omega
def Np(T U:String)(f:FD):FD:=fun δ=>(f δ).bind fun d=>match d with | .dct _ _=> .no | _=> .ok (.bl (FH (tyName d) T || FH (tyName d) U))
def QL(lo:Int)(n:Nat):It:=⟨fun i _=>i < n,fun i H x H'=>H'=H/\x= .int (lo - i),fun i _=>n<=i⟩
def K2(lo:Int)(n:Nat):List D:=(List.range n).map fun(i:Nat)=>D.int (lo - i)
def Mu(f g h:FD):ak->R (List D):=fun δ=>(f δ).bind fun d=>(g δ).bind fun e=>(h δ).bind fun k=>match d,e,k with
 | .int i, .int j, .int m=>R.aU (decide (m= -1/\ -(2 ^ 60)<=i/\i < 2 ^ 60/\ -(2 ^ 60)<=j/\j < 2 ^ 60)) (.ok (K2 i (i - j).toNat)) | _,_,_=> .no
def bls?:List D->Option (List Bool)
 | []=>some []
 | .bl b ::ds=>(bls? ds).map (b ::·)
 | _ ::_=>none
theorem u6{K:W.Frag}{B:List Addr}:∀{ds:List D} {xs:List V} {bs:List Bool},aw K B H ds xs->bls? ds=some bs->xs=bs.map V.bl
 | [],xs,bs,r,h=>by unfold aw at r;subst r;cases h;rfl
 | d ::ds,xs,bs,r,h=>by
   obtain⟨x,q,rfl,r1,r2⟩:=r.bM;cases d with
   | bl b=>
     have h:(bls? ds).map (b ::·)=some bs:=h
     cases e:bls? ds with
     | none=>rw [e] at h;cases h
     | some cs=>
       rw[e] at h;cases h;rw[Rep.bl.mp r1,u6 r2 e];rfl
   | _=>cases h
theorem xv:∀bs:List Bool,bls? (bs.map D.bl)=some bs
 | []=>rfl
 | b ::bs=>by show(bls? (bs.map D.bl)).map (b ::·)=_;rw [xv bs];rfl
theorem qm:∀{bs:List Bool} {us:List Value},Vals (bs.map V.bl) us->us=bs.map Value.bool
 | [],us,h=>by cases h;rfl
 | b ::bs,us,h=>by
   cases h with
   | cons r t=>rw [qm t,show _=Value.bool b from r];rfl
theorem range_all(bs:List Bool):(List.range bs.length).all (fun i=>bs.getD i false)=bs.all id:=by
 rw[Bool.eq_iff_iff];simp only[List.all_eq_true,List.mem_range,id];constructor
 .intro h b hb;obtain⟨i,hi,rfl⟩:=List.getElem_of_mem hb;have:=h i hi;rw[List.getD_eq_getElem?_getD,List.getElem?_eq_getElem hi] at this;exact this
 .intro h i hi;rw[List.getD_eq_getElem?_getD,List.getElem?_eq_getElem hi];exact h _ (List.getElem_mem hi)
def Az:List D->R D
 | [.lst ds]=>(match bls? ds with | some bs=> .ok (.bl (bs.all id)) | none=> .no)
 | _=> .no
def N1:List D->R D
 | [.lst ds]=>(match bls? ds with | some bs=> .ok (.bl (bs.any id)) | none=> .no)
 | _=> .no
theorem IP{bs:List Bool}{i:Nat}{v:Value}(h:((bs.map Value.bool).toArray)[i]? =some v):v= .bool (bs.getD i false):=by
 rw[List.getElem?_toArray,List.getElem?_map] at h;rw[List.getD_eq_getElem?_getD];cases e:bs[i]? with
 | none=>rw [e] at h;cases h
 | some b=>rw [e] at h;cases h;rfl
theorem Fc(hc:X.calm=true):cD X (.builtin "all") Az:=by
 intro pins s σ H B ds d xs us I hb rx rs hg;unfold Az at hg;split at hg
 .split at hg
  .rename_i es bs e;cases hg;obtain⟨x,rfl,r⟩:=rs.one;obtain⟨a,ys,rfl,l,r⟩:=Rep.lst.mp r;obtain⟨u,rfl,ru⟩:=vals1 rx;cases ru;obtain⟨its,n,rv,e1,hz⟩:=I.EJ l;rw[u6 r e] at rv;obtain rfl:=qm rv;have hl:s.heap.IsList a (bs.map Value.bool).toArray:=⟨_,e1,rfl,n,rfl⟩;have hlt:a < s.heap.objs.size:=Heap.lt_size e1;refine call_all_walk (wpAny_pyIter_list hl ?_);refine⟨_,_,_,_,_,_,fun i=>bs.getD i false,rfl,Walks.list (A:=X.A.in1) (I.ok.hd hc) _ a (Nat.ne_of_lt hlt) _,⟨⟨_,Heap.get?_push_size _ rfl,rfl,rfl⟩,hl.push _⟩,?_,fun h' tk hk=>?_⟩
   .intro i v s Q E hP hQ;rw[IP hP];exact wpAny_truthy_bool hQ
   .refine⟨.bl (bs.all id),H,I.kept (old_kept hk),?_,aK.refl H,Rep.bl.mpr rfl⟩;show Value.bool _=Value.bool _;rw[<-range_all];simp
  .cases hg
 .cases hg
end
end L2
end
section
namespace L2
open PySem PySem.Spec PyProof.Rows
section
variable {X:Cx}
def QI:FS:=fun _=> .no
def Nd(f:FD):FS:=fun δ=>(f δ).bind fun _=> .ok (.nx δ)
end
end L2
namespace L3
open PySem PySem.Spec PyProof.Rows L2
section
variable {X:Cx} {cl:Ru}
def MA:FZ:=fun _ _=> .no
theorem Ig{st:Stmt}:PZ X cl st MA:=⟨fun pins s σ H D I ⟨ρ,S,δ,o,S',E,hf,q⟩=>by cases hf⟩
def MB(f:ak->R (List D)):FX:=fun δ S=>(R3.of (f (df S δ)) S).bind fun ds S=>R3.aU (rA ds) (.ok (.loc S.length) (S++[.lst ds]))
def O0(i:Nat)(f:FX):FZ:=fun δ S=>match iM δ i with
 | none=> .no
 | some k=>match dm S k with
   | none=> .no
   | some _=>(f δ S).bind fun v S1=>match v with
     | .d (.lst es)=>(match dm S1 k with
       | some ds=>R3.aU (decide (ds.length+es.length<=sizeLine)) (.ok (.nx δ) (S1.set k (.lst (ds++es))))
       | none=> .no)
     | _=> .no
end
end L3
end
section
namespace L2
open PySem PySem.Spec PyProof.Rows
section
variable {X:Cx}
theorem B0{prog:Program}{w:World}{A:Around}{E:Ro}{s:Shared}{t b:Addr}{vs ws:List Value}{Q:Ro}(ht:IsTup s.heap t vs.toArray)(hb:IsTup s.heap b ws.toArray)
 (h0:vs=[]->Q (.ref b) s) (h1:vs≠[]->ws=[]->Q (.ref t) s) (h2:vs≠[]->ws≠[]->Q (.ref s.heap.objs.size) {s with heap:=s.heap.push {cls:= .type "tuple",data:= .seq (vs++ws).toArray}})
 (vG:vs.length+ws.length<=sizeLine):wpAny (model prog w) A (binaryOp .Add (.ref t) (.ref b)) Q E s:=by
 by_cases hv:vs=[]
 .obtain⟨⟨cls,dd,data,sl⟩,ho,hc,n,hd⟩:=id ht;obtain⟨⟨JN,Fg,data2,CM⟩,CL,ue,n2,hd2⟩:=id hb;simp only at hc hd ue hd2;subst hc hd ue hd2;exact concat_meets ⟨_,ho,rfl⟩ ⟨_,CL,rfl⟩ noFill_tuple_add seq_tuple_add PySem.F.slot_tuple_add PySem.F.entry_tuple_add (PySem.F.args_tuple_add_2 _ _) (tuple_addW0 t b vs.toArray ws.toArray n n2 dd Fg sl CM (by simp [hv])) ⟨ho,CL,h0 hv⟩
 .exact HT.Dx ht hb hv (h1 hv) (h2 hv) vG
def jB(d e:D):R D:=match d,e with
 | .tup a, .tup b=>R.aU (decide (a.length+b.length<=sizeLine)) (.ok (.tup (a++b)))
 | d,e=>iY d e
theorem sf.fresh{K:W.Frag}{B:List Addr}{H:Hp}{p:Addr}{xs:List V}(hb:∀a∈B,∃o,H a=some o)(hp:H p=none):sf K B (upd H p (.tup xs)) p xs:= .inl ⟨fun ha=>(by obtain⟨o,ho⟩:=hb p ha;rw [hp] at ho;cases ho), .inl aV⟩
theorem kB:ki X (binaryOp .Add) jB:=by
 intro pins s σ H B da db d x y v u I hb rx ry ra rb hg;by_cases ht:∃a b,da= .tup a/\db= .tup b
 .obtain⟨a,b,rfl,rfl⟩:=ht;have hg:R.aU (decide (a.length+b.length<=sizeLine)) (.ok (.tup (a++b)))= .ok d:=hg;obtain⟨h1,h2⟩:=R.aT hg;cases h2;have h1:=of_decide_eq_true h1;have ra':=ra;have rb':=rb;obtain⟨a1,L1,rfl,l1,r1⟩:=Rep.tup.mp ra;obtain⟨a2,LR,rfl,l2,r2⟩:=Rep.tup.mp rb;cases rx;cases ry;obtain⟨its,Ny,p1,_⟩:=I.tuple l1.sq;obtain⟨ri,Hu,p2,_⟩:=I.tuple l2.sq;have e1:=Ny.length;have e2:=Hu.length;have e3:=r1.length;have e4:=r2.length;refine B0 p1 p2 (fun z=>⟨.ref a2,H,I,rfl,aK.refl H,?_⟩) (fun _ z=>⟨.ref a1,H,I,rfl,aK.refl H,?_⟩) (fun _ _=>?_) (by omega)
  .obtain rfl:a=[]:=List.eq_nil_of_length_eq_zero (by rw[e3,e1,z];rfl)
   exact rb'
  .obtain rfl:b=[]:=List.eq_nil_of_length_eq_zero (by rw[e4,e2,z];rfl)
   rw[List.append_nil];exact ra'
  .have hp:H s.heap.objs.size=none:=I.hok.fresh (Nat.le_refl _);refine⟨.ref s.heap.objs.size,_,I.laid (t':=s.toks) (o:= .tup (L1++LR)) (fun b ob q=>Heap.get?_push_of_some _ q) (Nat.le_refl _) ⟨by rw[List.length_append];omega,_,Ny.append Hu,IsTup.new _ _⟩,rfl,aW hp,Rep.tup.mpr ⟨_,_,rfl,sf.fresh hb hp,(r1.append r2).same (aW hp)⟩⟩
 .have hg:iY da db= .ok d:=by
   unfold jB at hg;split at hg
   .exact absurd ⟨_,_,rfl,rfl⟩ ht
   .exact hg
  exact iJ pins s σ H B da db d x y v u I hb rx ry ra rb hg
theorem uS.or{F F1 F2:ak->R (List D)}(h1:uS X tg e F1)(h2:uS X tg e F2)(h:∀δ ds,F δ= .ok ds->F1 δ= .ok ds\/F2 δ= .ok ds):uS X tg e F:=
 ⟨fun pins s σ H R I ⟨Z,B,δ,ds,E,hf,q⟩=>(h δ ds hf).elim (fun z=>h1.1 pins s σ H R I ⟨Z,B,δ,ds,E,z,q⟩) fun z=>h2.1 pins s σ H R I ⟨Z,B,δ,ds,E,z,q⟩⟩
def xn(f:FD):ak->R (List D):=fun δ=>(f δ).bind fun d=>match d with | .lst ds=> .ok (dy ds) | .tup ds=> .ok (dy ds) | _=> .no
theorem w6{elts:List Expr}{k:Nat}{qG:Pos}{p pos:Pos}(h:QD X a f)(hg:Gl X "enumerate")(hm:X.mg "enumerate"=none)(hs:starEach [a] X.env=[(false,eval a X.env)]:=by rfl):uS X (.Tuple elts k qG) (.Call (.Name "enumerate" p) [a] [] pos) (xn f):=
 uS.or (F1:=hX f) (F2:=sM f) ⟨vg h.1 hg hm hs⟩ (vI h hg hm hs) fun δ ds hf=>by
  obtain⟨d,h1,h2⟩:=R.ai hf;cases d with
  | lst es=>cases h2;exact .inl (by unfold hX;rw [h1];rfl)
  | tup es=>cases h2;exact .inr (by unfold sM;rw [h1];rfl)
  | _=>cases h2
def OX(K:W.Frag)(a:Addr)(n:Nat):It:=
 ⟨fun i H=>∃xs x,mG K H a xs/\xs.length=n/\i < n/\xs[n - 1 - i]? =some x,fun i H v H'=>H'=H/\∀xs,mG K H a xs->xs[n - 1 - i]? =some v,fun i H=>(∃xs,mG K H a xs)/\i=n⟩
theorem Bi{K:W.Frag}(a it:Addr)(n:Nat):Turn P w K tg (OX K a n) [it] it (fun i h=>h.IsRevIter it a ((n:Int) - 1 - (i:Int))) where
 mem:=by simp
 obj:=fun i h st b hb=>by
  have e:b=it:=by simpa using hb
  subst e;obtain⟨o,e,c,d⟩:=st;exact⟨o,e,fun v z=>by rw[d] at z;cases z⟩
 keep:=fun i h h' st k=>st.at fun o e=>k it (by simp) o e
 item:=by
  intro X hP hw hK hc i pins s σ H E I hf st hg;subst hP hw hK;obtain⟨xs,x,hq,hn,hi,hx⟩:=hg;obtain⟨its,rv,p,hz⟩:=I.list hq;obtain⟨u,hu,ru⟩:=rv.get hx;obtain⟨f0,f1,f2,f3,f4,f5⟩:=hf it (by simp)
  have e0:(n:Int) - 1 - (i:Int)=((n - 1 - i:Nat):Int):=by omega
  rw[e0] at st;refine wpAny_pyNext_rev_item st p.isList (x:=u) (by simpa using hu) fun h' vF sb=>?_
  have I1:Inv X pins σ H {s with heap:=h'}:=I.turned (t':=s.toks) (fun b o hb e=>(sb.2 b hb).trans e) f0 f1 f3 f4 f5
  have CN:h'.IsRevIter it a ((n:Int) - 1 - ((i+1:Nat):Int)):=by
   rw[show((n - 1 - i:Nat):Int) - 1=(n:Int) - 1 - ((i+1:Nat):Int) by omega] at vF;exact vF
  obtain⟨o,e,c,d⟩:=id CN;exact⟨u,rfl,yj (s:={s with heap:=h'}) e c d (by decide) ⟨x,H,I1,ru,⟨rfl,fun ys hy=>by rw[I.mK hy hq];exact hx⟩,CN,fun b hb=>(hf b hb).1⟩⟩
 done:=by
  intro X hP hw hK hc i pins s σ H E I hf st hg;subst hP hw hK;obtain⟨_,rfl⟩:=hg;obtain⟨f0,f1,f2,f3,f4,f5⟩:=hf it (by simp)
  rw[show(i:Int) - 1 - (i:Int)= -1 by omega] at st
  exact wpAny_pyNext_rev_end (I.ok.hd hc) st fun h' eb=>⟨rfl,I.turned (t':=s.toks) (fun b o hb e=>eb b o hb e) f0 f1 f3 f4 f5⟩
 self:=fun _ _ _ _ _ st h=>wpAny_pyIter_revIter st h
def E6(f:FD):ak->R (List D):=fun δ=>(f δ).bind fun d=>match d with | .lst ds=> .ok ds.reverse | _=> .no
theorem Ba{tg a:Expr}{p pos:Pos}(h:QD X a f)(hg:Gl X "reversed")(hm:X.mg "reversed"=none)(hs:starEach [a] X.env=[(false,eval a X.env)]:=by rfl):uS X tg (.Call (.Name "reversed" p) [a] [] pos) (E6 f):=by
 refine⟨?_⟩;intro pins s σ H RR I ⟨Z,B,δ,ds,E,hf,q⟩;obtain⟨d,h1,h2⟩:=R.ai hf;have hA:=dM h.1 gK hs pos pins s σ H (fun vs H1=>aK H H1/\∃v,vs=[v]/\Rep X.K B H1 d v) I ⟨Z,B,δ,d,E,h1,fun v H1 s1 r1=>⟨s1,v,rfl,r1⟩⟩
 refine Call_ (kQ I hg hm boot_reversed (PyProof.Rows.callWith_type1 (ee hA fun us s1 ⟨vs,H1,I1,r1,ss,v,ev,rr⟩=>?_) hs rfl))
 subst ev;obtain⟨u,rfl,ru⟩:=vals1 r1;cases d with
 | lst es=>
   cases h2;obtain⟨b,xs,rfl,l,rs⟩:=Rep.lst.mp rr;cases ru;obtain⟨its,rv,pl,hz⟩:=I1.list l.sq;have e1:=rv.length;have e2:=rs.length;refine call_reversed_list pl.isList (wpAny_pyIter_revIter (i:=(its.toArray.size:Int) - 1) ⟨_,Heap.get?_push_size _ rfl,rfl,rfl⟩ ?_);refine⟨s1.heap.objs.size,[s1.heap.objs.size],_,_,H1,rfl,I1.kept (t':=s1.toks) fun b o e=>Heap.get?_push_of_some _ e,Bi b _ es.length,?_,fun c hc=>?_,q _ H1 ss fun B' H' pr=>?_⟩
   .refine⟨_,Heap.get?_push_size _ rfl,rfl,?_⟩;show Data.fields #[.ref b,rawInt ((its.toArray.size:Int) - 1)]=Data.fields #[.ref b,rawInt ((es.length:Int) - 1 - ((0:Nat):Int))];rw[List.size_toArray,<-e1,<-e2,show((es.length:Nat):Int) - 1 - ((0:Nat):Int)=(es.length:Int) - 1 by omega]
   .have e:c=s1.heap.objs.size:=by simpa using hc
    subst e;exact I1.tF (Nat.le_refl _) (I1.hok.fresh (Nat.le_refl _))
   .have l':tj X.K B' H' b xs:=l.aY pr;have rs':=rs.aY pr;refine⟨fun i d hd=>?_,⟨xs,l'.sq⟩,by rw[List.length_reverse]⟩
    have hi:i < es.length:=by have:=(List.getElem?_eq_some_iff.mp hd).1;rwa [List.length_reverse] at this
    rw[List.getElem?_reverse hi] at hd;obtain⟨x,hx,rx⟩:=rs'.get hd;refine⟨⟨xs,x,l'.sq,e2.symm,hi,hx⟩,fun v l7 yl EC=>?_⟩
    obtain⟨rfl,hy⟩:=yl;have zF:=hy xs l'.sq;rw[hx] at zF;cases zF;exact⟨aK.refl _,rx⟩
 | _=>cases h2
def zw(K:W.Frag)(C:Addr)(m qual:Str)(st:Stmt):Prop:=∃f fd,yh K m qual st f fd/\Meth K C m f
def Gs(K:W.Frag)(C:Addr)(m qual:Str)(st:Stmt):Prop:=∃f fd,yh K m qual st f fd/\Mk K C f
end
end L2
namespace L3
open PySem PySem.Spec PyProof.Rows L2
section
variable {X:Cx} {cl:Ru}
theorem oB.p{K:W.Frag}{mg:Rt}{cl:Ru}{k c:Nat}{n:Nat}{N:List Str}(C:oB P w K mg base cl k c m n (qC N F)):oB P w K mg base cl k c m n (rF N F):=
 let⟨f,fd,ps,c1,c2,F,h⟩:=C;⟨f,fd,ps,c1,c2,F.imp fun _ _ _ _ h=>vM h,h⟩
end
end L3
end
section
namespace L2
open PySem PySem.Spec PyProof.Rows
section
variable {X:Cx}
def OC(f:FD):ak->R (List D):=fun δ=>(f δ).bind fun d=>match d with | .int j=>R.aU (decide (-(2 ^ 62)<=j/\j < 16777216)) (.ok (gH 0 j.toNat)) | _=> .no
def OD(f:FD):FD:=fun δ=>(f δ).bind fun d=>match d with | .lst ds=> .ok (.lst ds.reverse) | _=> .no
end
end L2
end
section
namespace L2
open PySem PySem.Spec PyProof.Rows
section
variable {X:Cx}
def Pc(K:W.Frag)(n:Nat)(t:Bp):TG:=fun v σ H Q=>∃a xs,v= .ref a/\mG K H a xs/\xs.length=n/\t xs σ H Q
end
end L2
namespace L3
open PySem PySem.Spec PyProof.Rows L2
section
variable {X:Cx} {cl:Ru}
def QW(n:Nat)(t:DI):FG:=fun d δ=>match d with
 | .d (.lst ds)=>if ds.length=n then t (ds.map .d) δ else none
 | .lst vs=>if vs.length=n then t vs δ else none
 | _=>none
def N6(f g:FX):FA:=fun δ S=>(br f (br g gy) δ S).bind fun vs S1=>match vs with
 | [.d d, .d e]=>(match seqD? d,seqD? e with | some ds,some es=> .ok ((mv ds es).map .d) S1 | _,_=> .no)
 | _=> .no
def D7(S:bc):Prop:=∀o∈S,wI S.length o=true
theorem Flat.Iu{S:bc}(h:Flat S):D7 S:=fun o ho=>h o ho _
theorem Ir{N:List Str}{vs:List V3}{S:bc}{QV:V3->bc->Prop}(h:W3 (qC N F vs S) fun v S1=>(∀o∈S1.take S.length,wI S.length o=true)/\iW S.length v=true/\∃d,res S1 v=some d/\QV (.d d) (S1.take S.length)):W3 (rF N F vs S) QV:=
 W3.bind (h.mono fun v S1 ⟨hl,hg,d,e,q⟩=>by
  rw[e];exact W3.wh (by rw[List.all_eq_true.mpr hl,hg];rfl) (W3.ok q))
theorem lV{N:List Str}{vs:List V3}{S:bc}{QV:V3->bc->Prop}(hS:D7 S)(h:W3 (qC N F vs S) fun v S1=>iW S.length v=true/\(∃T,S1=S++T)/\∃d,res S1 v=some d/\QV (.d d) S):W3 (rF N F vs S) QV:=
 Ir (h.mono fun v S1 ⟨hg,⟨T,e1⟩,d,e,q⟩=>by
  subst e1;rw[List.take_append_of_le_length (Nat.le_refl _),List.take_length];exact⟨hS,hg,d,e,q⟩)
end
end L3
end
section
namespace L2
open PySem PySem.Spec PyProof.Rows
section
variable {X:Cx}
def ois?:List D->Option (List (Option Int))
 | []=>some []
 | .int i ::ds=>(ois? ds).map (some i ::·)
 | .cz ::ds=>(ois? ds).map (none ::·)
 | _ ::_=>none
def Qx:Option Int->V | some i=> .int i | none=> .cz
def Oi(d e:D):R Bool:=match d,e with
 | .cz, .lst ds=>(match ois? ds with | some ss=> .ok (ss.any (·.isNone)) | none=> .no)
 | _,_=> .no
def OW(d e:D):R D:=(Oi d e).bind fun b=> .ok (.bl b)
end
end L2
end
section
namespace L2
open PySem PySem.Spec PyProof.Rows
section
variable {X:Cx}
def K9(d:D)(ds:List D):R D:=match d,ds with
 | .lst es,[.int k]=>(match ints? es with | some ss=> .ok (.int (ss.count k:Nat)) | none=> .no)
 | _,_=> .no
end
end L2
end
section
namespace L2
open PySem PySem.Spec PyProof.Rows
section
variable {X:Cx}
abbrev Eg:D->D->R D:=A8 (fun i j=>decide (0<=j/\j < 1000/\ -1000 < i/\i < 1000)) fun i j=>i*2 ^ j.toNat
theorem Jx:ki X (binaryOp .LShift) Eg:=u_ G2 fun i j h=>by
 have:=of_decide_eq_true h;exact⟨this.1,by omega,by omega⟩
def Mr(d e:D):R D:=match d,e with | .bl a, .bl b=> .ok (.bl (a !=b)) | _,_=> .no
end
end L2
namespace L3
open PySem PySem.Spec PyProof.Rows L2
section
variable {X:Cx} {cl:Ru}
def MK(fo f:FX):FZ:=fun δ S=>(fo δ S).bind fun o S0=>match o with
 | .loc k=>(match dm S0 k with
   | none=> .no
   | some _=>(f δ S0).bind fun v S1=>match v with
     | .d d=>(match dm S1 k with | some ds=>R3.aU (decide (ds.length < sizeLine)) (.ok (.nx δ) (S1.set k (.lst (ds++[d])))) | none=> .no)
     | _=> .no)
 | _=> .no
def M9(f:FX):FA:=fun δ S=>(br f gy δ S).bind fun vs S1=>match vs with
 | [.d (.lst ds)]=> .ok ((dy ds).map .d) S1
 | _=> .no
end
end L3
end
section
namespace L2
open PySem PySem.Spec PyProof.Rows
section
variable {X:Cx}
end
end L2
end
section
namespace L3
open PySem PySem.Spec PyProof.Rows L2
section
variable {cl:Ru}
def Lc(it:FA)(t:FG)(c:FB)(f:FX)(own:List Str)(kp:List Nat):FX:=fun δ S=>(it δ S).bind fun vs S1=>R3.aU (decide (vs.length<=sizeLine)) ((kT t c f (lT own kp δ) vs S1).bind fun ys S2=>match o8 ys with | some ds=> .ok (.loc S2.length) (S2++[.lst ds]) | none=> .no)
end
section
variable {X:Cx} {cl:Ru}
end
end L3
end
section
namespace L3
open PySem PySem.Spec PyProof.Rows L2
section
variable {X:Cx} {cl:Ru}
def Ll(g:List D->R D)(fs:FA):FX:=fun δ S=>(fs δ S).bind fun vs S1=>match vR S1 vs with
 | some ds=>(R3.of (g ds) S1).bind fun d S=>R3.aU (uC d) (.ok (.d d) S)
 | none=> .no
end
end L3
end
section
namespace L2
open PySem PySem.Spec PyProof.Rows
section
variable {X:Cx}
def NP(f:FD):FD:=fun δ=>(f δ).bind fun d=>match d with | .int i=> .ok (.int (-i - 1)) | _=> .no
def OS(d:D)(lo hi:Option Int):R D:=match d with
 | .tup ds=>R.aU (decide (¬(HT.pz ds.length 0 lo=0/\HT.pz ds.length ds.length hi=ds.length))) (.ok (.tup (cutD ds lo hi)))
 | _=> .no
def N0(f:FD)(fl fh:FO):FD:=fun δ=>(f δ).bind fun d=>(fl δ).bind fun lo=>(fh δ).bind fun hi=>OS d lo hi
end
end L2
namespace L3
open PySem PySem.Spec PyProof.Rows L2
section
variable {X:Cx} {cl:Ru}
structure Q6 (X:Cx) (cl:Ru) (st:List Stmt) (F:FZ):Prop where
 go:ud X st (fun D σ H=>D.ct=D.nx/\sX X.K cl F D σ H)
end
end L3
end
section
namespace L2
open PySem PySem.Spec PyProof.Rows
end L2
namespace L3
open PySem PySem.Spec PyProof.Rows L2
section
variable {X:Cx} {cl:Ru}
def OL(i:Nat)(f:FX):FX:=fun δ S=>match iM δ i with
 | none=> .no
 | some k=>match dm S k with
   | none=> .no
   | some _=>(f δ S).bind fun v S1=>match v with
     | .d (.int j)=>(match dm S1 k with
       | some ds=>(match zI ds.length j with
         | some p=>(match ds[p]? with | some d=>R3.aU (decide (-(2 ^ 63)<=j/\j < 2 ^ 63)) (.ok (.d d) (S1.set k (.lst (ds.eraseIdx p)))) | none=> .no)
         | none=> .no)
       | none=> .no)
     | _=> .no
end
end L3
end
section
namespace L3
open PySem PySem.Spec PyProof.Rows L2
section
variable {X:Cx} {cl:Ru}
def Pg(f:FX)(fl fh:HP):FX:=fun δ S=>(f δ S).bind fun v S1=>(fl δ S1).bind fun lo S2=>(fh δ S2).bind fun hi S3=>match v with
 | .lst vs=> .ok (.lst (L2.cutD vs lo hi)) S3
 | _=> .no
end
end L3
end
section
namespace L2
open PySem PySem.Spec PyProof.Rows
section
variable {X:Cx}
def KC:List V->Hp->VK->Prop:=fun xs H Q=>∃a aP ns,xs=[V.ref a]/\H a=some (.dK aP)/\aP.map (·.1)=ns.map Sum.inl/\ns.length < 64/\∀p,H p=none->Q (.ref p) (upd H p (.lst ((Ad ns).map V.int)))
end
end L2
end
section
namespace L3
open PySem PySem.Spec PyProof.Rows L2
section
variable {X:Cx} {cl:Ru}
def G5(aP:List (Key × D))(k:Key)(d:D):List (Key × D):=if(aP.any fun kv=>decide (kv.1=k))=true then aP.map (fun kv=>if kv.1=k then(kv.1,d) else kv) else aP++[(k,d)]
def uA(S:bc)(k:Nat):Option (List (Key × D)):=match S[k]? with | some (.dct aP)=>some aP | _=>none
def MI:FX:=fun δ S=> .ok (.loc S.length) (S++[.dct []])
def MW(fo fi fe:FX):FZ:=fun δ S=>(fe δ S).bind fun v S1=>(fo δ S1).bind fun o S2=>(fi δ S2).bind fun j S3=>match v,o,j with
 | .d d, .loc k, .d (.int n)=>(match uA S3 k with | some aP=>R3.aU (decide (aP.length < sizeLine)) (.ok (.nx δ) (S3.set k (.dct (G5 aP (Sum.inl n) d)))) | none=> .no)
 | _,_,_=> .no
def OV(fa fo:FX):FX:=fun δ S=>(fa δ S).bind fun j S1=>(fo δ S1).bind fun o S2=>match j,o with
 | .d (.int n), .loc k=>(match uA S2 k with | some aP=> .ok (.d (.bl (aP.any fun kv=>decide (kv.1=Sum.inl n)))) S2 | none=> .no)
 | _,_=> .no
def intK?:List Key->Option (List Int)
 | []=>some []
 | .inl n ::ks=>(intK? ks).map (n ::·)
 | .inr _ ::_=>none
def LC(f:FX):FX:=fun δ S=>(f δ S).bind fun o S1=>match o with
 | .loc k=>(match uA S1 k with
   | some aP=>(match intK? (aP.map (·.1)) with | some ns=>R3.aU (decide (ns.length < 64)) (.ok (.d (.lst ((Ad ns).map .int))) S1) | none=> .no)
   | none=> .no)
 | _=> .no
end
end L3
end
section
namespace L2
open PySem PySem.Spec PyProof.Rows
section
variable {X:Cx}
def Ke:V->List V->Hp->VK->Prop:=fun x vs H Q=>∃(l:Addr) (xs:List V) (j:Int) (i:Nat) (y:V),x= .ref l/\vs=[.int j,y]/\H l=some (.lst xs)/\j=i/\i<=xs.length/\xs.length < sizeLine/\Q .cz (upd H l (.lst (xs.take i++y ::xs.drop i)))
end
end L2
namespace L3
open PySem PySem.Spec PyProof.Rows L2
section
variable {X:Cx} {cl:Ru}
def N5(i:Nat)(f g:FX):FZ:=fun δ S=>match iM δ i with
 | none=> .no
 | some k=>match dm S k with
   | none=> .no
   | some _=>(f δ S).bind fun v S1=>match v with
     | .d (.int j)=>(g δ S1).bind fun w S2=>(match w with
       | .d d=>(match dm S2 k with
         | some ds=>R3.aU (decide (0<=j/\j.toNat<=ds.length/\ds.length < sizeLine)) (.ok (.nx δ) (S2.set k (.lst (ds.take j.toNat++d ::ds.drop j.toNat))))
         | none=> .no)
       | _=> .no)
     | _=> .no
end
end L3
end
section
namespace L3
open PySem PySem.Spec PyProof.Rows L2
section
variable {X:Cx} {cl:Ru}
structure QF (X:Cx) (pos:Pos) (keys:List (Option Expr)) (values:List Expr) (ks:List Str) (g:ak->R (List D)):Prop where
 h:∃su,GJ X pos keys values su/\∀(σ:L2.St) (H:Hp) (Q:List (V × V)->Hp->Prop),(∃Z B δ ds,dA X.K Z B H σ δ/\g δ= .ok ds/\∀vs H',aK H H'->aw X.K B H' ds vs->Q ((ks.zip vs).map fun p=>(V.str p.1,p.2)) H')->nK su σ H Q
def GY(ks:List Str)(ns:List Int):List (Key × D):=(ks.zip ns).foldl (fun acc p=>G5 acc (Sum.inr p.1) (.int p.2)) []
def KU(ks:List Str)(g:ak->R (List D)):FX:=fun δ S=>(R3.of (g (down δ)) S).bind fun ds S=>match ints? ds with
 | some ns=>R3.aU (decide (ns.length=ks.length/\ks.length<=15)) (.ok (.loc S.length) (S++[.dct (GY ks ns)]))
 | none=> .no
def Lw(aP:List (Key × D))(k:Key):Option D:=(aP.find? fun kv=>decide (kv.1=k)).map (·.2)
def Nj(i:Nat)(f g:FD):FX:=fun δ S=>match iM δ i with
 | none=> .no
 | some k=>match uA S k with
   | none=> .no
   | some aP=>(R3.of (f (down δ)) S).bind fun kd S=>(R3.of (g (down δ)) S).bind fun d S=>match kd with
     | .str x=> .ok (.d ((Lw aP (Sum.inr x)).getD d)) S
     | _=> .no
end
end L3
end
section
namespace L2
open PySem PySem.Spec PyProof.Rows
section
variable {X:Cx}
def xM:List D->R D
 | [.tup ds]=>(match ints? ds with | some ns=> .ok (.int ns.sum) | none=> .no)
 | ds=>FK ds
theorem Ax(hc:X.calm=true):cD X (.builtin "sum") xM:=by
 intro pins s σ H B ds d xs us I hb rx rs hg;unfold xM at hg;split at hg
 .split at hg
  .rename_i es ns e;cases hg;obtain⟨x,rfl,r⟩:=rs.one;obtain⟨a,ys,rfl,l,r⟩:=Rep.tup.mp r;obtain⟨u,rfl,ru⟩:=vals1 rx;cases ru;obtain⟨its,rv,ht,hz⟩:=I.tuple l.sq;rw[dD r e] at rv;obtain⟨ps,rfl,rfl⟩:=eB rv;have hl:s.heap.IsTuple a (intItems ps.toArray):=by
    have ht:s.heap.IsTuple a (ps.map fun p=>Value.int p.1 p.2).toArray:=ht
    simpa [intItems] using ht
   refine PySem.W.ktm_sumG (I.ok.hd hc) hl fun h' tk t' k=>⟨.int _,H,I.kept k,⟨t',rfl⟩,aK.refl H,Rep.int.mpr ?_⟩
   rw[preSum_eq,List.take_of_length_le (by simp)]
  .cases hg
 .exact Io hc pins s σ H B ds d xs us I hb rx rs hg
end
end L2
end
section
namespace L2
open PySem PySem.Spec PyProof.Rows
section
variable {X:Cx}
def Nk(d e:D):R D:=match d,e with
 | .tup a, .int k=>R.aU (decide (2<=k/\k < 1000/\a≠[]/\a.length*k.toNat<=sizeLine)) (.ok (.tup (List.replicate k.toNat a).flatten))
 | d,e=>km d e
end
end L2
end
section
namespace HT
open PySem PySem.Spec PyProof.Rows
section
variable {prog:Program} {w:World} {A:Around} {E:Ro} {s:Shared}
end
end HT
namespace L2
open PySem PySem.Spec PyProof.Rows
def D8:D->Option Key
 | .int n=>some (Sum.inl n)
 | .str x=>some (Sum.inr x)
 | _=>none
def IW(ks:List Key)(k:Key):Bool:=ks.any fun x=>decide (x=k)
def K7(ks:List Key)(ds:List D)(k:Key):Option D:=((ks.zip ds).find? fun p=>decide (p.1=k)).map (·.2)
def Om(a b:D):R D:=match b with
 | .dct ks _=>(match D8 a with | some k=> .ok (.bl (IW ks k)) | none=> .no)
 | _=> .no
def OR(a b:D):R D:=match b with
 | .dct ks _=>(match D8 a with | some k=> .ok (.bl (!IW ks k)) | none=> .no)
 | _=> .no
def MY(d k:D):R D:=match d with
 | .dct ks ds=>(match D8 k with | some k=>(match K7 ks ds k with | some x=> .ok x | none=> .no) | none=> .no)
 | _=> .no
section
variable {X:Cx}
def ML(f:FD):FD:=fun δ=>(f δ).bind fun d=>match d with | .tup ds=> .ok (.tup ds.reverse) | _=> .no
def M0(i:Nat)(f:FD):FS:=fun δ=>(f δ).bind fun d=>match seqD? d with
 | some es=>(nk δ i).bind fun ds=>R.aU (decide (ds.length+es.length<=sizeLine)) (.ok (.nx (δ.set i (.bld (ds++es)))))
 | none=> .no
def Nb(f g:FD):ak->R (List D):=fun δ=>(f δ).bind fun d=>(g δ).bind fun e=>match d,e with
 | .int i, .int j=>R.aU (decide (-(2 ^ 62)<=i/\i < 2 ^ 62/\ -(2 ^ 62)<=j/\j < 2 ^ 62/\j - i < 16777216)) (.ok (gH i (j - i).toNat))
 | _,_=> .no
end
end L2
namespace L3
open PySem PySem.Spec PyProof.Rows L2
section
variable {X:Cx} {cl:Ru}
def Mw(i:Nat)(f:FX):FZ:=fun δ S=>match iM δ i with
 | none=> .no
 | some k=>match dm S k with
   | none=> .no
   | some _=>(f δ S).bind fun v S1=>match v with
     | .d d=>(match seqD? d with
       | some es=>(match dm S1 k with
         | some ds=>R3.aU (decide (ds.length+es.length<=sizeLine)) (.ok (.nx δ) (S1.set k (.lst (ds++es))))
         | none=> .no)
       | none=> .no)
     | _=> .no
def Lb(fo fi fe:FX):FZ:=fun δ S=>(fe δ S).bind fun v S1=>(fo δ S1).bind fun o S2=>(fi δ S2).bind fun j S3=>match v,o,j with
 | .d d, .loc k, .d n=>(match uA S3 k,D8 n with | some aP,some key=>R3.aU (decide (aP.length < sizeLine)) (.ok (.nx δ) (S3.set k (.dct (G5 aP key d)))) | _,_=> .no)
 | _,_,_=> .no
end
end L3
end
section
namespace PySem.W
open PySem PySem.Calls PyProof.Rows
def rR{α:Type}(n:Nat)(lt:Nat->Nat->Bool):KasT α->Option α
 | .ret a=>some a
 | .ask i j k=>if i < n/\j < n then rR n lt (k (lt i j)) else none
theorem vj{α:Type}{cmp:Nat->Nat->(Bool->Shared->Prop)->Shared->Prop}{n:Nat}{lt:Nat->Nat->Bool}{s:Shared}(hc:∀i j C,i < n->j < n->C (lt i j) s->cmp i j C s){Q:α->Shared->Prop} :
 ∀(t:KasT α) (a:α),rR n lt t=some a->Q a s->t.kasWp cmp Q s
 | .ret b,a,h,q=>by cases h;exact q
 | .ask i j k,a,h,q=>by
   unfold rR at h;split at h
   .rename_i hij;exact hc i j _ hij.1 hij.2 (vj hc (k (lt i j)) a h q)
   .cases h
section
variable {prog:Program} {w:World} {A:Around} {E:Ro} {s:Shared} {a:Addr} {vs:List Value} {κ:SortKind}
abbrev nW(h:Heap)(a:Addr)(vs:List Value):Heap:=((h.update a (Obj.mapSeq fun _=>(#[]:Array Value))).push (seqObj "tuple" vs.toArray 0)).push (seqObj "list" #[] 0)
theorem o9{n:Nat}{P:PySem.Fin->Shared->Prop}{lt:Nat->Nat->Bool}{p:Array Nat}(ho:s.heap.get? a=some (seqObj "list" vs.toArray n))(h2:2<=vs.length)(HY:vs.length < 64)(LS:rR vs.length lt (kas_sort vs.length)=some p)
 (hk:∀Q:SortKind->Shared->Prop,Q κ {s with heap:=nW s.heap a vs}->wpAny (model prog w) A (keyKind' vs.toArray) Q (fun _ _=>False) {s with heap:=nW s.heap a vs})
 (hc:∀i j C,i < vs.length->j < vs.length->C (lt i j) {s with heap:=nW s.heap a vs}->kas_ask prog w A κ vs i j C {s with heap:=nW s.heap a vs})
 (h:∀c2,((nW s.heap a vs).update a (Obj.mapSeq fun _=>List.toArray (p.toList.map fun i=>vs.getD i Value.none))).get? a=some (seqObj "list" (List.toArray (p.toList.map fun i=>vs.getD i Value.none)) c2)->P (.done (.ret .none)) {s with heap:=(nW s.heap a vs).update a (Obj.mapSeq fun _=>List.toArray (p.toList.map fun i=>vs.getD i Value.none))}) :
 wpAny (model prog w) A (Builtin.«list.sort» ⟨[.ref a],[]⟩) P E s:=by
 have ha:a < s.heap.objs.size:=Heap.lt_size ho;obtain⟨e1,Nz⟩:∃e1,(s.heap.update a (Obj.mapSeq fun _=>(#[]:Array Value))).get? a=some (seqObj "list" #[] e1):=⟨_,get?_update_seq ho fun _=>#[]⟩
 have na:(nW s.heap a vs).get? a=some (seqObj "list" #[] e1):=Heap.get?_push_of_some _ (Heap.get?_push_of_some _ Nz);rw[list_sort_plain];refine wpAny_bind (listItems_at ho rfl ?_);refine wpAny_bind (listUpdate_at ho rfl ?_ (by rw[List.size_toArray,sizeLine_eq];omega) (Nat.zero_le _))
 refine wpAny_bind (seqEpoch_at Nz rfl ?_);refine wpAny_bind (wpAny_newTuple ?_ (by show vs.length<=_;rw [sizeLine_eq];omega))
 refine wpAny_bind (wpAny_newList ?_ (Nat.zero_le _));refine wpAny_holding ?_;show wpAny (model prog w) A _ P E {s with heap:=nW s.heap a vs}
 dsimp only;have Hv:¬vs.toArray.size < 2:=by rw[List.size_toArray];omega
 rw[if_neg Hv,if_neg Hv];refine wpAny_bind (wpAny_mono (hk (fun NB s0=>NB=κ/\s0={s with heap:=nW s.heap a vs}) ⟨rfl,rfl⟩) (fun NB s0 Qa=>?_) fun _ _ x=>x.elim)
 obtain⟨rfl,rfl⟩:=Qa;have hrun:=vj (Q:=fun p' s'=>p'=p/\s'={s with heap:=nW s.heap a vs}) hc (kas_sort vs.length) p LS ⟨rfl,rfl⟩
 refine wpAny_bind (wpAny_mono (kat_run (Q:=fun vF s'=>p.size=vs.length/\arrOf vF=p.map (kas_item (vs.toArray.zip vs.toArray))/\failedOf vF=none/\s'={s with heap:=nW s.heap a vs})
  rfl h2 HY (fun p' vF s' a1 a2 a3 a4=>by obtain⟨rfl,rfl⟩:=a4;exact⟨a1,a2,a3,rfl⟩) hrun) ?_ fun _ _ e=>e)
 rintro⟨⟨⟩,vF⟩ s' ⟨hp,har,hf,rfl⟩;dsimp only;have hout:=kat_snds rfl har;have vG:(List.toArray (p.toList.map fun i=>vs.getD i Value.none)).size=vs.length:=by rw[List.size_toArray,List.length_map,Array.length_toList,hp]
 rw[hout];obtain⟨c2,ue⟩:∃c2,((nW s.heap a vs).update a (Obj.mapSeq fun _=>List.toArray (p.toList.map fun i=>vs.getD i Value.none))).get? a=some (seqObj "list" (List.toArray (p.toList.map fun i=>vs.getD i Value.none)) c2):=⟨_,get?_update_seq na fun _=>List.toArray (p.toList.map fun i=>vs.getD i Value.none)⟩
 refine wpAny_bind (seqEpoch_at na rfl ?_);refine wpAny_bind (listUpdate_at na rfl ?_ (Nat.zero_le _) (Nat.le_trans (Nat.le_of_eq vG) (by rw[sizeLine_eq];omega)))
 rw[hf];simp only[bne_self_eq_false,Bool.false_eq_true,if_false];exact wpAny_pure (h c2 ue)
theorem m3{l:Addr}{Q:Ro}{lt:Nat->Nat->Bool}{p:Array Nat}(hl:s.heap.IsList l vs.toArray)(h2:2<=vs.length)(HY:vs.length < 64)(LS:rR vs.length lt (kas_sort vs.length)=some p)
 (hk:∀s0:Shared,(∀b o,s.heap.get? b=some o->s0.heap.get? b=some o)->∀Q:SortKind->Shared->Prop,Q κ s0->wpAny (model prog w) A.in1.in1 (keyKind' vs.toArray) Q (fun _ _=>False) s0)
 (hc:∀s0:Shared,(∀b o,s.heap.get? b=some o->s0.heap.get? b=some o)->∀i j C,i < vs.length->j < vs.length->C (lt i j) s0->kas_ask prog w A.in1.in1 κ vs i j C s0)
 (h:∀h' c,(∀b o,s.heap.get? b=some o->h'.get? b=some o)->h'.get? (s.heap.objs.size+1)=some (seqObj "list" (List.toArray (p.toList.map fun i=>vs.getD i Value.none)) c)->Q (.ref (s.heap.objs.size+1)) {s with heap:=h'}) :
 wpAny (model prog w) A (call (.builtin "sorted") [.ref l]) Q E s:=by
 refine Calls.call_function_entry kind_sorted plain_sorted entry_sorted (args_sorted1 _) ?_;unfold Builtin.«sorted»;refine wpAny_bind (m:=checkCount "sorted" 1 1 _) (wpAny_pure ?_);refine wpAny_bind (collect_list hl ?_ (by rw[sizeLine_eq];omega))
 refine wpAny_bind (wpAny_newList ?_ (by rw[sizeLine_eq];omega))
 have vG:((s.heap.push (seqObj "list" #[] 0)).update s.heap.objs.size (Obj.mapSeq (·++vs.toArray))).objs.size=s.heap.objs.size+1:=by
  rw[Heap.size_update,size_push']
 have hoL:(((s.heap.push (seqObj "list" #[] 0)).update s.heap.objs.size (Obj.mapSeq (·++vs.toArray))).push (seqObj "list" vs.toArray 0)).get? (s.heap.objs.size+1)=some (seqObj "list" vs.toArray 0):=by
  rw[<-vG];exact Heap.get?_push_size _ rfl
 have keep:∀b o,s.heap.get? b=some o->(((s.heap.push (seqObj "list" #[] 0)).update s.heap.objs.size (Obj.mapSeq (·++vs.toArray))).push (seqObj "list" vs.toArray 0)).get? b=some o:=fun b o q=>by
  have hlt:b < s.heap.objs.size:=Heap.lt_size q;rw[Heap.get?_push_ne _ _ _ (by rw[vG];exact Nat.ne_of_lt (Nat.lt_succ_of_lt hlt)),Heap.get?_update_ne _ _ _ _ (Nat.ne_of_lt hlt),Heap.get?_push_ne _ _ _ (Nat.ne_of_lt hlt)]
  exact q
 show wpAny _ _ _ _ _ {s with heap:=((s.heap.push (seqObj "list" #[] 0)).update s.heap.objs.size (Obj.mapSeq (·++vs.toArray))).push (seqObj "list" vs.toArray 0)}
 rw[vG];have keep2:∀(h0:Heap),(∀b o,s.heap.get? b=some o->h0.get? b=some o)->∀b o,s.heap.get? b=some o->(nW h0 (s.heap.objs.size+1) vs).get? b=some o:=fun h0 hk b o q=>by
  have hlt:b < s.heap.objs.size:=Heap.lt_size q;refine Heap.get?_push_of_some _ (Heap.get?_push_of_some _ ?_);rw[Heap.get?_update_ne _ _ _ _ (Nat.ne_of_lt (Nat.lt_succ_of_lt hlt))];exact hk b o q
 refine wpAny_bind (wpAny_holding (wpAny_call_entry slot_list_sort ⟨_,hoL,rfl⟩ entry_list_sort ?body (args_list_sort _)))
 case body=>
  refine o9 (κ:=κ) (lt:=lt) (p:=p) (s:={s with heap:=((s.heap.push (seqObj "list" #[] 0)).update s.heap.objs.size (Obj.mapSeq (·++vs.toArray))).push (seqObj "list" vs.toArray 0)}) hoL h2 HY LS (hk _ (keep2 _ keep)) (hc _ (keep2 _ keep)) fun c2 ue=>?_
  refine⟨_,rfl,wpAny_pure ⟨_,rfl,h _ c2 (fun b o q=>?_) ue⟩⟩
  have hlt:b < s.heap.objs.size:=Heap.lt_size q;rw[Heap.get?_update_ne _ _ _ _ (Nat.ne_of_lt (Nat.lt_succ_of_lt hlt))];exact keep2 _ keep b o q
end
end PySem.W
namespace L2
open PySem PySem.Spec PyProof.Rows
def IT:D->Option (Int × List Int)
 | .tup [.int a, .tup zs]=>(ints? zs).map fun ns=>(a,ns)
 | _=>none
def zD:List D->Option (List (Int × List Int))
 | []=>some []
 | d ::ds=>(IT d).bind fun p=>(zD ds).map (p ::·)
def DL(x y:Int × List Int):Bool:=if x.1=y.1 then(if x.2=y.2 then false else HT.lexLt x.2 y.2) else decide (x.1 < y.1)
def AZ(ps:List (Int × List Int)):Option (Array Nat):=PySem.W.rR ps.length (fun i j=>DL (ps.getD i (0,[])) (ps.getD j (0,[]))) (PySem.W.kas_sort ps.length)
def tY:List D->R D
 | [.lst ds]=>(match zD ds with
   | some ps=>R.aU (decide (2<=ps.length/\ps.length < 64)) (match AZ ps with | some p=>R.aU (p.toList.all (fun i=>decide (i < ps.length)) && decide (p.toList.length < 64)) (.ok (.lst (p.toList.map fun i=>ds.getD i .cz))) | none=> .no)
   | none=> .no)
 | _=> .no
def vz(h:Heap)(v:Value)(p:Int × List Int):Prop:=
 ∃(x b:Addr) (t:Tok) (n:Nat) (o:Obj) (its:Array Value),v= .ref x/\h.get? x=some o/\o.cls= .type "tuple"/\o.data= .seq #[.int p.1 t, .ref b] n/\IsTup h b its/\IntsAre its.toList p.2
theorem vz.keeps{h h':Heap}{v:Value}{p:Int × List Int}(k:∀b o,h.get? b=some o->h'.get? b=some o)(x:vz h v p):vz h' v p:=by
 obtain⟨x,b,t,n,o,its,e,h1,h2,h3,⟨o2,g1,g2,g3⟩,h5⟩:=x;exact⟨x,b,t,n,o,its,e,k _ _ h1,h2,h3,⟨o2,k _ _ g1,g2,g3⟩,h5⟩
section
variable {X:Cx}
theorem Er{pins:Rn}{s:Shared}{B:List Addr}(I:Inv X pins σ H s){d:D}{x:V}{v:Value}{p:Int × List Int}(hp:IT d=some p)(r:Rep X.K B H d x)(rx:RelV x v):vz s.heap v p:=by
 unfold IT at hp;split at hp
 .rename_i a zs;obtain⟨ns,e1,rfl⟩:=L3.gU hp;obtain⟨ad,xs,rfl,l,rs⟩:=Rep.tup.mp r;cases rx;obtain⟨x1,r1,rfl,q1,q2⟩:=rs.bM;obtain⟨x2,r2,rfl,q3,q4⟩:=q2.bM;unfold aw at q4;subst q4;have:=Rep.int.mp q1;subst this;obtain⟨bd,ys,rfl,l2,Km⟩:=Rep.tup.mp q3;obtain⟨its,rv,⟨o,o1,o2,n,o3⟩,_⟩:=I.tuple l.sq;obtain⟨ri,Hu,PU,_⟩:=I.tuple l2.sq;rw[dD Km e1] at Hu;cases rv with
  | cons u1 rv=>
    cases rv with
    | cons u2 rv=>
      cases rv;obtain⟨t,rfl⟩:=u1;cases u2;exact⟨ad,bd,t,n,o,ri.toArray,rfl,o1,o2,o3,PU,by simpa using intsAre_of Hu⟩
 .cases hp
theorem Fb{pins:Rn}{s:Shared}{B:List Addr}(I:Inv X pins σ H s):∀{ds:List D} {ps:List (Int × List Int)} {xs:List V} {vs:List Value},zD ds=some ps->aw X.K B H ds xs->Vals xs vs->
 vs.length=ps.length/\∀i (hi:i < ps.length),vz s.heap (vs.getD i Value.none) (ps.getD i (0,[]))
 | [],ps,xs,vs,hp,r,rv=>by
   cases hp;unfold aw at r;subst r;cases rv;exact⟨rfl,fun i hi=>by simp at hi⟩
 | d ::ds,ps,xs,vs,hp,r,rv=>by
   obtain⟨p,e1,h2⟩:=L3.mm hp;obtain⟨P7,e2,rfl⟩:=L3.gU h2;obtain⟨x,Qp,rfl,r1,r2⟩:=r.bM;cases rv with
   | cons u rv=>
     obtain⟨a,b⟩:=Fb I e2 r2 rv;refine⟨by rw[List.length_cons,List.length_cons,a],fun i hi=>?_⟩
     cases i with
     | zero=>exact Er I e1 r1 u
     | succ i=>exact b i (by simpa using hi)
theorem uX:∀{ds:List D} {ps:List (Int × List Int)},zD ds=some ps->ds.length=ps.length
 | [],ps,hp=>by cases hp;rfl
 | d ::ds,ps,hp=>by
   obtain⟨p,e1,h2⟩:=L3.mm hp;obtain⟨P7,e2,rfl⟩:=L3.gU h2;rw[List.length_cons,List.length_cons,uX e2]
theorem iZ:∀{vs:List Value} {ns:List Int},IntsAre vs ns->ItemsAre (intKind prog w) ns vs
 | _,_, .nil=> .nil
 | _,_, .cons n t hr=> .cons (intKind_is _ _ _ _) (iZ hr)
theorem rZ:∀{xs:List V} {vs:List Value},Vals xs vs->∀i,i < xs.length->RelV (xs.getD i .cz) (vs.getD i Value.none)
 | _,_, .nil,i,h=>by simp at h
 | _,_, .cons r t,0,h=>r
 | _,_, .cons r t,i+1,h=>by
   have:=rZ t i (by simpa using h)
   simpa using this
theorem rB{K:W.Frag}{B:List Addr}:∀{ds:List D} {xs:List V},aw K B H ds xs->∀i,i < ds.length->Rep K B H (ds.getD i .cz) (xs.getD i .cz)
 | [],xs,r,i,h=>by simp at h
 | d ::ds,xs,r,i,h=>by
   obtain⟨x,r',rfl,r1,r2⟩:=r.bM;cases i with
   | zero=>exact r1
   | succ i=>
     have:=rB r2 i (by simpa using h)
     simpa using this
theorem ro{K:W.Frag}{B:List Addr}{ds:List D}{xs:List V}(r:aw K B H ds xs):∀l:List Nat,(∀i∈l,i < ds.length)->aw K B H (l.map fun i=>ds.getD i .cz) (l.map fun i=>xs.getD i .cz)
 | [],_=>aw.nil
 | i ::l,hi=>aw.cons (rB r i (hi i List.mem_cons_self)) (ro r l fun j hj=>hi j (List.mem_cons_of_mem _ hj))
theorem D4{prog:Program}{w:World}{A:Around}{s:Shared}{u v:Value}{p q:Int × List Int}{C:Bool->Shared->Prop}(hu:A.units < cLine)(hp:vz s.heap u p)(hq:vz s.heap v q)(h:C (DL p q) s) :
 wpAny (model prog w) A (keyLt' (tuples' true) u v) C (fun _ _=>False) s:=by
 obtain⟨x,b,t,n,o,its,rfl,h1,h2,h3,tb,ib⟩:=hp;obtain⟨y,c,t',n',o',its',rfl,g1,g2,g3,tc,ic⟩:=hq;refine PySem.W.kat_lt h1 h3 g1 g3 ?_;show PySem.W.KatLex prog w A true _ C [(.int p.1 t, .int q.1 t'),(.ref b, .ref c)] 0 s;refine PySem.W.kat_cons (wpAny_eqBool_int ?_);by_cases e:p.1=q.1
 .rw [show(p.1==q.1)=true from beq_iff_eq.mpr e]
  refine PySem.W.kat_yes (PySem.W.kat_cons ?_);have kb:IsTupleKey (intKind prog w) s.heap p.2 b:=by
   obtain⟨o,o1,o2,n,o3⟩:=tb;exact⟨o,its,n,o1,o2,o3,iZ ib⟩
  have kc:IsTupleKey (intKind prog w) s.heap q.2 c:=by
   obtain⟨o,o1,o2,n,o3⟩:=tc;exact⟨o,its',n,o1,o2,o3,iZ ic⟩
  refine wpAny_eqBool_tuple hu kb kc ?_;by_cases e2:p.2=q.2
  .rw [decide_eq_true e2];refine PySem.W.kat_yes (PySem.W.kat_nil ?_);have:DL p q=false:=by unfold DL;rw [if_pos e,if_pos e2]
   rw[this] at h;exact h
  .rw [decide_eq_false e2];refine PySem.W.kat_no (PySem.W.kat_one _ _ ?_);have:DL p q=HT.lexLt p.2 q.2:=by unfold DL;rw [if_pos e,if_neg e2]
   rw[this] at h;exact HT.vT tb tc ib ic hu h
 .rw [show(p.1==q.1)=false from beq_eq_false_iff_ne.mpr e]
  refine PySem.W.kat_no ?_;have:DL p q=decide (p.1 < q.1):=by unfold DL;rw [if_neg e]
  rw[this] at h;exact oneLt_int h
theorem DN(hu:X.A.units+64 < cLine):cD X (.builtin "sorted") tY:=by
 intro pins s σ H B ds d xs us I hb rx rs hg;unfold tY at hg;split at hg
 .split at hg
  .rename_i es ps e;obtain⟨HY,h2⟩:=R.aT hg;obtain⟨Ex,HY⟩:=of_decide_eq_true HY;split at h2
   .rename_i p hp;obtain⟨hal,h3⟩:=R.aT h2;cases h3;obtain⟨hpi,Fh⟩:=Bool.and_eq_true_iff.mp hal;have hpi:∀i∈p.toList,i < ps.length:=fun i hi=>of_decide_eq_true (List.all_eq_true.mp hpi i hi)
    have Fh:=of_decide_eq_true Fh;obtain⟨x,rfl,r⟩:=rs.one;obtain⟨a,ys,rfl,l,r⟩:=Rep.lst.mp r;obtain⟨u,rfl,ru⟩:=vals1 rx;cases ru;obtain⟨its,n,rv,e1,hz⟩:=I.EJ l;obtain⟨q1,q2⟩:=Fb I e r rv;have hl:s.heap.IsList a its.toArray:=⟨_,e1,rfl,n,rfl⟩;have kx:=uX e;refine PySem.W.m3 (κ:=tuples' true) (lt:=fun i j=>DL (ps.getD i (0,[])) (ps.getD j (0,[]))) (p:=p) hl (by omega) (by omega) (by rw[q1];exact hp) (fun s0 k Q q=>?_) (fun s0 k i j C hi hj q=>?_) fun h' c k Mo=>?_
    .have kt:∀(vs:List Value) (ps:List (Int × List Int)),vs.length=ps.length->(∀i,i < ps.length->vz s.heap (vs.getD i Value.none) (ps.getD i (0,[])))->∃fs:List Value,fs.length=ps.length/\PySem.W.KatTups s0.heap vs fs/\∀f∈fs,∃z t,f=Value.int z t:=by
      intro vs
      induction vs with
      | nil=>intro ps hl _;cases ps with
        | nil=>exact⟨[],rfl,PySem.W.KatTups.nil,fun f hf=>by cases hf⟩
        | cons _ _=>simp at hl
      | cons v vs ih=>intro ps hl hps;cases ps with
        | nil=>simp at hl
        | cons p0 ps=>
          obtain⟨fs,f1,f2,f3⟩:=ih ps (by simpa using hl) fun i hi=>by have:=hps (i+1) (by simpa using hi);simpa using this
          obtain⟨x,b,t,n,o,its,ev,h1,h2,h3,tb,ib⟩:=(hps 0 (by simp)).keeps k
          have ev:v= .ref x:=ev;subst ev;refine⟨.int p0.1 t ::fs,by simp [f1],PySem.W.KatTups.cons h1 h2 h3 rfl f2,fun f hf=>?_⟩
          rcases List.mem_cons.mp hf with rfl | hf
          .exact⟨_,_,rfl⟩
          .exact f3 f hf
     obtain⟨fs,f1,f2,f3⟩:=kt its ps q1 q2;exact PySem.W.kat_kind (T:= .type "int") f2 (by omega) (fun v hv=>by obtain⟨z,t,rfl⟩:=f3 v hv;exact PySem.W.Looks.of_pure rfl) rfl q
    .show wpAny _ _ (keyLt' _ (its.getD i Value.none) (its.getD j Value.none)) C _ s0;exact D4 (show X.A.units+1+1 < cLine by omega) ((q2 i (by omega)).keeps k) ((q2 j (by omega)).keeps k) q
    .have hle:(p.toList.map fun i=>ys.getD i .cz).length<=sizeLine:=by
      have hzz:sizeLine=16777216:=sizeLine_eq;rw[List.length_map];omega
     have hrl:=r.length;have Hu:∀l:List Nat,(∀i∈l,i < ps.length)->Vals (l.map fun i=>ys.getD i .cz) (l.map fun i=>its.getD i Value.none):=by
      intro l
      induction l with
      | nil=>intro _;exact .nil
      | cons i l ih=>intro hi;exact .cons (rZ rv i (by have:=hi i List.mem_cons_self;omega)) (ih fun j hj=>hi j (List.mem_cons_of_mem _ hj))
     have hn:H (s.heap.objs.size+1)=none:=I.hok.fresh (Nat.le_succ _);have I2:=I.laid (a:=s.heap.objs.size+1) (o:= .lst (p.toList.map fun i=>ys.getD i .cz)) (h':=h') (t':=s.toks) k (Nat.le_succ _) (show ef X.prog X.w _ _ _ (.lst _) from⟨hle,_,c,Hu _ hpi,Mo⟩)
     refine⟨.ref (s.heap.objs.size+1),_,I2,rfl,aW hn,Rep.lst.mpr ⟨_,_,rfl, .wQ aV fun ha=>?_,(ro r p.toList fun i hi=>by rw[kx];exact hpi i hi).same (aW hn)⟩⟩
     obtain⟨o,ho⟩:=hb _ ha;rw[hn] at ho;cases ho
   .cases h2
  .cases hg
 .cases hg
end
end L2
end
section
namespace L2
open PySem PySem.Spec PyProof.Rows
def Dp(d a:D):Bool:=PyData.eqv (toPy d) (toPy a)
def HG(d:D):Bool:=dI d && (toPy d).canLay0 && decide ((toPy d).depth<=8)
def Lq(a b:D):R Bool:=match seqD? b with
 | some ds=>R.aU (HG a && ds.all HG) (.ok (ds.any fun d=>Dp d a))
 | none=> .no
def Of(a b:D):R D:=(Lq a b).bind fun x=> .ok (.bl x)
def Bd(a b:D):R D:=(Lq a b).bind fun x=> .ok (.bl (!x))
section
variable {X:Cx}
open Classical in
def Cw(h:Heap)(a:D)(y:Value):Bool:=decide (∃d as,Reads h y (toPy d) as/\(toPy d).canLay0=true/\Dp d a=true)
open Classical in
theorem FN{a d:D}{y:Value}{as:List Addr}(r:Reads h y (toPy d) as)(hl:(toPy d).canLay0=true):Cw h a y=Dp d a:=by
 unfold Cw;cases q:Dp d a with
 | true=>exact decide_eq_true ⟨d,as,r,hl,q⟩
 | false=>
   refine decide_eq_false fun⟨d',NI,r',Ri,q'⟩=>?_
   have:=SeqAt.Reads.unique _ _ y as NI hl r r';unfold Dp at q q';rw[<-this,q] at q';cases q'
theorem nA{d:D}(h:HG d=true):dI d=true/\(toPy d).canLay0=true/\(toPy d).depth<=8:=by
 unfold HG at h;obtain⟨h1,h2⟩:=Bool.and_eq_true_iff.mp h;obtain⟨h3,h4⟩:=Bool.and_eq_true_iff.mp h1;exact⟨h3,h4,of_decide_eq_true h2⟩
theorem xY{pins:Rn}{s:Shared}{B:List Addr}(I:Inv X pins σ H s){a:D}:∀{ds:List D} {xs:List V} {us:List Value},ds.all HG=true->aw X.K B H ds xs->Vals xs us->
 us.any (Cw s.heap a)=ds.any (fun d=>Dp d a)/\∀u∈us,∃d as,HG d=true/\Reads s.heap u (toPy d) as/\Cw s.heap a u=Dp d a
 | [],xs,us,_,r,rv=>by
   unfold aw at r;subst r;cases rv;exact⟨rfl,fun u hu=>by cases hu⟩
 | d ::ds,xs,us,hk,r,rv=>by
   rw[List.all_cons,Bool.and_eq_true] at hk;obtain⟨x,Qp,rfl,r1,r2⟩:=r.bM;cases rv with
   | cons u rv=>
     obtain⟨i1,i2⟩:=xY I hk.2 r2 rv;obtain⟨p1,p2,p3⟩:=nA hk.1;obtain⟨as,ra⟩:=r1.reads I p1 u;have e:=FN (a:=a) ra p2;refine⟨by rw[List.any_cons,List.any_cons,e,i1],fun u' hu=>?_⟩
     rcases List.mem_cons.mp hu with rfl | hu
     .exact⟨d,as,hk.1,ra,e⟩
     .exact i2 u' hu
theorem Ip(hu:X.A.units+64 < cLine):ki X (compareOp .NotIn) Bd:=by
 intro pins s σ H B da db d x y v u I hb rx ry ra rb hg;obtain⟨b,h1,h2⟩:=R.ai hg;cases h2;unfold Lq at h1;split at h1
 .rename_i ds hs;obtain⟨hk,h3⟩:=R.aT h1;cases h3;obtain⟨Qe,P5⟩:=Bool.and_eq_true_iff.mp hk;obtain⟨p1,p2,p3⟩:=nA Qe;obtain⟨as,rda⟩:=ra.reads I p1 rx;obtain⟨t,p,xs,rfl,k1⟩:=rb.AH hs;obtain⟨sq,rs⟩:=k1 B H (c5.refl B H);cases ry;obtain⟨its,rv,e2⟩:=I.AH sq;obtain⟨q1,q2⟩:=xY (a:=da) I P5 rs rv;have he:∀w,w∈its.toArray->SeqAt.EqAt X.A.in1 s w v (Cw s.heap da w):=fun w hw=>by
   obtain⟨d',NI,o1,o2,o3⟩:=q2 w (by simpa using hw)
   rw[o3];obtain⟨z1,z2,z3⟩:=nA o1;refine SeqAt.eqAt_reads _ _ _ _ _ _ _ _ o2 rda z2 p2 ?_;show X.A.units+1+_ < cLine;omega
  have fin:EP X pins σ (fun z H'=>aK H H'/\Rep X.K B H' (.bl (!(ds.any fun d=>Dp d da))) z) (.bool (!its.toArray.any (Cw s.heap da))) s:=by
   refine⟨.bl (!(ds.any fun d=>Dp d da)),H,I,?_,aK.refl H,Rep.bl.mpr rfl⟩
   rw[show its.toArray.any (Cw s.heap da)=its.any (Cw s.heap da) by simp,q1];rfl
  cases t with
  | true=>exact SeqAt.notIn_tupleAt (Cw s.heap da) (show s.heap.IsTuple p its.toArray from e2) he fin
  | false=>exact SeqAt.notIn_listAt (Cw s.heap da) (show s.heap.IsList p its.toArray from e2) he fin
 .cases h1
end
end L2
end
section
namespace NT
def mx(f:Nat->Nat)(w:List Nat):Nat:=(w.map f).foldl max 0
structure BA (f:Nat->Nat) (M:Nat) (bs:List Int):Prop where
 a:∀(z:Nat) (v:Int),bs[z]? =some v->v= -1\/(0<=v/\v+f z<=M)
def BB(f:Nat->Nat)(M:Nat)(bs:List Int)(n:Nat):Prop:=∃(z:Nat) (v:Int),z < n/\bs[z]? =some v/\0<=v/\(M:Int)<=v+f z
def Up(bs NK:List Int):Prop:=NK.length=bs.length/\∀(z:Nat) (v:Int),bs[z]? =some v->∃v',NK[z]? =some v'/\v<=v'
end NT
namespace NT
open PySem PySem.Spec PyProof.Rows L2 L3
structure Gt where
 k:Str
 w:List Nat
 s:Bool
def nN(z:Nat):D:= .int z
def wN(w:List Nat):D:= .tup (w.map nN)
def gN(g:Gt):D:= .tup [.str g.k,wN g.w, .bl g.s]
def iN(x:Str × Nat):D:= .tup [.str x.1, .int x.2]
def oN(x:Str × List Nat):D:= .tup [.str x.1,wN x.2]
structure Net where
 i:Rp
 g:List Gt
 o:Rq
def Net.d(n:Net):D:= .tup [.lst (n.i.map iN), .lst (n.g.map gN), .lst (n.o.map oN)]
def Net.first(n:Net):Nat:=(n.i.map (·.2)).sum
structure Mq (n:Nat) (w:List Nat):Prop where
 ne:w≠[]
 le:w.length<=3
 lt:∀z∈w,z < n
structure Net.Ok (n:Net):Prop where
 i1:1<=n.i.length
 i6:n.i.length<=6
 iw:∀x∈n.i,1<=x.2/\x.2<=3
 is:∀x∈n.i,i0 0 (.str x.1)
 g60:n.g.length<=60
 gw:∀(p:Nat) (g:Gt),n.g[p]? =some g->Mq (n.first+p) g.w
 gs:∀g∈n.g,i0 0 (.str g.k)
 o1:1<=n.o.length
 o6:n.o.length<=6
 ow:∀x∈n.o,Mq (n.first+n.g.length) x.2
 os:∀x∈n.o,i0 0 (.str x.1)
inductive Sm:Nat->D->Prop where
 | int (n:Nat) (i:Int):Sm n (.int i)
 | bl (n:Nat) (b:Bool):Sm n (.bl b)
 | str (n:Nat) (s:Str):Sm n (.str s)
 | lst {n:Nat} {ds:List D} (h:∀d∈ds,Sm n d) (hl:ds.length<=1000000):Sm (n+1) (.lst ds)
 | tup {n:Nat} {ds:List D} (h:∀d∈ds,Sm n d) (hl:ds.length<=1000000):Sm (n+1) (.tup ds)
theorem iR{F G:FS}{δ:ak}{d:D}(h:F δ= .ok (.rt d)):dJ F G δ= .ok (.rt d):=by unfold dJ;rw [h];rfl
theorem F7{m i:Nat}{v:V3}(h:((gH 0 m).map V3.d)[i]? =some v):i < m/\v= .d (.int i):=by
 rw[List.getElem?_map,gH,List.getElem?_map] at h;cases q:(List.range m)[i]? with
 | none=>rw [q] at h;cases h
 | some j=>
   rw[q] at h;cases h;obtain⟨q1,q2⟩:=List.getElem?_eq_some_iff.mp q;rw[List.getElem_range] at q2;rw[List.length_range] at q1;subst q2;exact⟨q1,by simp⟩
theorem i_{α:Type}{l:List α}{f:α->D}{i:Nat}{v:V3}(h:((l.map f).map V3.d)[i]? =some v):∃x,l[i]? =some x/\v= .d (f x):=by
 rw[List.getElem?_map,List.getElem?_map] at h;cases q:l[i]? with
 | none=>rw [q] at h;cases h
 | some x=>rw [q] at h;cases h;exact⟨x,rfl,rfl⟩
theorem mQ{α:Type}{l:List α}{f:α->D}{i:Nat}{v:D}(h:(l.map f)[i]? =some v):∃x,l[i]? =some x/\v=f x:=by
 rw[List.getElem?_map] at h;cases q:l[i]? with
 | none=>rw [q] at h;cases h
 | some x=>rw [q] at h;cases h;exact⟨x,rfl,rfl⟩
theorem bw{α:Type}{t:FT}{c:ak->R Bool}{f:FD}{δ:ak}(a b:α->D):∀{xs:List α},(∀x∈xs,∃cY,t (a x) δ= .ok cY/\c cY= .ok true/\f cY= .ok (b x))->l3 t c f δ (xs.map a)= .ok (xs.map b)
 | [],_=>rfl
 | x ::xs,h=>by
   obtain⟨cY,h1,h2,h3⟩:=h x List.mem_cons_self;have ih:=bw (t:=t) (c:=c) (f:=f) (δ:=δ) a b (xs:=xs) fun y hy=>h y (List.mem_cons_of_mem _ hy)
   rw[List.map_cons];unfold l3;rw[h1,R.aJ,h2,R.aJ,if_pos rfl,h3,R.aJ,ih];rfl
theorem jR{α:Type}{t:FT}{c:ak->R Bool}{f:FD}{δ:ak}(p:α->Bool)(a b:α->D):∀{xs:List α},(∀x∈xs,∃cY,t (a x) δ= .ok cY/\c cY= .ok (p x)/\(p x=true->f cY= .ok (b x)))->l3 t c f δ (xs.map a)= .ok ((xs.filter p).map b)
 | [],_=>rfl
 | x ::xs,h=>by
   obtain⟨cY,h1,h2,h3⟩:=h x List.mem_cons_self;have ih:=jR (t:=t) (c:=c) (f:=f) (δ:=δ) p a b (xs:=xs) fun y hy=>h y (List.mem_cons_of_mem _ hy)
   rw[List.map_cons];unfold l3;rw[h1,R.aJ,h2,R.aJ];cases e:p x with
   | true=>rw [if_pos rfl,h3 e,R.aJ,ih,List.filter_cons,if_pos e];rfl
   | false=>rw [if_neg (by decide),ih,List.filter_cons,if_neg (by rw[e];decide)]
theorem Eu{n z:Nat}(h:z < n):zI n (z:Int)=some z:=by
 unfold zI;rw[if_pos (by omega),if_pos (by omega)]
 simp
theorem Bk{α:Type}{xs:List α}{z:Nat}{x:α}(h:xs[z]? =some x):qu xs (z:Int)=some x:=by
 have hl:=(List.getElem?_eq_some_iff.mp h).1;unfold qu;rw[Eu hl];exact h
theorem jO{ds:List D}{z:Nat}{x:D}(h:ds[z]? =some x):cn (.lst ds) (.int z)= .ok x:=n_ (Bk h)
end NT
end
section
namespace MT
open PySem PySem.Spec PyProof.Rows L2 L3
abbrev M:=Nat->Bool
theorem KY{N:List Str}{F:FZ}{vs:List V3}{δ:DE}{S:bc}{QV:V3->bc->Prop}(e:dr N vs=δ)(h:W3 (F δ S) fun o S1=>∃dH,o= .nx dH/\QV (.d .cz) S1):W3 (qC N F vs S) QV:=by
 subst e;exact W3.bind (h.mono fun _ _ ⟨_,e,q⟩=>by subst e;exact W3.ok q)
def ik:Nat->M->Nat
 | 0,_=>0
 | N+1,f=>(if f 0 then 1 else 0)+2*ik N (fun i=>f (i+1))
theorem gh:∀(N:Nat) (f:M) (i:Nat),(ik N f).testBit i=(decide (i < N) && f i)
 | 0,f,i=>by unfold ik;simp
 | N+1,f,0=>by
   unfold ik;rw[Nat.testBit_zero];cases f 0 <;> simp <;> omega
 | N+1,f,i+1=>by
   unfold ik;rw[Nat.testBit_succ];have:((if f 0=true then 1 else 0)+2*ik N fun i=>f (i+1)) / 2=ik N fun i=>f (i+1):=by split <;> omega
   rw[this,gh N _ i];simp
theorem lI:∀{N:Nat} {f g:M},(∀i,i < N->f i=g i)->ik N f=ik N g
 | 0,_,_,_=>rfl
 | N+1,f,g,h=>by
   unfold ik;rw[h 0 (by omega),lI (N:=N) fun i hi=>h (i+1) (by omega)]
theorem xI(N:Nat)(f g:M):ik N f &&& ik N g=ik N fun i=>f i && g i:=by
 refine Nat.eq_of_testBit_eq fun i=>?_
 rw[Nat.testBit_and,gh,gh,gh];cases decide (i < N) <;> simp
theorem AQ(N:Nat)(f g:M):ik N f ||| ik N g=ik N fun i=>f i || g i:=by
 refine Nat.eq_of_testBit_eq fun i=>?_
 rw[Nat.testBit_or,gh,gh,gh];cases decide (i < N) <;> simp
theorem xO:∀(N:Nat) (f g:M),((ik N fun i=>f i || g i:Nat):Int) - (ik N fun i=>f i && g i:Nat)=(ik N fun i=>f i !=g i:Nat)
 | 0,f,g=>rfl
 | N+1,f,g=>by
   have ih:=xO N (fun i=>f (i+1)) (fun i=>g (i+1))
   have e:∀h:M,ik (N+1) h=(if h 0 then 1 else 0)+2*ik N (fun i=>h (i+1)):=fun _=>rfl
   rw[e,e,e];generalize ik N (fun i=>f (i+1) || g (i+1))=a at ih ⊢
   generalize ik N (fun i=>f (i+1) && g (i+1))=b at ih ⊢
   generalize ik N (fun i=>f (i+1) !=g (i+1))=c at ih ⊢
   show(((if(f 0 || g 0) then 1 else 0)+2*a:Nat):Int) - ((if(f 0 && g 0) then 1 else 0)+2*b:Nat)=((if(f 0 !=g 0) then 1 else 0)+2*c:Nat)
   cases f 0 <;> cases g 0 <;> simp <;> omega
theorem mT(x y:Nat):Builtin.bitAnd (x:Int) (y:Int)=((x &&& y:Nat):Int):=by
 unfold Builtin.bitAnd;rw[decide_eq_true (by omega:(0:Int)<=x),decide_eq_true (by omega:(0:Int)<=y)]
 simp
theorem x6(x y:Nat):Builtin.bitOr (x:Int) (y:Int)=((x ||| y:Nat):Int):=by
 unfold Builtin.bitOr Builtin.bitAnd Builtin.bitNot;rw[decide_eq_false (by omega:¬(0:Int)<= -(x:Int) - 1),decide_eq_false (by omega:¬(0:Int)<= -(y:Int) - 1)]
 show -(-(((-(-(x:Int) - 1) - 1).toNat ||| (-(-(y:Int) - 1) - 1).toNat:Nat):Int) - 1) - 1=_
 rw[show(-(-(x:Int) - 1) - 1).toNat=x by omega,show(-(-(y:Int) - 1) - 1).toNat=y by omega]
 omega
def mI(N:Nat)(f:M):D:= .int (ik N f:Nat)
theorem m5{N:Nat}{f g:M}(h:∀i,i < N->f i=g i):mI N f=mI N g:=by unfold mI;rw [lI h]
theorem qF(N:Nat)(f g:M):A5 (mI N f) (mI N g)= .ok (mI N fun i=>f i && g i):=by
 show R.ok (D.int (Builtin.bitAnd (ik N f:Int) (ik N g:Int)))=_;rw[mT,xI];rfl
theorem uJ(N:Nat)(f g:M):E9 (mI N f) (mI N g)= .ok (mI N fun i=>f i || g i):=by
 show R.ok (D.int (Builtin.bitOr (ik N f:Int) (ik N g:Int)))=_;rw[x6,AQ];rfl
theorem p7(N:Nat)(f g:M):yP (mI N f) (mI N g)= .ok (mI N fun i=>f i !=g i):=by
 show R.ok (D.int (Builtin.bitOr (ik N f:Int) (ik N g:Int) - Builtin.bitAnd (ik N f:Int) (ik N g:Int)))=_;rw[x6,mT,AQ,xI,xO];rfl
def one:M:=fun _=>true
theorem EW(N:Nat)(f:M):yP (mI N one) (mI N f)= .ok (mI N fun i=>!f i):=by
 rw[p7];have:(fun i=>one i !=f i)=fun i=>!f i:=by funext i;unfold one;simp
 rw[this]
theorem Ar(N:Nat)(f:M)(c:Bool):(if c then yP (mI N one) (mI N f) else .ok (mI N f))= .ok (mI N fun i=>f i !=c):=by
 cases c with
 | true=>
   rw[if_pos rfl,EW];have:(fun i=>!f i)=fun i=>f i !=true:=by funext i;cases f i <;> rfl
   rw[this]
 | false=>
   rw[if_neg (by decide)]
   have:f=fun i=>f i !=false:=by funext i;cases f i <;> rfl
   rw[<-this]
theorem vw{N:Nat}{f:M}:ik N f=0↔∀i,i < N->f i=false:=by
 constructor
 .intro h i hi;have:=gh N f i;rw[h,Nat.zero_testBit,decide_eq_true hi,Bool.true_and] at this;exact this.symm
 .intro h;refine Nat.eq_of_testBit_eq fun i=>?_
  rw[gh,Nat.zero_testBit];by_cases q:i < N
  .rw [h i q];simp
  .rw [decide_eq_false q];rfl
theorem Ik(N:Nat)(f:M)(n:Nat):(ug (mI N f) (.int n)).bind (fun d=>A5 d (.int 1))= .ok (.int (if decide (n < N) && f n then 1 else 0)):=by
 have h1:ug (mI N f) (.int n)= .ok (.int ((ik N f / 2 ^ n:Nat):Int)):=by
  show R.aU (decide ((0:Int)<=n)) (.ok (D.int ((ik N f:Int) / 2 ^ ((n:Int)).toNat)))=_;rw[bG _ (by omega),Int.toNat_natCast]
  congr 2
 rw[h1,R.aJ];show R.ok (D.int (Builtin.bitAnd ((ik N f / 2 ^ n:Nat):Int) ((1:Nat):Int)))=_;rw[mT,Nat.and_one_is_mod,<-gh];congr 2;unfold Nat.testBit;rw[Nat.shiftRight_eq_div_pow,Nat.one_and_eq_mod_two];have:ik N f / 2 ^ n % 2=0\/ik N f / 2 ^ n % 2=1:=by omega
 rcases this with q | q <;> rw[q] <;> rfl
def bI(b:Bool):D:= .int (if b then 1 else 0)
def CA:List Bool->Nat
 | []=>0
 | b ::bs=>(if b then 1 else 0)+2*CA bs
theorem Bv:∀bs:List Bool,CA bs=ik bs.length fun i=>bs.getD i false
 | []=>rfl
 | b ::bs=>by
   unfold CA;rw[Bv bs];rfl
def nI(n:Nat):D:= .int (n:Int)
def kS:Nat->Str | 0=>"not" | 1=>"and" | 2=>"or" | 3=>"xor" | _=>"vote"
def ar:Nat->Nat | 0=>1 | 4=>3 | _=>2
theorem zV(k:Nat):ar k<=3:=by unfold ar;split <;> omega
def gv:Nat->List Bool->Bool
 | 0,[a]=>!a
 | 1,[a,b]=>a && b
 | 2,[a,b]=>a || b
 | 3,[a,b]=>a !=b
 | 4,[a,b,c]=>(a && b) || (a && c) || (b && c)
 | _,_=>false
def g_(ws:List M)(n:Nat):M:=ws.getD n fun _=>false
abbrev Gt:=Nat × List Nat × Bool
def iX(g:Gt):D:= .tup [.str (kS g.1), .tup (g.2.1.map nI), .bl g.2.2]
def yA(n:Nat)(g:Gt):Prop:=g.1<=4/\g.2.1.length=ar g.1/\∀w∈g.2.1,w < n
def inD(x:Str × Nat):D:= .tup [.str x.1,nI x.2]
def AS(x:Str × List Nat):D:= .tup [.str x.1, .tup (x.2.map nI)]
def bV(ins:Rp)(gs:List Gt)(os:Rq):D:= .tup [.lst (ins.map inD), .lst (gs.map iX), .lst (os.map AS)]
def vf(ins:Rp):Nat:=(ins.map (·.2)).sum
def gF(g:Gt)(ws:List M):M:=fun p=>gv g.1 (g.2.1.map fun n=>g_ ws n p)
def jD(bad:List Int)(b:M):Nat->List M->List M
 | 0,ws=>ws
 | n+1,ws=>jD bad b n ws++[fun p=>b p !=bad.contains ((jD bad b n ws).length:Int)]
theorem jK(bad:List Int)(b:M):∀n ws,(jD bad b n ws).length=ws.length+n
 | 0,ws=>rfl
 | n+1,ws=>by unfold jD;rw [List.length_append,jK bad b n ws];rfl
def gQ(ins:Rp)(bits:List M)(bad:List Int):Nat->List M
 | 0=>[]
 | i+1=>match ins[i]?,bits[i]? with | some x,some b=>jD bad b x.2 (gQ ins bits bad i) | _,_=>gQ ins bits bad i
theorem mX{ins:Rp}{bits:List M}{bad:List Int}(hb:bits.length=ins.length):∀i,i<=ins.length->(gQ ins bits bad i).length=vf (ins.take i)
 | 0,_=>rfl
 | i+1,hi=>by
   have h1:ins[i]? =some ins[i]:=List.getElem?_eq_getElem (by omega)
   have h2:bits[i]? =some bits[i]:=List.getElem?_eq_getElem (by omega)
   unfold gQ;rw[h1,h2];show(jD bad bits[i] ins[i].2 (gQ ins bits bad i)).length=_;rw[jK,mX hb i (by omega),List.take_add_one,h1]
   unfold vf;simp only[Option.toList_some,List.map_append,List.sum_append,List.map_cons,List.map_nil,List.sum_cons,List.sum_nil];omega
def uG(gs:List Gt)(turned:List Int)(w0:List M):Nat->List M
 | 0=>w0
 | i+1=>match gs[i]? with | some g=>uG gs turned w0 i++[fun p=>gF g (uG gs turned w0 i) p !=turned.contains (i:Int)] | none=>uG gs turned w0 i
theorem sH{gs:List Gt}{turned:List Int}{w0:List M}:∀i,i<=gs.length->(uG gs turned w0 i).length=w0.length+i
 | 0,_=>rfl
 | i+1,hi=>by
   have h1:gs[i]? =some gs[i]:=List.getElem?_eq_getElem (by omega)
   unfold uG;rw[h1];show(uG gs turned w0 i++[_]).length=_;rw[List.length_append,sH i (by omega)]
   rfl
structure lU (ins:Rp) (gs:List Gt) (os:Rq):Prop where
 hi:ins.length < 100
 hw:∀x∈ins,x.2 < 100
 hg:gs.length < 1000
 g:∀(i:Nat) (x:Gt),gs[i]? =some x->yA (vf ins+i) x
 ho:os.length < 1000
 o:∀x∈os,x.2.length < 1000/\∀w∈x.2,w < vf ins+gs.length
def yJ(ins:Rp)(gs:List Gt)(bits:List M)(turned bad:List Int):List M:=uG gs turned (gQ ins bits bad ins.length) gs.length
theorem tR:∀{l:Rp},(∀x∈l,x.2 < 100)->vf l<=100*l.length
 | [],_=>by simp [vf]
 | x ::l,h=>by
   have ih:=tR (l:=l) fun y hy=>h y (List.mem_cons_of_mem _ hy)
   have:=h x List.mem_cons_self;unfold vf at ih ⊢;rw[List.map_cons,List.sum_cons,List.length_cons];omega
theorem BC{ins:Rp}{gs:List Gt}{bits:List M}{turned bad:List Int}(hb:bits.length=ins.length):(yJ ins gs bits turned bad).length=vf ins+gs.length:=by unfold yJ;rw [sH _ (Nat.le_refl _),mX hb _ (Nat.le_refl _),List.take_length]
def tell(ws:List M)(x:Str × List Nat):List M:=x.2.map (g_ ws)
def QM:List Bool->Bool × Bool
 | [a]=>(!a,a)
 | [a,b]=>(!(a || b),a && b)
 | [a,b,c]=>let v:=(a && b) || (a && c) || (b && c);(!v,v)
 | _=>(false,false)
def brk(safe:Bool)(x y:Bool × Bool):Bool:=if safe then(x.1 && y.2) || (x.2 && y.1) else(x.1 !=y.1) || (x.2 !=y.2)
theorem sF(i:Int)(ps:List Int):EH (.int i) (.tup (ps.map .int))= .ok (.bl (ps.contains i)):=by
 show((match ints? (ps.map D.int) with | some ss=>R.ok (ss.contains i) | none=> .no)).bind (fun b=>R.ok (D.bl b))=_
 rw[L2.ints_map];rfl
theorem xV{ds:List D}{i:Nat}{v:V3}(h:((dy ds).map V3.d)[i]? =some v):∃d,ds[i]? =some d/\v= .d (.tup [.int i,d]):=by
 rw[List.getElem?_map,dy,List.getElem?_map,List.getElem?_zipIdx] at h;cases q:ds[i]? with
 | none=>rw [q] at h;cases h
 | some d=>
   rw[q] at h;simp at h;exact⟨d,rfl,h.symm⟩
theorem AO{c:ak->R Bool}{δ:ak}{b:Bool}{r:R D}(h:c δ= .ok b)(h2:(if b then f δ else g δ)=r):HI c f g δ=r:=by unfold HI;rw [h,R.aJ];exact h2
theorem cL(S:bc)(x y:SO):(S++[x]).set S.length y=S++[y]:=by
 rw[List.set_append_right _ _ (Nat.le_refl _),Nat.sub_self];rfl
theorem aR(S:bc)(x:SO):(S++[x])[S.length]? =some x:=by rw[List.getElem?_append_right (Nat.le_refl _),Nat.sub_self];rfl
theorem GD{N:Nat}{ws:List M}{n:Nat}(h:n < ws.length):cn (.lst (ws.map (mI N))) (nI n)= .ok (mI N (g_ ws n)):=by
 refine NT.jO ?_;rw[List.getElem?_map,List.getElem?_eq_getElem h];unfold g_;rw[List.getD_eq_getElem?_getD,List.getElem?_eq_getElem h];rfl
theorem hV{α:Type}{t:FG}{body:FZ}{S:bc}(g:α->V3)(f:α->Option V3)(E:DE->Prop):∀{xs:List α} {δ:DE},E δ->
 (∀x∈xs,∀δ,E δ->∃cY,t (g x) δ=some cY/\W3 (body cY S) fun o S1=>S1=S/\(match f x with | some v=>o= .rt v | none=>∃dj,o= .nx dj/\E dj))->
 W3 (kZ t body (xs.map g) δ S) fun o S1=>S1=S/\(match xs.findSome? f with | some v=>o= .rt v | none=>∃dj,o= .nx dj/\E dj)
 | [],δ,h0,_=>W3.ok ⟨rfl,δ,rfl,h0⟩
 | x ::xs,δ,h0,hs=>by
   obtain⟨cY,e1,o,S1,e2,rfl,h2⟩:=hs x List.mem_cons_self δ h0;rw[List.map_cons];unfold kZ;rw[e1];refine W3.bind ⟨_,_,e2,?_⟩;rw[List.findSome?_cons];cases hf:f x with
   | some v=>rw [hf] at h2;subst h2;exact W3.ok ⟨rfl,rfl⟩
   | none=>
     rw[hf] at h2;obtain⟨dj,rfl,h2⟩:=h2;exact hV g f E h2 fun y hy=>hs y (List.mem_cons_of_mem _ hy)
theorem pE{α:Type}{t:FT}{body:FS}(g:α->D)(f:α->Option D)(E:ak->Prop):∀{xs:List α} {δ:ak},E δ->
 (∀x∈xs,∀δ,E δ->∃o,((t (g x) δ).bind body)= .ok o/\(match f x with | some v=>o= .rt v | none=>∃dj,o= .nx dj/\E dj))->
 ∃o,lP t body (xs.map g) δ= .ok o/\(match xs.findSome? f with | some v=>o= .rt v | none=>∃dj,o= .nx dj/\E dj)
 | [],δ,h0,_=>⟨_,rfl,δ,rfl,h0⟩
 | x ::xs,δ,h0,hs=>by
   obtain⟨o,e2,h2⟩:=hs x List.mem_cons_self δ h0;rw[List.map_cons];unfold lP;cases e3:t (g x) δ with
   | no=>rw [e3] at e2;cases e2
   | ex _=>rw [e3] at e2;cases e2
   | ok cY=>
     rw[e3,R.aJ] at e2;rw[R.aJ,e2,R.aJ,List.findSome?_cons];cases hf:f x with
     | some v=>rw [hf] at h2;subst h2;exact⟨_,rfl,rfl⟩
     | none=>
       rw[hf] at h2;obtain⟨dj,rfl,h2⟩:=h2;exact pE g f E h2 fun y hy=>hs y (List.mem_cons_of_mem _ hy)
def Og:List Nat->Nat->Rr
 | _,0=>[[]]
 | ps,s+1=>(List.range ps.length).flatMap fun a=>(Og (ps.drop (a+1)) s).map (ps.getD a 0 ::·)
theorem ql:∀{l:List Nat} {m:Nat},(∀x∈l,x<=m)->l.sum<=l.length*m
 | [],_,_=>by simp
 | x ::l,m,h=>by
   have:=ql (l:=l) (m:=m) fun y hy=>h y (List.mem_cons_of_mem _ hy)
   have h0:=h x List.mem_cons_self;rw[List.sum_cons,List.length_cons,Nat.add_mul];omega
theorem wj{F G:FZ}{δ:DE}{S:bc}{QO:Ou->bc->Prop}(h:W3 (F δ S) fun o S1=>match o with | .nx cY=>W3 (G cY S1) QO | .rt v=>QO (.rt v) S1):W3 (cm F G δ S) QO:=
 W3.bind (h.mono fun o S1 q=>by cases o with | nx cY=>exact q | rt v=>exact W3.ok q)
end MT
end
section
set_option maxHeartbeats 1000000
namespace JT
open PySem PySem.Spec PyProof.Rows L2 L3 MT
def gB(g:Gt)(ws:List Bool):Bool:=gv g.1 (g.2.1.map fun n=>ws.getD n false)
def gI:List Gt->(Nat->Bool)->List Bool->List Bool
 | [],_,ws=>ws
 | g ::gs,T,ws=>gI gs (fun i=>T (i+1)) (ws++[gB g ws !=T 0])
theorem sg(g:Gt)(gs:List Gt)(T:Nat->Bool)(ws:List Bool):gI (g ::gs) T ws=gI gs (fun i=>T (i+1)) (ws++[gB g ws !=T 0]):=rfl
theorem p8:∀(gs:List Gt) (T:Nat->Bool) (ws:List Bool),(gI gs T ws).length=ws.length+gs.length
 | [],_,_=>rfl
 | g ::gs,T,ws=>by
   unfold gI;rw[p8 gs,List.length_append];simp only[List.length_cons,List.length_nil];omega
theorem qE:∀(a b:List Gt) (T:Nat->Bool) (ws:List Bool),gI (a++b) T ws=gI b (fun i=>T (a.length+i)) (gI a T ws)
 | [],b,T,ws=>by simp [gI]
 | g ::a,b,T,ws=>by
   rw[List.cons_append,sg,sg,qE a b];have:(fun i=>T (a.length+i+1))=fun i=>T ((g ::a).length+i):=by
    funext i;rw[List.length_cons];congr 1;omega
   rw[this]
def Ji(f:Nat->Nat)(g:Gt):Gt:=(g.1,g.2.1.map f,g.2.2)
def NZ(f:Nat->Nat)(x:Str × List Nat):Str × List Nat:=(x.1,x.2.map f)
def Sh(f:Nat->Nat)(v ws:List Bool):Prop:=∀w,w < v.length->f w < ws.length/\ws.getD (f w) false=v.getD w false
def gW(p:Nat)(ws:List M):List Bool:=ws.map (· p)
theorem pd{p:Nat}{ws:List M}{n:Nat}:(gW p ws).getD n false=g_ ws n p:=by
 unfold gW g_;rw[List.getD_eq_getElem?_getD,List.getElem?_map,List.getD_eq_getElem?_getD];cases ws[n]? <;> rfl
theorem Jj{p:Nat}{g:Gt}{ws:List M}:gF g ws p=gB g (gW p ws):=by
 unfold gF gB;congr 1;exact List.map_congr_left fun n _=>pd.symm
theorem Bs{p:Nat}{gs:List Gt}{turned:List Int}{w0:List M}:∀i,i<=gs.length->gW p (uG gs turned w0 i)=gI (gs.take i) (fun j=>turned.contains (j:Int)) (gW p w0)
 | 0,_=>by simp [uG,gI]
 | i+1,h=>by
   have h1:gs[i]? =some gs[i]:=List.getElem?_eq_getElem (by omega)
   unfold uG;rw[h1];show gW p (uG gs turned w0 i++[_])=_;rw[List.take_add_one,h1,qE,<-Bs i (by omega),List.length_take,Nat.min_eq_left (by omega)]
   unfold gW;rw[List.map_append];show _++[gF gs[i] (uG gs turned w0 i) p !=turned.contains (i:Int)]=_;rw[Jj];rfl
def qM:List (Str × Nat)->List Bool->List Bool
 | x ::ins,b ::bits=>List.replicate x.2 b++qM ins bits
 | _,_=>[]
theorem pA(i:Str × Nat)(b:Bool)(a:Rp)(x:List Bool):qM (i ::a) (b ::x)=List.replicate i.2 b++qM a x:=rfl
def cC(k:Nat)(bad:Nat->Bool):List Bool->List Bool
 | []=>[]
 | b ::bs=>(b !=bad k) ::cC (k+1) bad bs
theorem p9(bad:Nat->Bool)(k:Nat)(b:Bool)(bs:List Bool):cC k bad (b ::bs)=(b !=bad k) ::cC (k+1) bad bs:=rfl
theorem n3(bad:Nat->Bool):∀(k:Nat) (bs:List Bool),(cC k bad bs).length=bs.length
 | _,[]=>rfl
 | k,b ::bs=>by unfold cC;rw [List.length_cons,n3 bad (k+1) bs,List.length_cons]
theorem jG(bad:Nat->Bool):∀(k:Nat) (a b:List Bool),cC k bad (a++b)=cC k bad a++cC (k+a.length) bad b
 | k,[],b=>by simp [cC]
 | k,x ::a,b=>by
   rw[List.cons_append,p9,p9,jG bad (k+1) a b,List.length_cons,List.cons_append,show k+1+a.length=k+(a.length+1) by omega]
theorem uK{bad:Nat->Bool}:∀(k:Nat) (bs:List Bool),(∀n,n < bs.length->bad (k+n)=false)->cC k bad bs=bs
 | _,[],_=>rfl
 | k,b ::bs,h=>by
   unfold cC;rw[uK (k+1) bs fun n hn=>by have:=h (n+1) (by simpa using hn);rw [show k+1+n=k+(n+1) by omega];exact this]
   have:=h 0 (by simp)
   rw[Nat.add_zero] at this;rw[this];cases b <;> rfl
theorem sZ:∀{a:Rp} {x:List Bool} (b:Rp) (y:List Bool),a.length=x.length->qM (a++b) (x++y)=qM a x++qM b y
 | [],[],b,y,_=>rfl
 | [],_ ::_,_,_,h=>by simp at h
 | _ ::_,[],_,_,h=>by simp at h
 | i ::a,b0 ::x,b,y,h=>by
   rw[List.cons_append,List.cons_append,pA,pA,sZ b y (by simpa using h),List.append_assoc]
theorem pf:∀{a:Rp} {x:List Bool},a.length=x.length->(qM a x).length=vf a
 | [],[],_=>rfl
 | [],_ ::_,h=>by simp at h
 | _ ::_,[],h=>by simp at h
 | i ::a,b ::x,h=>by
   unfold qM;rw[List.length_append,List.length_replicate,pf (by simpa using h)]
   unfold vf;rw[List.map_cons,List.sum_cons]
theorem ve{p:Nat}{bad:List Int}{b:M}:∀(n:Nat) (ws:List M),gW p (jD bad b n ws)=gW p ws++cC ws.length (fun k=>bad.contains (k:Int)) (List.replicate n (b p))
 | 0,ws=>by simp [jD,cC]
 | n+1,ws=>by
   unfold jD gW;rw[List.map_append];have ih:=ve (p:=p) (bad:=bad) (b:=b) n ws;unfold gW at ih;rw[ih,List.append_assoc,List.replicate_succ',jG,List.length_replicate,jK];rfl
theorem x4{p:Nat}{ins:Rp}{bits:List M}{bad:List Int}(hb:bits.length=ins.length):∀i,i<=ins.length->gW p (gQ ins bits bad i)=cC 0 (fun k=>bad.contains (k:Int)) (qM (ins.take i) ((gW p bits).take i))
 | 0,_=>by simp [gQ,qM,cC,gW]
 | i+1,h=>by
   have h1:ins[i]? =some ins[i]:=List.getElem?_eq_getElem (by omega)
   have h2:bits[i]? =some bits[i]:=List.getElem?_eq_getElem (by omega)
   unfold gQ;rw[h1,h2];show gW p (jD bad bits[i] ins[i].2 (gQ ins bits bad i))=_;have h3:(gW p bits)[i]? =some (bits[i] p):=by unfold gW;rw [List.getElem?_map,h2];rfl
   have hl:(ins.take i).length=((gW p bits).take i).length:=by unfold gW;rw [List.length_take,List.length_take,List.length_map,hb]
   rw[ve,x4 hb i (by omega),List.take_add_one,List.take_add_one,h1,h3,mX hb i (by omega)]
   show _=cC 0 _ (qM (ins.take i++[ins[i]]) ((gW p bits).take i++[bits[i] p]));rw[sZ _ _ hl,jG,pf hl,Nat.zero_add];congr 2;show _=qM [ins[i]] [bits[i] p];unfold qM;simp [qM]
def kR(ins:Rp)(gs:List Gt)(bits:List Bool)(T bad:Nat->Bool):List Bool:=gI gs T (cC 0 bad (qM ins bits))
theorem D1{p:Nat}{ins:Rp}{gs:List Gt}{bits:List M}{turned bad:List Int}(hb:bits.length=ins.length):gW p (yJ ins gs bits turned bad)=kR ins gs (gW p bits) (fun i=>turned.contains (i:Int)) (fun i=>bad.contains (i:Int)):=by
 unfold yJ kR;rw[Bs _ (Nat.le_refl _),List.take_length,x4 hb _ (Nat.le_refl _),List.take_length];congr 3;unfold gW;rw[List.take_of_length_le (by rw[List.length_map];omega)]
end JT
end
section
namespace JT
open PySem PySem.Spec PyProof.Rows L2 L3 MT
def bH(ws:List Bool)(ns:List Nat):List Bool:=ns.map fun n=>ws.getD n false
def Bt(f:Nat->List Bool):List (Option Nat × Nat)->List Bool->List Bool
 | [],_=>[]
 | (some o,_) ::r,l=>f o++Bt f r l
 | (none,w) ::r,l=>l.take w++Bt f r (l.drop w)
def Ep(f1:Nat->Nat)(os:Nat->List Nat):List (Option Nat × Nat)->Nat->List Nat
 | [],_=>[]
 | (some o,_) ::r,free=>(os o).map f1++Ep f1 os r free
 | (none,w) ::r,free=>List.range' free w++Ep f1 os r (free+w)
def qA:List (Option Nat × Nat)->Nat
 | []=>0
 | (some _,_) ::r=>qA r
 | (none,w) ::r=>w+qA r
def Lv(n1 l w:Nat):Nat:=if w < n1 then w else w+l
def Na(L:List Nat)(top w:Nat):Nat:=if w < L.length then L.getD w 0 else top+(w - L.length)
section
variable {gs1 HX:List Gt} {φ:List (Option Nat × Nat)} {os:Nat->List Nat} {n1:Nat} {r1 rl:List Bool} {T:Nat->Bool}
def gJ(gs1 HX:List Gt)(φ:List (Option Nat × Nat))(os:Nat->List Nat)(n1:Nat):List Gt:=
 gs1.map (Ji (Lv n1 (qA φ)))++HX.map (Ji (Na (Ep (Lv n1 (qA φ)) os φ n1) (n1+qA φ+gs1.length)))
end
def Gj(bits:List Bool):List Bool:=bits.flatMap (List.replicate 3)
def MQ:List Bool->Bool
 | [a,b,c]=>(a && b) || (a && c) || (b && c)
 | _=>false
def vA:List Bool->Bool
 | [a,b,c]=>(a !=b) || (a !=c)
 | _=>false
def Oj(xs ys:List Bool):List Bool:=List.zipWith (· !=·) xs ys
def lst(xs ys:List Bool):Bool:=MQ (Oj xs ys)
def IV:List Bool->List Bool->Prop
 | [],r=>r=[]
 | b ::bs,r=>∃x y z r',r=x ::y ::z ::r'/\MQ [b !=x,b !=y,b !=z]=false/\IV bs r'
def no:Nat->Bool:=fun _=>false
structure Pa (c:Nat) (gs:List Gt) (os:Rq):Prop where
 a:∀bits:List Bool,bits.length=c->∀x∈os,vA (bH (gI gs no (Gj bits)) x.2)=false
 b:∀bits:List Bool,bits.length=c->∀i g,gs[i]? =some g->g.2.2=false->∀x∈os,lst (bH (gI gs no (Gj bits)) x.2) (bH (gI gs (fun j=>j==i) (Gj bits)) x.2)=false
 c:∀bits row:List Bool,bits.length=c->IV bits row->∀x∈os,lst (bH (gI gs no (Gj bits)) x.2) (bH (gI gs no row) x.2)=false
theorem BN{xs:List Bool}(hl:xs.length=3):lst xs xs=false:=by
 match xs,hl with
 | [a,b,c],_=>cases a <;> cases b <;> cases c <;> rfl
def yf(v:Nat->Bool):List (Option Nat × Nat)->List Bool->List Bool
 | [],_=>[]
 | (some o,_) ::r,l=>v o ::yf v r l
 | (none,_) ::r,l=>l.headD false ::yf v r l.tail
def many:List (Option Nat × Nat)->Nat
 | []=>0
 | (some _,_) ::r=>many r
 | (none,_) ::r=>many r+1
end JT
end
section
namespace JT
open PySem PySem.Spec PyProof.Rows L2 L3 MT
structure QG (c1:Nat) (gs1 HX:List Gt) (J7 Kp:Rq) (φ:List (Option Nat × Nat)) (os:Nat->List Nat):Prop where
 h3:∀x∈φ,x.2=3
 g1:∀i g,gs1[i]? =some g->∀w∈g.2.1,w < 3*c1+i
 g2:∀i g,HX[i]? =some g->∀w∈g.2.1,w < 3*φ.length+i
 o1:∀x∈J7,x.2.length=3/\∀n∈x.2,n < 3*c1+gs1.length
 o2:∀x∈Kp,x.2.length=3/\∀n∈x.2,n < 3*φ.length+HX.length
 ho:∀o w,(some o,w)∈φ->∃x∈J7,x.2=os o
section
variable {c1:Nat} {gs1 HX:List Gt} {J7 Kp Nw:Rq} {φ:List (Option Nat × Nat)} {os:Nat->List Nat}
abbrev M5(c1:Nat)(φ:List (Option Nat × Nat)):Nat->Nat:=Lv (3*c1) (qA φ)
abbrev OF(c1:Nat)(gs1:List Gt)(φ:List (Option Nat × Nat))(os:Nat->List Nat):Nat->Nat:=Na (Ep (M5 c1 φ) os φ (3*c1)) (3*c1+qA φ+gs1.length)
def MP(c1:Nat)(gs1:List Gt)(J7 Kp Nw:Rq)(φ:List (Option Nat × Nat))(os:Nat->List Nat):Prop:=
 ∀x∈Nw,(∃y∈J7,x.2=y.2.map (M5 c1 φ))\/∃y∈Kp,x.2=y.2.map (OF c1 gs1 φ os)
theorem BO(ws:List Bool)(ns:List Nat):(bH ws ns).length=ns.length:=by unfold bH;rw [List.length_map]
end
end JT
end
section
namespace JT
open PySem PySem.Spec PyProof.Rows L2 L3 MT
def cu:Nat->List (List Bool)
 | 0=>[[]]
 | c+1=>(cu c).flatMap fun b=>[b++[false],b++[true]]
theorem cc:∀c,(cu c).length=2 ^ c
 | 0=>rfl
 | c+1=>by
   unfold cu;rw[List.length_flatMap];have:(cu c).map (fun b=>[b++[false],b++[true]].length)=(cu c).map fun _=>2:=rfl
   rw[this,List.map_const',List.sum_replicate_nat,cc c];omega
theorem fV:∀c,∀b∈cu c,b.length=c
 | 0,b,h=>by unfold cu at h;rw [List.mem_singleton.mp h];rfl
 | c+1,b,h=>by
   unfold cu at h;obtain⟨a,ha,hb⟩:=List.mem_flatMap.mp h;have:=fV c a ha;simp only[List.mem_cons,List.not_mem_nil,or_false] at hb;rcases hb with rfl | rfl <;> simp [this]
def HL(c j:Nat):M:=fun p=>((cu c).getD p []).getD j false
def n4(c:Nat):List M:=(List.range c).map (HL c)
theorem k3{c:Nat}:(n4 c).length=c:=by unfold n4;simp
def fM(c p:Nat):List Bool:=(cu c).getD p []
theorem fP{c p:Nat}(h:p < 2 ^ c):(fM c p).length=c:=by
 unfold fM;rw[List.getD_eq_getElem?_getD,List.getElem?_eq_getElem (by rw[cc];exact h)]
 exact fV c _ (List.getElem_mem _)
theorem zW{c p:Nat}(h:p < 2 ^ c):gW p (n4 c)=fM c p:=by
 unfold gW n4;rw[List.map_map];refine List.ext_getElem (by rw[List.length_map,List.length_range,fP h]) fun j h1 h2=>?_
 rw[List.getElem_map,List.getElem_range];show(fM c p).getD j false=_;rw[List.getD_eq_getElem?_getD,List.getElem?_eq_getElem h2];rfl
def mh(f e:Nat):Nat->Rr
 | 0=>[[]]
 | m+1=>(List.range' f (e - f)).flatMap fun w=>(mh ((w / 3+1)*3) e m).map (w ::·)
def Nl(f e:Nat):List Nat->Prop
 | []=>True
 | w ::B=>f<=w/\w < e/\Nl ((w / 3+1)*3) e B
theorem sO{e:Nat}:∀{m f:Nat} {B:List Nat},B∈mh f e m↔B.length=m/\Nl f e B
 | 0,f,B=>by
   unfold mh;rw[List.mem_singleton];constructor
   .rintro rfl;exact⟨rfl,trivial⟩
   .rintro⟨h,_⟩;exact List.length_eq_zero_iff.mp h
 | m+1,f,B=>by
   unfold mh;rw[List.mem_flatMap];constructor
   .rintro⟨w,hw,h⟩;obtain⟨B',hB,rfl⟩:=List.mem_map.mp h;obtain⟨h1,h2⟩:=sO.mp hB;obtain⟨i,hi,rfl⟩:=List.mem_range'.mp hw;exact⟨by rw[List.length_cons,h1],by omega,by omega,h2⟩
   .rintro⟨h,hk⟩;cases B with
    | nil=>simp at h
    | cons w B=>
      obtain⟨h1,h2,h3⟩:=hk;exact⟨w,List.mem_range'.mpr ⟨w - f,by omega,by omega⟩,List.mem_map.mpr ⟨B,sO.mpr ⟨by simpa using h,h3⟩,rfl⟩⟩
def uk(c:Nat)(gs:List Gt):List (List Nat × List Nat):=
 (gs.zipIdx.filter (fun x=>!x.1.2.2)).map (fun x=>(([]:List Nat),[x.2]))++(List.range' 1 c).flatMap fun m=>(mh 0 (3*c) m).map fun B=>(B,([]:List Nat))
def nR(c:Nat)(gs:List Gt)(p:Nat):List Bool:=gI gs no (Gj (fM c p))
def kI(c:Nat)(gs:List Gt)(f:List Nat × List Nat)(p:Nat):List Bool:=gI gs (fun i=>f.2.contains i) (cC 0 (fun n=>f.1.contains n) (Gj (fM c p)))
def nD(c:Nat)(gs:List Gt)(os:Rq)(p:Nat):Bool:=os.any fun x=>vA (bH (nR c gs p) x.2)
def iS(c:Nat)(gs:List Gt)(os:Rq)(f:List Nat × List Nat)(p:Nat):Bool:=os.any fun x=>lst (bH (nR c gs p) x.2) (bH (kI c gs f p) x.2)
def i9(c:Nat)(gs:List Gt)(os:Rq):Option (List Nat × List Nat × Nat):=
 match (List.range (2 ^ c)).find? (nD c gs os) with
 | some p=>some ([],[],p)
 | none=>(uk c gs).findSome? fun f=>((List.range (2 ^ c)).find? (iS c gs os f)).map fun p=>(f.1,f.2,p)
theorem find_none{c:Nat}{f:Nat->Bool}:(List.range (2 ^ c)).find? f=none↔∀p,p < 2 ^ c->f p=false:=by
 rw[List.find?_eq_none];constructor
 .intro h p hp;exact Bool.eq_false_iff.mpr (h p (List.mem_range.mpr hp))
 .intro h p hp;rw[h p (List.mem_range.mp hp)];exact Bool.false_ne_true
theorem F0{α:Type}{l:List α}{f:α->Bool}:l.any f=false↔∀x∈l,f x=false:=by
 rw[List.any_eq_false];exact⟨fun h x hx=>Bool.eq_false_iff.mpr (h x hx),fun h x hx=>by rw[h x hx];exact Bool.false_ne_true⟩
end JT
end
section
namespace JT
open PySem PySem.Spec PyProof.Rows L2 L3 MT
theorem nu{a b:Nat}(h:0 < b):jA (nI a) (nI b)= .ok (nI (a % b)):=by
 show jA (.int a) (.int b)=_;rw[qi (by omega)];rfl
theorem EL{a b:Nat}(h:0 < b)(h2:b < 1073741824):ni (nI a) (nI b)= .ok (nI (a / b)):=by
 show ni (.int a) (.int b)=_;rw[sL (by omega) (by omega)];rfl
theorem mL(a b:Nat):iY (nI a) (nI b)= .ok (nI (a+b)):=rfl
theorem yb{a b:Nat}(h:b<=a):ny (nI a) (nI b)= .ok (nI (a - b)):=by
 show R.ok (D.int ((a:Int) - b))=R.ok (D.int ((a - b:Nat):Int));rw[Int.ofNat_sub h]
theorem BK{a b:Nat}(h:b < 1000000\/a < 1000000):km (nI a) (nI b)= .ok (nI (a*b)):=by
 show R.aU (decide _) (R.ok (D.int ((a:Int)*b)))=_;have hc:(-(2 ^ 64) < (a:Int)/\(a:Int) < 2 ^ 64)\/(-(2 ^ 64) < (b:Int)/\(b:Int) < 2 ^ 64):=by
  rcases h with h | h
  .exact .inr ⟨by omega,by omega⟩
  .exact .inl ⟨by omega,by omega⟩
 rw[bG _ hc];rfl
theorem Kx(a b:Nat):rm (nI a) (nI b)= .ok (.bl (decide (a=b))):=by
 show R.ok (D.bl ((a:Int)==(b:Int)))=_;congr 2;by_cases h:a=b
 .rw [decide_eq_true h];exact beq_iff_eq.mpr (by omega)
 .rw [decide_eq_false h];exact beq_eq_false_iff_ne.mpr (by omega)
theorem KA(a b:Nat):Jk (nI a) (nI b)= .ok (.bl (decide (b < a))):=by
 show R.ok (D.bl (decide ((a:Int) > (b:Int))))=_;congr 2;by_cases h:b < a
 .rw [decide_eq_true h,decide_eq_true (by omega)]
 .rw [decide_eq_false h,decide_eq_false (by omega)]
theorem Jf(a b:Nat):Lp (nI a) (nI b)= .ok (.bl (decide (a < b))):=by
 show R.ok (D.bl (decide ((a:Int) < (b:Int))))=_;congr 2;by_cases h:a < b
 .rw [decide_eq_true h,decide_eq_true (by omega)]
 .rw [decide_eq_false h,decide_eq_false (by omega)]
theorem IQ{a b:Nat}:uB [nI a,nI b]= .ok (nI (min a b)):=by
 show Bf [.int a, .int b]=_;unfold Bf;show R.ok (D.int (if(b:Int) < a then b else a))=_
 unfold nI;congr 2;split <;> omega
theorem kO{ds:List D}:jb [.lst ds]= .ok (nI ds.length):=rfl
theorem lR{f:FD}{δ:ak}{n:Nat}(h:f δ= .ok (nI n))(hn:n < 1000000):c9 f δ= .ok ((List.range n).map nI):=by
 rw[px h hn];unfold gH;congr 1;refine List.map_congr_left fun i _=>?_
 show D.int (0+(i:Int))=D.int (i:Int);rw[Int.zero_add]
def Lr(T:List Nat):D:= .tup (T.map nI)
def Gi(r:Nat):Nat:=[1,2,3,4,0].getD (r % 5) 0
theorem Hj(r:Nat):Gi r<=4:=by
 have:r % 5 < 5:=Nat.mod_lt _ (by omega)
 unfold Gi;generalize r % 5=m at this
 match m,this with
 | 0,_=>decide
 | 1,_=>decide
 | 2,_=>decide
 | 3,_=>decide
 | 4,_=>decide
theorem Jd{f:FD}{δ:ak}{r:Nat}(h:f δ= .ok (nI r)):e2 cn (eNew (fK (ah (eC (.str "and")) (ah (eC (.str "or")) (ah (eC (.str "xor")) (ah (eC (.str "vote")) (ah (eC (.str "not")) aD))))))) (e2 jA f (eC (.int 5))) δ= .ok (.str (kS (Gi r))):=by
 have hz:sizeLine=16777216:=sizeLine_eq;have h5:r % 5 < 5:=Nat.mod_lt _ (by omega)
 refine aj (a:= .lst [.str (kS 1), .str (kS 2), .str (kS 3), .str (kS 4), .str (kS 0)]) (b:=nI (r % 5)) rfl (aj (a:=nI r) (b:=nI 5) h rfl (nu (by omega))) (NT.jO ?_)
 unfold Gi;generalize r % 5=m at h5
 match m,h5 with
 | 0,_=>rfl
 | 1,_=>rfl
 | 2,_=>rfl
 | 3,_=>rfl
 | 4,_=>rfl
theorem Jp{f:FD}{δ:ak}{k:Nat}(hk:k<=4)(h:f δ= .ok (.str (kS k))):Aa [((Sum.inr "not":Key),V.int 1),((Sum.inr "vote":Key),V.int 3)] f (eC (.int 2)) δ= .ok (nI (ar k)):=by
 unfold Aa;rw[h,R.aJ]
 match k,hk with
 | 0,_=>rfl
 | 1,_=>rfl
 | 2,_=>rfl
 | 3,_=>rfl
 | 4,_=>rfl
end JT
end
section
namespace JT
open PySem PySem.Spec PyProof.Rows L2 L3 MT
theorem yy:∀c∈List.range 5,∀p∈List.range (2 ^ c),∀k∈List.range c,(fM c p).getD k false=decide (p / 2 ^ (c - 1 - k) % 2=1):=by decide+kernel
theorem Ab{c p k:Nat}(hc:c<=4)(hp:p < 2 ^ c)(hk:k < c):(fM c p).getD k false=decide (p / 2 ^ (c - 1 - k) % 2=1):=yy c (List.mem_range.mpr (by omega)) p (List.mem_range.mpr hp) k (List.mem_range.mpr hk)
theorem IE(p s:Nat):ug (nI p) (nI s)= .ok (nI (p / 2 ^ s)):=by
 show R.aU (decide ((0:Int)<=s)) (.ok (D.int ((p:Int) / 2 ^ ((s:Int)).toNat)))=_;rw[bG _ (by omega),Int.toNat_natCast]
 rfl
theorem GN(x:Nat):A5 (nI x) (nI 1)= .ok (bI (decide (x % 2=1))):=by
 show R.ok (D.int (Builtin.bitAnd (x:Int) ((1:Nat):Int)))=_;rw[mT,Nat.and_one_is_mod];unfold bI;have:x % 2=0\/x % 2=1:=by omega
 rcases this with q | q <;> rw[q] <;> rfl
theorem za{c p:Nat}(hc:c<=4)(hp:p < 2 ^ c):(fM c p).map bI=(List.range c).map fun k=>bI (decide (p / 2 ^ (c - 1 - k) % 2=1)):=by
 refine List.ext_getElem (by rw[List.length_map,List.length_map,List.length_range,fP hp]) fun k h1 h2=>?_
 rw[List.length_map,List.length_range] at h2;rw[List.getElem_map,List.getElem_map,List.getElem_range,<-Ab hc hp h2,List.getD_eq_getElem?_getD,List.getElem?_eq_getElem (by rw[fP hp];exact h2)]
 rfl
theorem IA{n:Nat}(h:n<=10):Eg (.int 1) (nI n)= .ok (nI (2 ^ n)):=by
 unfold Eg A8 nI;show R.aU (decide ((0:Int)<=n/\(n:Int) < 1000/\ -1000 < (1:Int)/\(1:Int) < 1000)) (.ok (D.int (1*2 ^ ((n:Int)).toNat)))=_;rw[bG _ ⟨by omega,by omega,by omega,by omega⟩,Int.toNat_natCast,Int.one_mul]
 congr 2
end JT
end
section
set_option maxHeartbeats 4000000
namespace K33
open PySem PySem.Spec PyProof.Rows L2 L3
variable {P:Program} {w:World} {K:W.Frag} {mg:Rt} {base:Heap} {cl:Ru}
def top(i:Nat):Stmt:=PySem.Challenge.pw_bearfaults_k33_any_nets_keep_or_lose.main.body.getD i (.Pass ⟨0,0,0,0⟩)
structure Tp (K:W.Frag) (mg:Rt) (cl:Ru):Prop where
 z_all:mg "all"=none
 z_len:mg "len"=none
 z_enumerate:mg "enumerate"=none
 z_range:mg "range"=none
 z_tuple:mg "tuple"=none
 z_reversed:mg "reversed"=none
 z_zip:mg "zip"=none
 z_min:mg "min"=none
 z_max:mg "max"=none
 z_sum:mg "sum"=none
 z_int:mg "int"=none
 z_sorted:mg "sorted"=none
 C_Bench:vE K (cl 0)
 N_Bench_net:dY K (cl 0) "net"
 N_Bench_many_inputs:dY K (cl 0) "many_inputs"
 N_Bench_full:dY K (cl 0) "full"
 N_Bench_in_masks:dY K (cl 0) "in_masks"
 M_Bench:mg "Bench"=some (.ref (cl 0))
abbrev eU:Stmt:=top 5
noncomputable abbrev eX:List Str:=["net","width","ins_fit"]
noncomputable def qU:{b:List Stmt // aM eU=b}:=⟨_,by conv=>lhs;whnf⟩
noncomputable def gb:{b:Scope // av eU=b}:=⟨_,by conv=>lhs;whnf⟩
theorem nq:aX eX ["net","width"] gb.1:=⟨rfl,rfl,rfl,by decide+kernel,rfl,by decide+kernel,by decide+kernel⟩
def mP:FS:=(dJ (jC 2 (aQ Az (ah (eNew (cx (cM (e2 cn (ag 0) (eC (.int 0)))) (aA 0) i7 (e2 rm (e2 cn (ag 0) (eC (.int 1))) (ag 1)) ["told"] [1])) aD))) (eu (Ek (ag 2) (aQ Az (ah (eNew (cx (cM (e2 cn (ag 0) (eC (.int 2)))) (hJ 2 (bR (aA 0) (bR (aA 1) ia))) i7 (e2 rm (aQ jb (ah (ag 1) aD)) (ag 2)) ["name","wires"] [1])) aD)))))
def d6:List D->R D:=pj eX mP
theorem sE(T:Tp K mg cl)(h:Def K mg "has_widths" eU):Callee P w K mg base 1 "has_widths" 2 d6:=by
 obtain⟨f,fd,F,hm⟩:=h;exact⟨f,fd,_,bO (k:=0) qU.2 gb.2 F nq (fun dC A outer s H E hr=>(aN (cK nq.nd rfl (Or.inl rfl) (bb (Fc rfl) rfl T.z_all PyProof.Rows.boot_all (ab (bz (bS rfl (bt.of (own:=["told"]) (kp:=[1]) (kn:=["width"]) (sc:=gb.1) (N:=eX) rfl rfl (by decide+kernel)) (bE (aI (aa 0) af (fun _ _=>rfl))) (fun _ _ _=>(aG (show List.Nodup [(Str.ofString "told"),"width"] from by decide+kernel) rfl (Or.inl rfl))) (fun _ _ _=>bN) (fun _ _ _=>(j3 (m7 hr.units) (aI (aa 0) af (fun _ _=>rfl)) (aa 1) (cN _))))) ae))) (aL (bf (Dk (aa 2) (Dq (bb (Fc rfl) rfl T.z_all PyProof.Rows.boot_all (ab (bz (bS rfl (bt.of (own:=["name","wires"]) (kp:=[1]) (kn:=["width"]) (sc:=gb.1) (N:=eX) rfl rfl (by decide+kernel)) (bE (aI (aa 0) af (fun _ _=>rfl))) (fun _ _ _=>(h_ rfl (bL (aG (show List.Nodup [(Str.ofString "name"),"wires","width"] from by decide+kernel) rfl (Or.inl rfl)) (bL (aG (show List.Nodup [(Str.ofString "name"),"wires","width"] from by decide+kernel) rfl (Or.inl rfl)) fU)))) (fun _ _ _=>bN) (fun _ _ _=>(j3 (m7 hr.units) (bb gO rfl T.z_len PySem.boot_len (ab (aa 1) ae)) (aa 2) (cN _))))) ae)))))))),hm,F.kp,F.binds fun _ _ _ _ _ _ us hl=>match us,hl with | [_,_],_=>rfl⟩
abbrev jz:Stmt:=top 7
noncomputable abbrev rM:List Str:=["masks"]
noncomputable def wR:{b:List Stmt // aM jz=b}:=⟨_,by conv=>lhs;whnf⟩
noncomputable def qw:{b:Scope // av jz=b}:=⟨_,by conv=>lhs;whnf⟩
theorem yT:aX rM ["masks"] qw.1:=⟨rfl,rfl,rfl,by decide+kernel,rfl,by decide+kernel,by decide+kernel⟩
def n5:FS:=(eu (e2 E9 (e2 E9 (e2 A5 (e2 cn (ag 0) (eC (.int 0))) (e2 cn (ag 0) (eC (.int 1)))) (e2 A5 (e2 cn (ag 0) (eC (.int 0))) (e2 cn (ag 0) (eC (.int 2))))) (e2 A5 (e2 cn (ag 0) (eC (.int 1))) (e2 cn (ag 0) (eC (.int 2))))))
def d8:List D->R D:=pj rM n5
theorem zh(T:Tp K mg cl)(h:Def K mg "vote_of" jz):Callee P w K mg base 1 "vote_of" 1 d8:=by
 obtain⟨f,fd,F,hm⟩:=h;exact⟨f,fd,_,bO (k:=0) wR.2 qw.2 F yT (fun dC A outer s H E hr=>(aL (bf (au yx (au yx (au yN (aI (aa 0) af (fun _ _=>rfl)) (aI (aa 0) af (fun _ _=>rfl))) (au yN (aI (aa 0) af (fun _ _=>rfl)) (aI (aa 0) af (fun _ _=>rfl)))) (au yN (aI (aa 0) af (fun _ _=>rfl)) (aI (aa 0) af (fun _ _=>rfl))))))),hm,F.kp,F.binds fun _ _ _ _ _ _ us hl=>match us,hl with | [_],_=>rfl⟩
abbrev gA:Stmt:=top 8
noncomputable abbrev kA:List Str:=["kind","masks","full"]
noncomputable def tS:{b:List Stmt // aM gA=b}:=⟨_,by conv=>lhs;whnf⟩
noncomputable def m6:{b:Scope // av gA=b}:=⟨_,by conv=>lhs;whnf⟩
theorem vp:aX kA ["kind","masks","full"] m6.1:=⟨rfl,rfl,rfl,by decide+kernel,rfl,by decide+kernel,by decide+kernel⟩
def oE:FS:=(dJ (vm (b2 rm (ag 0) (eC (.str "not"))) (eu (e2 yP (ag 2) (e2 cn (ag 1) (eC (.int 0))))) nB) (dJ (vm (b2 rm (ag 0) (eC (.str "and"))) (eu (e2 A5 (e2 cn (ag 1) (eC (.int 0))) (e2 cn (ag 1) (eC (.int 1))))) nB) (dJ (vm (b2 rm (ag 0) (eC (.str "or"))) (eu (e2 E9 (e2 cn (ag 1) (eC (.int 0))) (e2 cn (ag 1) (eC (.int 1))))) nB) (dJ (vm (b2 rm (ag 0) (eC (.str "xor"))) (eu (e2 yP (e2 cn (ag 1) (eC (.int 0))) (e2 cn (ag 1) (eC (.int 1))))) nB) (eu (aQ d8 (ah (ag 1) aD)))))))
def gz:List D->R D:=pj kA oE
theorem uz(T:Tp K mg cl)(h:Def K mg "gate_mask" gA)(gZ:Callee P w K mg base 1 "vote_of" 1 d8):Callee P w K mg base 2 "gate_mask" 3 gz:=by
 obtain⟨f,fd,F,hm⟩:=h;exact⟨f,fd,_,bO (k:=1) tS.2 m6.2 F vp (fun dC A outer s H E hr=>(aN (fq (cA (m7 hr.units) (aa 0) bW (cN _)) (aL (bf (au wD (aa 2) (aI (aa 1) af (fun _ _=>rfl))))) dU) (aN (fq (cA (m7 hr.units) (aa 0) bW (cN _)) (aL (bf (au yN (aI (aa 1) af (fun _ _=>rfl)) (aI (aa 1) af (fun _ _=>rfl))))) dU) (aN (fq (cA (m7 hr.units) (aa 0) bW (cN _)) (aL (bf (au yx (aI (aa 1) af (fun _ _=>rfl)) (aI (aa 1) af (fun _ _=>rfl))))) dU) (aN (fq (cA (m7 hr.units) (aa 0) bW (cN _)) (aL (bf (au wD (aI (aa 1) af (fun _ _=>rfl)) (aI (aa 1) af (fun _ _=>rfl))))) dU) (aL (bf (bj gZ hr (by decide) rfl (ab (aa 1) ae) (ay bA))))))))),hm,F.kp,F.binds fun _ _ _ _ _ _ us hl=>match us,hl with | [_,_,_],_=>rfl⟩
abbrev dv:Stmt:=top 9
noncomputable abbrev eH:List Str:=["ins","in_masks","full","bad","wires","place","mask","figure"]
noncomputable def nP:{b:List Stmt // aM dv=b}:=⟨_,by conv=>lhs;whnf⟩
noncomputable def jx:{b:Scope // av dv=b}:=⟨_,by conv=>lhs;whnf⟩
theorem dz:aX eH ["ins","in_masks","full","bad"] jx.1:=⟨rfl,rfl,rfl,by decide+kernel,rfl,by decide+kernel,by decide+kernel⟩
def eY:FZ:=(nG 4 (xT (HI (b2 EH (aQ jb (ah (ag 4) aD)) (ag 3)) (e2 yP (ag 2) (ag 6)) (ag 6))))
def iH:FZ:=(lL (iP (c9 (e2 cn (e2 cn (ag 0) (ag 5)) (eC (.int 1))))) (lZ 7) eY)
def gG:FZ:=(cm (dW 4 (t5 (fK aD))) (cm (lL (iP (xn (ag 1))) (zK 2 (qN (lZ 5) (qN (lZ 6) Bl))) iH) (kq (iF 4))))
def de:List V3->bc->R3 V3:=qC eH gG
def y3:List V3->bc->R3 V3:=rF eH gG
theorem o4(T:Tp K mg cl)(h:Def K mg "in_wire_masks" dv):cR P w K mg base cl 1 "in_wire_masks" 4 de:=by
 obtain⟨f,fd,F,hm⟩:=h;exact⟨f,fd,_,dw (k:=0) nP.2 jx.2 F dz (fun dC A outer s H E hr=>(az (bU dz.nd rfl (Or.inl rfl) (ml (cB ae))) (az (fg PassesOwn.never rfl (b9 (w6 (aa 1) rfl T.z_enumerate)) (gd rfl (bu (aZ dz.nd rfl (Or.inl rfl)) (bu (aZ dz.nd rfl (Or.inl rfl)) er))) (bo (fg PassesOwn.never rfl (b9 (bF (aI (aI (aa 0) (aa 5) (fun _ _=>rfl)) af (fun _ _=>rfl)) rfl T.z_range)) (aZ dz.nd rfl (Or.inl rfl)) (bo (lg rfl (Or.inl rfl) (lC (Ah (cA D2 (bb gO rfl T.z_len PySem.boot_len (ab (aa 4) ae)) (aa 3) (by with_unfolding_all rfl)) (au wD (aa 2) (aa 6)) (aa 6)))))))) (bo (eg (dX 4)))))),hm,F.kp,F.binds fun _ _ _ _ _ _ us hl=>match us,hl with | [_,_,_,_],_=>rfl⟩
abbrev ie:Stmt:=top 10
noncomputable abbrev mw:List Str:=["wires","numbers"]
noncomputable def uf:{b:List Stmt // aM ie=b}:=⟨_,by conv=>lhs;whnf⟩
noncomputable def ky:{b:Scope // av ie=b}:=⟨_,by conv=>lhs;whnf⟩
theorem wo:aX mw ["wires","numbers"] ky.1:=⟨rfl,rfl,rfl,by decide+kernel,rfl,by decide+kernel,by decide+kernel⟩
def pW:FS:=(eu (aQ qv (ah (eNew (cx (cM (ag 1)) (aA 0) i7 (e2 cn (ag 1) (ag 0)) ["number"] [0])) aD)))
def eM:List D->R D:=pj mw pW
theorem wF(T:Tp K mg cl)(h:Def K mg "masks_at" ie):Callee P w K mg base 1 "masks_at" 2 eM:=by
 obtain⟨f,fd,F,hm⟩:=h;exact⟨f,fd,_,bO (k:=0) uf.2 ky.2 F wo (fun dC A outer s H E hr=>(aL (bf (eL sx rfl T.z_tuple PyProof.Rows.boot_tuple (ab (bz (bS rfl (bt.of (own:=["number"]) (kp:=[0]) (kn:=["wires"]) (sc:=ky.1) (N:=mw) rfl rfl (by decide+kernel)) (bE (aa 1)) (fun _ _ _=>(aG (show List.Nodup [(Str.ofString "number"),"wires"] from by decide+kernel) rfl (Or.inl rfl))) (fun _ _ _=>bN) (fun _ _ _=>(aI (aa 1) (aa 0) (fun _ _=>rfl))))) ae))))),hm,F.kp,F.binds fun _ _ _ _ _ _ us hl=>match us,hl with | [_,_],_=>rfl⟩
abbrev fw:Stmt:=top 11
noncomputable abbrev gP:List Str:=["net","in_masks","full","turned","bad","wires","place","gate","mask"]
noncomputable def qO:{b:List Stmt // aM fw=b}:=⟨_,by conv=>lhs;whnf⟩
noncomputable def lO:{b:Scope // av fw=b}:=⟨_,by conv=>lhs;whnf⟩
theorem fk:aX gP ["net","in_masks","full","turned","bad"] lO.1:=⟨rfl,rfl,rfl,by decide+kernel,rfl,by decide+kernel,by decide+kernel⟩
def ix:FZ:=(cm (dW 8 (xT (aQ gz (ah (e2 cn (ag 7) (eC (.int 0))) (ah (aQ eM (ah (ag 5) (ah (e2 cn (ag 7) (eC (.int 1))) aD))) (ah (ag 2) aD)))))) (nG 5 (xP (HI (b2 EH (ag 6) (ag 3)) (e2 yP (ag 2) (ag 8)) (ag 8)))))
def jW:FZ:=(cm (dW 5 (jm de (br (xP (e2 cn (ag 0) (eC (.int 0)))) (br (xP (ag 1)) (br (xP (ag 2)) (br (xP (ag 4)) gy)))))) (cm (lL (iP (hX (e2 cn (ag 0) (eC (.int 1))))) (zK 2 (qN (lZ 6) (qN (lZ 7) Bl))) ix) (kq (iF 5))))
def qP:List V3->bc->R3 V3:=qC gP jW
def gg:List V3->bc->R3 V3:=rF gP jW
theorem sR(T:Tp K mg cl)(h:Def K mg "wire_masks" fw)(fX:Callee P w K mg base 1 "masks_at" 2 eM)(lp:Callee P w K mg base 2 "gate_mask" 3 gz)(d_:cR P w K mg base cl 1 "in_wire_masks" 4 de):cR P w K mg base cl 3 "wire_masks" 5 qP:=by
 obtain⟨f,fd,F,hm⟩:=h;exact⟨f,fd,_,dw (k:=2) qO.2 lO.2 F fk (fun dC A outer s H E hr=>(az (bU fk.nd rfl (Or.inl rfl) (fm d_ hr (by decide) rfl (aF (aq (aI (aa 0) af (fun _ _=>rfl))) (aF (aq (aa 1)) (aF (aq (aa 2)) (aF (aq (aa 4)) cv)))) (aH (aH (aH (aH bY)))))) (az (fg PassesOwn.never rfl (b9 (lB (aI (aa 0) af (fun _ _=>rfl)) rfl T.z_enumerate)) (gd rfl (bu (aZ fk.nd rfl (Or.inl rfl)) (bu (aZ fk.nd rfl (Or.inl rfl)) er))) (az (bU fk.nd rfl (Or.inl rfl) (lC (bj lp hr (by decide) rfl (ab (aI (aa 7) af (fun _ _=>rfl)) (ab (bj fX hr (by decide) rfl (ab (aa 5) (ab (aI (aa 7) af (fun _ _=>rfl)) ae)) (ay (ay bA))) (ab (aa 2) ae))) (ay (ay (ay bA)))))) (bo (lg rfl (Or.inl rfl) (aq (Ah (cA D2 (aa 6) (aa 3) (by with_unfolding_all rfl)) (au wD (aa 2) (aa 8)) (aa 8))))))) (bo (eg (dX 5)))))),hm,F.kp,F.binds fun _ _ _ _ _ _ us hl=>match us,hl with | [_,_,_,_,_],_=>rfl⟩
abbrev gq:Stmt:=top 12
noncomputable abbrev gu:List Str:=["net","wires"]
noncomputable def sW:{b:List Stmt // aM gq=b}:=⟨_,by conv=>lhs;whnf⟩
noncomputable def jZ:{b:Scope // av gq=b}:=⟨_,by conv=>lhs;whnf⟩
theorem uZ:aX gu ["net","wires"] jZ.1:=⟨rfl,rfl,rfl,by decide+kernel,rfl,by decide+kernel,by decide+kernel⟩
def k8:FZ:=(kq (t5 (cx (cM (e2 cn (ag 0) (eC (.int 2)))) (hJ 2 (bR (aA 0) (bR (aA 1) ia))) i7 (aQ eM (ah (ag 2) (ah (ag 1) aD))) ["name","numbers"] [1])))
def sQ:List V3->bc->R3 V3:=qC gu k8
def gS:List V3->bc->R3 V3:=rF gu k8
theorem uY(T:Tp K mg cl)(h:Def K mg "out_masks" gq)(fX:Callee P w K mg base 1 "masks_at" 2 eM):cR P w K mg base cl 2 "out_masks" 2 sQ:=by
 obtain⟨f,fd,F,hm⟩:=h;exact⟨f,fd,_,dw (k:=1) sW.2 jZ.2 F uZ (fun dC A outer s H E hr=>(bo (eg (ml (bS rfl (bt.of (own:=["name","numbers"]) (kp:=[1]) (kn:=["wires"]) (sc:=jZ.1) (N:=gu) rfl rfl (by decide+kernel)) (bE (aI (aa 0) af (fun _ _=>rfl))) (fun _ _ _=>(h_ rfl (bL (aG (show List.Nodup [(Str.ofString "name"),"numbers","wires"] from by decide+kernel) rfl (Or.inl rfl)) (bL (aG (show List.Nodup [(Str.ofString "name"),"numbers","wires"] from by decide+kernel) rfl (Or.inl rfl)) fU)))) (fun _ _ _=>bN) (fun _ _ _=>(bj fX hr (by decide) rfl (ab (aa 2) (ab (aa 1) ae)) (ay (ay bA))))))))),hm,F.kp,F.binds fun _ _ _ _ _ _ us hl=>match us,hl with | [_,_],_=>rfl⟩
abbrev k9:Stmt:=top 13
noncomputable abbrev uQ:List Str:=["mask","number"]
noncomputable def yC:{b:List Stmt // aM k9=b}:=⟨_,by conv=>lhs;whnf⟩
noncomputable def rK:{b:Scope // av k9=b}:=⟨_,by conv=>lhs;whnf⟩
theorem By:aX uQ ["mask","number"] rK.1:=⟨rfl,rfl,rfl,by decide+kernel,rfl,by decide+kernel,by decide+kernel⟩
def vy:FS:=(eu (e2 A5 (e2 ug (ag 0) (ag 1)) (eC (.int 1))))
def kF:List D->R D:=pj uQ vy
theorem Au(T:Tp K mg cl)(h:Def K mg "bit_at" k9):Callee P w K mg base 1 "bit_at" 2 kF:=by
 obtain⟨f,fd,F,hm⟩:=h;exact⟨f,fd,_,bO (k:=0) yC.2 rK.2 F By (fun dC A outer s H E hr=>(aL (bf (au yN (au Cc (aa 0) (aa 1)) af)))),hm,F.kp,F.binds fun _ _ _ _ _ _ us hl=>match us,hl with | [_,_],_=>rfl⟩
abbrev fj:Stmt:=top 14
noncomputable abbrev gT:List Str:=["count","inputs","place","longer","bits"]
noncomputable def qY:{b:List Stmt // aM fj=b}:=⟨_,by conv=>lhs;whnf⟩
noncomputable def l4:{b:Scope // av fj=b}:=⟨_,by conv=>lhs;whnf⟩
theorem d7:aX gT ["count"] l4.1:=⟨rfl,rfl,rfl,by decide+kernel,rfl,by decide+kernel,by decide+kernel⟩
def k0:FZ:=(cm (nG 3 (xP (e2 jB (ag 4) (bZ (ah (eC (.int 0)) aD))))) (nG 3 (xP (e2 jB (ag 4) (bZ (ah (eC (.int 1)) aD))))))
def k4:FZ:=(vO 1 (cm (dW 3 (t5 (fK aD))) (cm (lL (iP (cM (ag 1))) (lZ 4) k0) (dW 1 (iF 3)))))
def j1:FZ:=(cm (dW 1 (t5 (fK (ah (bZ aD) aD)))) (cm (lL (iP (c9 (ag 0))) (lZ 2) k4) (kq (iF 1))))
def qW:List V3->bc->R3 V3:=qC gT j1
def gm:List V3->bc->R3 V3:=rF gT j1
theorem tK(T:Tp K mg cl)(h:Def K mg "all_inputs" fj):cR P w K mg base cl 1 "all_inputs" 1 qW:=by
 obtain⟨f,fd,F,hm⟩:=h;exact⟨f,fd,_,dw (k:=0) qY.2 l4.2 F d7 (fun dC A outer s H E hr=>(az (bU d7.nd rfl (Or.inl rfl) (ml (cB (ab (aO ae) ae)))) (az (fg PassesOwn.never rfl (b9 (bF (aa 0) rfl T.z_range)) (aZ d7.nd rfl (Or.inl rfl)) (tW 1 (az (bU d7.nd rfl (Or.inl rfl) (ml (cB ae))) (az (fg PassesOwn.never rfl (b9 (bE (aa 1))) (aZ d7.nd rfl (Or.inl rfl)) (az (lg rfl (Or.inl rfl) (aq (au kB (aa 4) (aO (ab af ae))))) (bo (lg rfl (Or.inl rfl) (aq (au kB (aa 4) (aO (ab af ae)))))))) (bo (bU d7.nd rfl (Or.inl rfl) (dX 3))))))) (bo (eg (dX 1)))))),hm,F.kp,F.binds fun _ _ _ _ _ _ us hl=>match us,hl with | [_],_=>rfl⟩
abbrev js:Stmt:=top 15
noncomputable abbrev nH:List Str:=["bits","mask","bit"]
noncomputable def wt:{b:List Stmt // aM js=b}:=⟨_,by conv=>lhs;whnf⟩
noncomputable def pZ:{b:Scope // av js=b}:=⟨_,by conv=>lhs;whnf⟩
theorem lF:aX nH ["bits"] pZ.1:=⟨rfl,rfl,rfl,by decide+kernel,rfl,by decide+kernel,by decide+kernel⟩
def k6:FS:=(jC 1 (e2 iY (e2 km (ag 1) (eC (.int 2))) (ag 2)))
def r6:FS:=(dJ (jC 1 (eC (.int 0))) (dJ (nX (E6 (ag 0)) (aA 2) k6) (eu (ag 1))))
def fQ:List D->R D:=pj nH r6
theorem yO(T:Tp K mg cl)(h:Def K mg "mask_of" js):Callee P w K mg base 1 "mask_of" 1 fQ:=by
 obtain⟨f,fd,F,hm⟩:=h;exact⟨f,fd,_,bO (k:=0) wt.2 pZ.2 F lF (fun dC A outer s H E hr=>(aN (cK lF.nd rfl (Or.inl rfl) af) (aN (fu PassesOwn.never rfl (Ba (aa 0) rfl T.z_reversed) (aG lF.nd rfl (Or.inl rfl)) (aL (cK lF.nd rfl (Or.inl rfl) (au iJ (au kD (aa 1) af) (aa 2))))) (aL (bf (aa 1)))))),hm,F.kp,F.binds fun _ _ _ _ _ _ us hl=>match us,hl with | [_],_=>rfl⟩
abbrev jE:Stmt:=top 16
noncomputable abbrev nU:List Str:=["inputs","place"]
noncomputable def vQ:{b:List Stmt // aM jE=b}:=⟨_,by conv=>lhs;whnf⟩
noncomputable def mB:{b:Scope // av jE=b}:=⟨_,by conv=>lhs;whnf⟩
theorem yV:aX nU ["inputs","place"] mB.1:=⟨rfl,rfl,rfl,by decide+kernel,rfl,by decide+kernel,by decide+kernel⟩
def rH:FS:=(eu (aQ fQ (ah (eNew (cx (cM (ag 0)) (aA 0) i7 (e2 cn (ag 0) (ag 1)) ["bits"] [1])) aD)))
def jl:List D->R D:=pj nU rH
theorem zi(T:Tp K mg cl)(h:Def K mg "in_mask" jE)(g6:Callee P w K mg base 1 "mask_of" 1 fQ):Callee P w K mg base 2 "in_mask" 2 jl:=by
 obtain⟨f,fd,F,hm⟩:=h;exact⟨f,fd,_,bO (k:=1) vQ.2 mB.2 F yV (fun dC A outer s H E hr=>(aL (bf (bj g6 hr (by decide) rfl (ab (bz (bS rfl (bt.of (own:=["bits"]) (kp:=[1]) (kn:=["place"]) (sc:=mB.1) (N:=nU) rfl rfl (by decide+kernel)) (bE (aa 0)) (fun _ _ _=>(aG (show List.Nodup [(Str.ofString "bits"),"place"] from by decide+kernel) rfl (Or.inl rfl))) (fun _ _ _=>bN) (fun _ _ _=>(aI (aa 0) (aa 1) (fun _ _=>rfl))))) ae) (ay bA))))),hm,F.kp,F.binds fun _ _ _ _ _ _ us hl=>match us,hl with | [_,_],_=>rfl⟩
abbrev gx:Stmt:=top 19
noncomputable abbrev kP:List Str:=["outs","mask","masks"]
noncomputable def tw:{b:List Stmt // aM gx=b}:=⟨_,by conv=>lhs;whnf⟩
noncomputable def nh:{b:Scope // av gx=b}:=⟨_,by conv=>lhs;whnf⟩
theorem iQ:aX kP ["outs"] nh.1:=⟨rfl,rfl,rfl,by decide+kernel,rfl,by decide+kernel,by decide+kernel⟩
def i5:FS:=(jC 1 (e2 E9 (e2 E9 (ag 1) (e2 yP (e2 cn (ag 2) (eC (.int 0))) (e2 cn (ag 2) (eC (.int 1))))) (e2 yP (e2 cn (ag 2) (eC (.int 0))) (e2 cn (ag 2) (eC (.int 2))))))
def oG:FS:=(dJ (jC 1 (eC (.int 0))) (dJ (nX (cM (ag 0)) (aA 2) i5) (eu (ag 1))))
def gr:List D->R D:=pj kP oG
theorem uU(T:Tp K mg cl)(h:Def K mg "unlike_at" gx):Callee P w K mg base 1 "unlike_at" 1 gr:=by
 obtain⟨f,fd,F,hm⟩:=h;exact⟨f,fd,_,bO (k:=0) tw.2 nh.2 F iQ (fun dC A outer s H E hr=>(aN (cK iQ.nd rfl (Or.inl rfl) af) (aN (fu PassesOwn.never rfl (bE (aa 0)) (aG iQ.nd rfl (Or.inl rfl)) (aL (cK iQ.nd rfl (Or.inl rfl) (au yx (au yx (aa 1) (au wD (aI (aa 2) af (fun _ _=>rfl)) (aI (aa 2) af (fun _ _=>rfl)))) (au wD (aI (aa 2) af (fun _ _=>rfl)) (aI (aa 2) af (fun _ _=>rfl))))))) (aL (bf (aa 1)))))),hm,F.kp,F.binds fun _ _ _ _ _ _ us hl=>match us,hl with | [_],_=>rfl⟩
abbrev ju:Stmt:=top 20
noncomputable abbrev lE:List Str:=["before","after","mask","masks","others"]
noncomputable def wm:{b:List Stmt // aM ju=b}:=⟨_,by conv=>lhs;whnf⟩
noncomputable def md:{b:Scope // av ju=b}:=⟨_,by conv=>lhs;whnf⟩
theorem jI:aX lE ["before","after"] md.1:=⟨rfl,rfl,rfl,by decide+kernel,rfl,by decide+kernel,by decide+kernel⟩
def kK:FS:=(jC 2 (e2 E9 (ag 2) (aQ d8 (ah (eNew (cx (c9 (eC (.int 3))) (aA 0) i7 (e2 yP (e2 cn (ag 1) (ag 0)) (e2 cn (ag 2) (ag 0))) ["place"] [3,4])) aD))))
def rT:FS:=(dJ (jC 2 (eC (.int 0))) (dJ (nX (xo (ag 0) (ag 1)) (hJ 2 (bR (aA 3) (bR (aA 4) ia))) kK) (eu (ag 2))))
def jw:List D->R D:=pj lE rT
theorem yr(T:Tp K mg cl)(h:Def K mg "lost_at" ju)(gZ:Callee P w K mg base 1 "vote_of" 1 d8):Callee P w K mg base 2 "lost_at" 2 jw:=by
 obtain⟨f,fd,F,hm⟩:=h;exact⟨f,fd,_,bO (k:=1) wm.2 md.2 F jI (fun dC A outer s H E hr=>(aN (cK jI.nd rfl (Or.inl rfl) af) (aN (fu PassesOwn.never rfl (pY (aa 0) (aa 1) rfl T.z_zip) (h_ rfl (bL (aG jI.nd rfl (Or.inr rfl)) (bL (aG jI.nd rfl (Or.inr rfl)) fU))) (aL (cK jI.nd rfl (Or.inl rfl) (au yx (aa 2) (bj gZ hr (by decide) rfl (ab (bz (bS rfl (bt.of (own:=["place"]) (kp:=[3,4]) (kn:=["masks","others"]) (sc:=md.1) (N:=lE) rfl rfl (by decide+kernel)) (bF af rfl T.z_range) (fun _ _ _=>(aG (show List.Nodup [(Str.ofString "place"),"masks","others"] from by decide+kernel) rfl (Or.inl rfl))) (fun _ _ _=>bN) (fun _ _ _=>(au wD (aI (aa 1) (aa 0) (fun _ _=>rfl)) (aI (aa 2) (aa 0) (fun _ _=>rfl)))))) ae) (ay bA)))))) (aL (bf (aa 2)))))),hm,F.kp,F.binds fun _ _ _ _ _ _ us hl=>match us,hl with | [_,_],_=>rfl⟩
abbrev ij:Stmt:=top 21
noncomputable abbrev iu:List Str:=["first","end","many","found","wire","next_three","rest"]
noncomputable def uO:{b:List Stmt // aM ij=b}:=⟨_,by conv=>lhs;whnf⟩
noncomputable def oM:{b:Scope // av ij=b}:=⟨_,by conv=>lhs;whnf⟩
theorem iy:aX iu ["first","end","many"] oM.1:=⟨rfl,rfl,rfl,by decide+kernel,rfl,by decide+kernel,by decide+kernel⟩
def j4(self:List D->R D):FS:=(AG 3 (e2 jB (bZ (ah (ag 4) aD)) (ag 6)))
def j2(self:List D->R D):FS:=(dJ (jC 5 (e2 km (e2 jB (e2 ni (ag 4) (eC (.int 3))) (eC (.int 1))) (eC (.int 3)))) (nX (cM (aQ self (ah (ag 5) (ah (ag 1) (ah (e2 ny (ag 2) (eC (.int 1))) aD))))) (aA 6) (j4 self)))
def ig(self:List D->R D):FS:=(dJ (vm (b2 rm (ag 2) (eC (.int 0))) (eu (eNew (fK (ah (bZ aD) aD)))) nB) (dJ (tf 3 (fK aD)) (dJ (nX (n6 (ag 0) (ag 1)) (aA 4) (j2 self)) (Aj 3 (eu (ag 3))))))
def c0:Nat->List D->R D
 | 0=>fun _=> .no
 | n+1=>pj iu (ig (c0 n))
theorem pK(T:Tp K mg cl)(h:Def K mg "bad_sets" ij):∀n,Callee P w K mg base (1+n) "bad_sets" 3 (c0 n)
 | 0=>by
   obtain⟨f,fd,F,hm⟩:=h;exact⟨f,fd,["first","end","many"],Jn,hm,F.kp,F.binds fun _ _ _ _ _ _ us hl=>match us,hl with | [_,_,_],_=>rfl⟩
 | n+1=>by
   have Hm:=pK T h n;obtain⟨f,fd,F,hm⟩:=h;exact⟨f,fd,_,bO (k:=1+n) uO.2 oM.2 F iy (fun dC A outer s H E hr=>(aN (fq (cA (m7 hr.units) (aa 2) af (cN _)) (aL (bf (bz (cB (ab (aO ae) ae))))) dU) (aN (zX iy.nd rfl (Or.inl rfl) (cB ae)) (aN (fu PassesOwn.never rfl (oR (aa 0) (aa 1) rfl T.z_range) (aG iy.nd rfl (Or.inl rfl)) (aN (cK iy.nd rfl (Or.inl rfl) (au kD (au kB (au tm (aa 4) af) af) af)) (aL (fu PassesOwn.never rfl (bE (bj Hm hr (by omega) rfl (ab (aa 5) (ab (aa 1) (ab (au mW (aa 2) af) ae))) (ay (ay (ay bA))))) (aG iy.nd rfl (Or.inl rfl)) (aL (BW rfl (Or.inl rfl) (au kB (aO (ab (aa 4) ae)) (aa 6)))))))) (uL 3 (aL (bf (aa 3)))))))),hm,F.kp,F.binds fun _ _ _ _ _ _ us hl=>match us,hl with | [_,_,_],_=>rfl⟩
abbrev di:Stmt:=top 22
noncomputable abbrev cF:List Str:=["net","faults","many_ins","many"]
noncomputable def mR:{b:List Stmt // aM di=b}:=⟨_,by conv=>lhs;whnf⟩
noncomputable def dN:{b:Scope // av di=b}:=⟨_,by conv=>lhs;whnf⟩
theorem d9:aX cF ["net"] dN.1:=⟨rfl,rfl,rfl,by decide+kernel,rfl,by decide+kernel,by decide+kernel⟩
def eP:FS:=(C2 1 (cx (cM (aQ (c0 7) (ah (eC (.int 0)) (ah (e2 km (ag 2) (eC (.int 3))) (ah (ag 3) aD))))) (aA 0) i7 (bZ (ah (ag 0) (ah (bZ aD) aD))) ["bad"] []))
def jq:FS:=(dJ (tf 1 (cx (hX (e2 cn (ag 0) (eC (.int 1)))) (hJ 2 (bR (aA 0) (bR (aA 1) ia))) (sJ (sG (e2 cn (ag 1) (eC (.int 2))))) (bZ (ah (bZ aD) (ah (bZ (ah (ag 0) aD)) aD))) ["place","gate"] [])) (dJ (jC 2 (aQ jb (ah (e2 cn (ag 0) (eC (.int 0))) aD))) (dJ (nX (n6 (eC (.int 1)) (e2 iY (ag 2) (eC (.int 1)))) (aA 3) eP) (Aj 1 (eu (ag 1))))))
def dh:List D->R D:=pj cF jq
theorem nL(T:Tp K mg cl)(h:Def K mg "keeping_faults" di)(mF:Callee P w K mg base 8 "bad_sets" 3 (c0 7)):Callee P w K mg base 9 "keeping_faults" 1 dh:=by
 obtain⟨f,fd,F,hm⟩:=h;exact⟨f,fd,_,bO (k:=8) mR.2 dN.2 F d9 (fun dC A outer s H E hr=>(aN (sY rfl d9.nd rfl rfl (bt.of (own:=["place","gate"]) (kp:=[]) (kn:=[]) (sc:=dN.1) (N:=cF) rfl rfl (by decide+kernel)) (lB (aI (aa 0) af (fun _ _=>rfl)) rfl T.z_enumerate) (fun _ _ _=>(h_ rfl (bL (aG (show List.Nodup [(Str.ofString "place"),"gate"] from by decide+kernel) rfl (Or.inl rfl)) (bL (aG (show List.Nodup [(Str.ofString "place"),"gate"] from by decide+kernel) rfl (Or.inl rfl)) fU)))) (fun _ _ _=>(qB (tE (tO (aI (aa 1) af (fun _ _=>rfl)))))) (fun _ _ _=>(aO (ab (aO ae) (ab (aO (ab (aa 0) ae)) ae))))) (aN (cK d9.nd rfl (Or.inl rfl) (bb gO rfl T.z_len PySem.boot_len (ab (aI (aa 0) af (fun _ _=>rfl)) ae))) (aN (fu PassesOwn.never rfl (oR af (au iJ (aa 2) af) rfl T.z_range) (aG d9.nd rfl (Or.inl rfl)) (aL (Af rfl (Or.inl rfl) (bS rfl (bt.of (own:=["bad"]) (kp:=[]) (kn:=[]) (sc:=dN.1) (N:=cF) rfl rfl (by decide+kernel)) (bE (bj mF hr (by decide) rfl (ab af (ab (au kD (aa 2) af) (ab (aa 3) ae))) (ay (ay (ay bA))))) (fun _ _ _=>(aG (show List.Nodup [(Str.ofString "bad")] from by decide+kernel) rfl (Or.inl rfl))) (fun _ _ _=>bN) (fun _ _ _=>(aO (ab (aa 0) (ab (aO ae) ae)))))))) (uL 1 (aL (bf (aa 1)))))))),hm,F.kp,F.binds fun _ _ _ _ _ _ us hl=>match us,hl with | [_],_=>rfl⟩
abbrev bB:Stmt:=inClass (top 17) 0
noncomputable abbrev cE:List Str:=["self","net","inputs"]
noncomputable def m4:{b:List Stmt // aM bB=b}:=⟨_,by conv=>lhs;whnf⟩
noncomputable def dO:{b:Scope // av bB=b}:=⟨_,by conv=>lhs;whnf⟩
theorem jn:aX cE ["self","net"] dO.1:=⟨rfl,rfl,rfl,by decide+kernel,rfl,by decide+kernel,by decide+kernel⟩
def fO:FZ:=(cm (dW 2 (jm gm (br (xP (aQ jb (ah (e2 cn (ag 1) (eC (.int 0))) aD))) gy))) (cm (zg 0 "net" (iF 0) (xP (ag 1))) (cm (zg 0 "many_inputs" (iF 0) (xP (aQ jb (ah (ag 2) aD)))) (cm (zg 0 "full" (iF 0) (xP (aQ fQ (ah (eNew (cx (cM (ag 2)) (aA 0) i7 (eC (.int 1)) ["bits"] [])) aD)))) (zg 0 "in_masks" (iF 0) (xP (eNew (cx (c9 (aQ jb (ah (e2 cn (ag 1) (eC (.int 0))) aD))) (aA 0) i7 (aQ jl (ah (ag 1) (ah (ag 0) aD))) ["place"] [2]))))))))
def cP:List V3->bc->R3 V3:=qC cE fO
def x3:List V3->bc->R3 V3:=rF cE fO
theorem dg(T:Tp K mg cl)(h:Gs K (cl 0) "__init__" "Bench.__init__" bB)(g6:Callee P w K mg base 1 "mask_of" 1 fQ)(oj:Callee P w K mg base 2 "in_mask" 2 jl)(jh:cR P w K mg base cl 1 "all_inputs" 1 gm):B8 P w K mg base cl 3 0 "Bench" 1 cP:=by
 obtain⟨f,fd,F,hm⟩:=h;exact⟨f,fd,_,hm,dw (k:=2) m4.2 dO.2 F jn (fun dC A outer s H E hr=>(az (bU jn.nd rfl (Or.inr rfl) (fm jh hr (by decide) rfl (aF (aq (bb gO rfl T.z_len PySem.boot_len (ab (aI (aa 1) af (fun _ _=>rfl)) ae))) cv) (aH bY))) (az (tJ T.C_Bench T.N_Bench_net (dX 0) (aq (aa 1))) (az (tJ T.C_Bench T.N_Bench_many_inputs (dX 0) (aq (bb gO rfl T.z_len PySem.boot_len (ab (aa 2) ae)))) (az (tJ T.C_Bench T.N_Bench_full (dX 0) (aq (bj g6 hr (by decide) rfl (ab (bz (bS rfl (bt.of (own:=["bits"]) (kp:=[]) (kn:=[]) (sc:=dO.1) (N:=cE) rfl rfl (by decide+kernel)) (bE (aa 2)) (fun _ _ _=>(aG (show List.Nodup [(Str.ofString "bits")] from by decide+kernel) rfl (Or.inl rfl))) (fun _ _ _=>bN) (fun _ _ _=>af))) ae) (ay bA)))) (bo (tJ T.C_Bench T.N_Bench_in_masks (dX 0) (aq (bz (bS rfl (bt.of (own:=["place"]) (kp:=[2]) (kn:=["inputs"]) (sc:=dO.1) (N:=cE) rfl rfl (by decide+kernel)) (bF (bb gO rfl T.z_len PySem.boot_len (ab (aI (aa 1) af (fun _ _=>rfl)) ae)) rfl T.z_range) (fun _ _ _=>(aG (show List.Nodup [(Str.ofString "place"),"inputs"] from by decide+kernel) rfl (Or.inl rfl))) (fun _ _ _=>bN) (fun _ _ _=>(bj oj hr (by decide) rfl (ab (aa 1) (ab (aa 0) ae)) (ay (ay bA)))))))))))))),T.M_Bench,F.binds fun _ _ _ _ _ _ us hl=>match us,hl with | [_,_],_=>rfl⟩
abbrev cj:Stmt:=inClass (top 17) 1
noncomputable abbrev gf:List Str:=["self","turned","bad"]
noncomputable def qk:{b:List Stmt // aM cj=b}:=⟨_,by conv=>lhs;whnf⟩
noncomputable def kC:{b:Scope // av cj=b}:=⟨_,by conv=>lhs;whnf⟩
theorem qS:aX gf ["self","turned","bad"] kC.1:=⟨rfl,rfl,rfl,by decide+kernel,rfl,by decide+kernel,by decide+kernel⟩
def i8:FZ:=(kq (jm gS (br (wC 0 "net" (iF 0)) (br (jm gg (br (wC 0 "net" (iF 0)) (br (wC 0 "in_masks" (iF 0)) (br (wC 0 "full" (iF 0)) (br (xP (ag 1)) (br (xP (ag 2)) gy)))))) gy))))
def pU:List V3->bc->R3 V3:=qC gf i8
def d5:List V3->bc->R3 V3:=rF gf i8
theorem eA(T:Tp K mg cl)(h:zw K (cl 0) "tells" "Bench.tells" cj)(jf:cR P w K mg base cl 3 "wire_masks" 5 gg)(ka:cR P w K mg base cl 2 "out_masks" 2 gS):oB P w K mg base cl 4 0 "tells" 2 pU:=by
 obtain⟨f,fd,F,hm⟩:=h;exact⟨f,fd,_,T.C_Bench,hm,dw (k:=3) qk.2 kC.2 F qS (fun dC A outer s H E hr=>(bo (eg (fm ka hr (by decide) rfl (aF (pN T.C_Bench T.N_Bench_net (dX 0)) (aF (fm jf hr (by decide) rfl (aF (pN T.C_Bench T.N_Bench_net (dX 0)) (aF (pN T.C_Bench T.N_Bench_in_masks (dX 0)) (aF (pN T.C_Bench T.N_Bench_full (dX 0)) (aF (aq (aa 1)) (aF (aq (aa 2)) cv))))) (aH (aH (aH (aH (aH bY)))))) cv)) (aH (aH bY)))))),F.binds fun _ _ _ _ _ _ us hl=>match us,hl with | [_,_,_],_=>rfl⟩
abbrev bx:Stmt:=inClass (top 17) 4
noncomputable abbrev cQ:List Str:=["self","mask"]
noncomputable def mr:{b:List Stmt // aM bx=b}:=⟨_,by conv=>lhs;whnf⟩
noncomputable def eK:{b:Scope // av bx=b}:=⟨_,by conv=>lhs;whnf⟩
theorem mO:aX cQ ["self","mask"] eK.1:=⟨rfl,rfl,rfl,by decide+kernel,rfl,by decide+kernel,by decide+kernel⟩
def e_:FZ:=(kq (lX (uN (wC 0 "many_inputs" (iF 0))) (lZ 0) (bP (b2 rm (aQ kF (ah (ag 1) (ah (ag 0) aD))) (eC (.int 1)))) (xP (ag 0)) ["number"] [1]))
def l8:List V3->bc->R3 V3:=qC cQ e_
def cf:List V3->bc->R3 V3:=rF cQ e_
theorem cS(T:Tp K mg cl)(h:zw K (cl 0) "inputs_in" "Bench.inputs_in" bx)(qI:Callee P w K mg base 1 "bit_at" 2 kF):oB P w K mg base cl 2 0 "inputs_in" 1 l8:=by
 obtain⟨f,fd,F,hm⟩:=h;exact⟨f,fd,_,T.C_Bench,hm,dw (k:=1) mr.2 eK.2 F mO (fun dC A outer s H E hr=>(bo (eg (ya rfl (bt.of (own:=["number"]) (kp:=[1]) (kn:=["mask"]) (sc:=eK.1) (N:=cQ) rfl rfl (by decide+kernel)) (vW (pN T.C_Bench T.N_Bench_many_inputs (dX 0)) rfl T.z_range) (fun _ _ _=>(aZ (show List.Nodup [(Str.ofString "number"),"mask"] from by decide+kernel) rfl (Or.inl rfl))) (fun _ _ _=>(um (jo (cA (m7 hr.units) (bj qI hr (by decide) rfl (ab (aa 1) (ab (aa 0) ae)) (ay (ay bA))) af (cN _))))) (fun _ _ _=>(aq (aa 0))))))),F.binds fun _ _ _ _ _ _ us hl=>match us,hl with | [_,_],_=>rfl⟩
abbrev mU:Stmt:=top 23
noncomputable abbrev ph:List Str:=["net","bench","plain","mask","bad","turned"]
noncomputable def zS:{b:List Stmt // aM mU=b}:=⟨_,by conv=>lhs;whnf⟩
noncomputable def ur:{b:Scope // av mU=b}:=⟨_,by conv=>lhs;whnf⟩
theorem jT:aX ph ["net"] ur.1:=⟨rfl,rfl,rfl,by decide+kernel,rfl,by decide+kernel,by decide+kernel⟩
def nY:FZ:=(cm (dW 3 (tL jw (br (xP (ag 2)) (br (pF 0 "tells" d5 (iF 1) (br (xP (ag 5)) (br (xP (ag 4)) gy))) gy)))) (E7 (bP (b2 yW (ag 3) (eC (.int 0)))) (kq (D3 (br (xP (eC (.str "loses"))) (br (xP (ag 4)) (br (xP (ag 5)) (br (Je (pF 0 "inputs_in" cf (iF 1) (br (xP (ag 3)) gy)) (xP (eC (.int 0)))) gy)))))) vc))
def tp:FZ:=(cm (E7 (bP (sJ (sG (aQ d6 (ah (ag 0) (ah (eC (.int 3)) aD)))))) MA vc) (cm (dW 1 (AI 0 cP (br (xP (ag 0)) gy))) (cm (dW 2 (pF 0 "tells" d5 (iF 1) (br (xP (bZ aD)) (br (xP (bZ aD)) gy)))) (cm (dW 3 (xP (aQ gr (ah (ag 2) aD)))) (cm (E7 (bP (b2 yW (ag 3) (eC (.int 0)))) (kq (D3 (br (xP (eC (.str "loses"))) (br (xP (bZ aD)) (br (xP (bZ aD)) (br (Je (pF 0 "inputs_in" cf (iF 1) (br (xP (ag 3)) gy)) (xP (eC (.int 0)))) gy)))))) vc) (cm (lL (iP (cM (aQ dh (ah (ag 0) aD)))) (zK 2 (qN (lZ 4) (qN (lZ 5) Bl))) nY) (kq (xP (bZ (ah (eC (.str "keeps")) aD))))))))))
def An:List V3->bc->R3 V3:=qC ph tp
def mM:List V3->bc->R3 V3:=rF ph tp
theorem De(T:Tp K mg cl)(h:Def K mg "keeps" mU)(j7:Callee P w K mg base 1 "has_widths" 2 d6)(lu:Callee P w K mg base 1 "unlike_at" 1 gr)(fZ:Callee P w K mg base 9 "keeping_faults" 1 dh)(ox:Callee P w K mg base 2 "lost_at" 2 jw)(fD:B8 P w K mg base cl 3 0 "Bench" 1 cP)(fF:oB P w K mg base cl 4 0 "tells" 2 d5)(du:oB P w K mg base cl 2 0 "inputs_in" 1 cf):cR P w K mg base cl 10 "keeps" 1 An:=by
 obtain⟨f,fd,F,hm⟩:=h;exact⟨f,fd,_,dw (k:=9) zS.2 ur.2 F jT (fun dC A outer s H E hr=>(az (rX (jo (tE (tO (bj j7 hr (by decide) rfl (ab (aa 0) (ab af ae)) (ay (ay bA)))))) (bo Ig) lH) (az (bU jT.nd rfl (Or.inl rfl) (C6 fD hr (by decide) rfl (aF (aq (aa 0)) cv) (aH bY))) (az (bU jT.nd rfl (Or.inl rfl) (pq fF hr (by decide) (dX 1) (aF (aq (aO ae)) (aF (aq (aO ae)) cv)) (aH (aH bY)))) (az (bU jT.nd rfl (Or.inl rfl) (aq (bj lu hr (by decide) rfl (ab (aa 2) ae) (ay bA)))) (az (rX (jo (cA (Al hr.units) (aa 3) af (cN _))) (bo (eg (AN (aF (aq bW) (aF (aq (aO ae)) (aF (aq (aO ae)) (aF (EM (pq du hr (by decide) (dX 1) (aF (aq (aa 3)) cv) (aH bY)) (aq af) (fun _ _=>rfl)) cv))))))) lH) (az (fg PassesOwn.never rfl (b9 (bE (bj fZ hr (by decide) rfl (ab (aa 0) ae) (ay bA)))) (gd rfl (bu (aZ jT.nd rfl (Or.inl rfl)) (bu (aZ jT.nd rfl (Or.inl rfl)) er))) (az (bU jT.nd rfl (Or.inl rfl) (vt ox hr (by decide) rfl (aF (aq (aa 2)) (aF (pq fF hr (by decide) (dX 1) (aF (aq (aa 5)) (aF (aq (aa 4)) cv)) (aH (aH bY))) cv)) (aH (aH bY)))) (bo (rX (jo (cA (Al hr.units) (aa 3) af (cN _))) (bo (eg (AN (aF (aq bW) (aF (aq (aa 4)) (aF (aq (aa 5)) (aF (EM (pq du hr (by decide) (dX 1) (aF (aq (aa 3)) cv) (aH bY)) (aq af) (fun _ _=>rfl)) cv))))))) lH)))) (bo (eg (aq (aO (ab bW ae)))))))))))),hm,F.kp,F.binds fun _ _ _ _ _ _ us hl=>match us,hl with | [_],_=>rfl⟩
abbrev eE:Stmt:=top 25
noncomputable abbrev l5:List Str:=["script","k"]
noncomputable def pJ:{b:List Stmt // aM eE=b}:=⟨_,by conv=>lhs;whnf⟩
noncomputable def k_:{b:Scope // av eE=b}:=⟨_,by conv=>lhs;whnf⟩
theorem qQ:aX l5 ["script","k"] k_.1:=⟨rfl,rfl,rfl,by decide+kernel,rfl,by decide+kernel,by decide+kernel⟩
def l0:FS:=(dJ (vm (b2 Lp (ag 1) (aQ jb (ah (ag 0) aD))) (eu (e2 cn (ag 0) (ag 1))) nB) (eu (eC (.int 0))))
def eF:List D->R D:=pj l5 l0
theorem qX(T:Tp K mg cl)(h:Def K mg "_law_cell_at" eE):Callee P w K mg base 1 "_law_cell_at" 2 eF:=by
 obtain⟨f,fd,F,hm⟩:=h;exact⟨f,fd,_,bO (k:=0) pJ.2 k_.2 F qQ (fun dC A outer s H E hr=>(aN (fq (cA Lm (aa 1) (bb gO rfl T.z_len PySem.boot_len (ab (aa 0) ae)) (cN _)) (aL (bf (aI (aa 0) (aa 1) (fun _ _=>rfl)))) dU) (aL (bf af)))),hm,F.kp,F.binds fun _ _ _ _ _ _ us hl=>match us,hl with | [_,_],_=>rfl⟩
abbrev ip:Stmt:=top 26
noncomputable abbrev jN:List Str:=["cell","k","number"]
noncomputable def uo:{b:List Stmt // aM ip=b}:=⟨_,by conv=>lhs;whnf⟩
noncomputable def oK:{b:Scope // av ip=b}:=⟨_,by conv=>lhs;whnf⟩
theorem my:aX jN ["cell","k"] oK.1:=⟨rfl,rfl,rfl,by decide+kernel,rfl,by decide+kernel,by decide+kernel⟩
def pM:FS:=(dJ (vm (b2 Li (ag 0) (e2 yK (eC (.int 10)) (eC (.int 18)))) (eu (e2 jA (e2 ug (e2 ny (ag 0) (e2 yK (eC (.int 10)) (eC (.int 18)))) (e2 km (eC (.int 28)) (ag 1))) (e2 yK (eC (.int 2)) (eC (.int 28))))) nB) (dJ (jC 2 (e2 jA (e2 km (e2 iY (e2 iY (ag 0) (e2 km (eC (.int 1013)) (ag 1))) (eC (.int 1))) (eC (.int 16807))) (eC (.int 2147483647)))) (dJ (jC 2 (e2 jA (e2 km (ag 2) (ag 2)) (eC (.int 2147483629)))) (eu (e2 ni (e2 jA (e2 km (ag 2) (eC (.int 39373))) (eC (.int 2147483587))) (eC (.int 8)))))))
def cH:List D->R D:=pj jN pM
theorem wG(T:Tp K mg cl)(h:Def K mg "_law_stir" ip):Callee P w K mg base 1 "_law_stir" 2 cH:=by
 obtain⟨f,fd,F,hm⟩:=h;exact⟨f,fd,_,bO (k:=0) uo.2 oK.2 F my (fun dC A outer s H E hr=>(aN (fq (cA LI (aa 0) (au z0 af af) (cN _)) (aL (bf (au iO (au Cc (au mW (aa 0) (au z0 af af)) (au kD af (aa 1))) (au z0 af af)))) dU) (aN (cK my.nd rfl (Or.inl rfl) (au iO (au kD (au iJ (au iJ (aa 0) (au kD af (aa 1))) af) af) af)) (aN (cK my.nd rfl (Or.inl rfl) (au iO (au kD (aa 2) (aa 2)) af)) (aL (bf (au tm (au iO (au kD (aa 2) af) af) af))))))),hm,F.kp,F.binds fun _ _ _ _ _ _ us hl=>match us,hl with | [_,_],_=>rfl⟩
abbrev jr:Stmt:=top 27
noncomputable abbrev rC:List Str:=["kind","some"]
noncomputable def wZ:{b:List Stmt // aM jr=b}:=⟨_,by conv=>lhs;whnf⟩
noncomputable def qc:{b:Scope // av jr=b}:=⟨_,by conv=>lhs;whnf⟩
theorem yY:aX rC ["kind","some"] qc.1:=⟨rfl,rfl,rfl,by decide+kernel,rfl,by decide+kernel,by decide+kernel⟩
def yt:FS:=(dJ (vm (b2 rm (ag 0) (eC (.str "not"))) (eu (e2 ny (eC (.int 1)) (e2 cn (ag 1) (eC (.int 0))))) nB) (dJ (vm (b2 rm (ag 0) (eC (.str "and"))) (eu (aQ uB (ah (ag 1) aD))) nB) (dJ (vm (b2 rm (ag 0) (eC (.str "or"))) (eu (aQ BM (ah (ag 1) aD))) nB) (eu (e2 cn (eNew (fK (ah (aQ pG (ah (e2 Jk (aQ xM (ah (ag 1) aD)) (eC (.int 1))) aD)) (ah (e2 jA (aQ xM (ah (ag 1) aD)) (eC (.int 2))) aD)))) (aQ pG (ah (e2 rm (ag 0) (eC (.str "xor"))) aD)))))))
def lG:List D->R D:=pj rC yt
theorem y1(T:Tp K mg cl)(h:Def K mg "_law_bit" jr):Callee P w K mg base 1 "_law_bit" 2 lG:=by
 obtain⟨f,fd,F,hm⟩:=h;exact⟨f,fd,_,bO (k:=0) wZ.2 qc.2 F yY (fun dC A outer s H E hr=>(aN (fq (cA (m7 hr.units) (aa 0) bW (cN _)) (aL (bf (au mW af (aI (aa 1) af (fun _ _=>rfl))))) dU) (aN (fq (cA (m7 hr.units) (aa 0) bW (cN _)) (aL (bf (bb (zR rfl) rfl T.z_min PyProof.Rows.boot_min (ab (aa 1) ae)))) dU) (aN (fq (cA (m7 hr.units) (aa 0) bW (cN _)) (aL (bf (bb (Gn rfl) rfl T.z_max PyProof.Rows.boot_max (ab (aa 1) ae)))) dU) (aL (bf (aI (bz (cB (ab (eL s_ rfl T.z_int PyProof.Rows.boot_int (ab (j3 IB (bb (Ax rfl) rfl T.z_sum PyProof.Rows.boot_sum (ab (aa 1) ae)) af (cN _)) ae)) (ab (au iO (bb (Ax rfl) rfl T.z_sum PyProof.Rows.boot_sum (ab (aa 1) ae)) af) ae)))) (eL s_ rfl T.z_int PyProof.Rows.boot_int (ab (j3 (m7 hr.units) (aa 0) bW (cN _)) ae)) (fun _ _=>rfl)))))))),hm,F.kp,F.binds fun _ _ _ _ _ _ us hl=>match us,hl with | [_,_],_=>rfl⟩
abbrev jy:Stmt:=top 28
noncomputable abbrev gY:List Str:=["net","bits","turned","bad","wires","name","width","bit","k","place","kind","own","sure"]
noncomputable def vU:{b:List Stmt // aM jy=b}:=⟨_,by conv=>lhs;whnf⟩
noncomputable def jV:{b:Scope // av jy=b}:=⟨_,by conv=>lhs;whnf⟩
theorem dc:aX gY ["net","bits","turned","bad"] jV.1:=⟨rfl,rfl,rfl,by decide+kernel,rfl,by decide+kernel,by decide+kernel⟩
def lh:FZ:=(nG 4 (xT (e2 cn (eNew (fK (ah (ag 7) (ah (e2 ny (eC (.int 1)) (ag 7)) aD)))) (aQ pG (ah (e2 EH (aQ jb (ah (ag 4) aD)) (ag 3)) aD)))))
def oO:FZ:=(lL (iP (c9 (ag 6))) (lZ 8) lh)
def k7:FZ:=(cm (dW 7 (xT (aQ lG (ah (ag 10) (ah (eNew (cx (cM (ag 11)) (aA 0) i7 (e2 cn (ag 1) (ag 0)) ["one"] [4])) aD))))) (nG 4 (xP (e2 cn (eNew (fK (ah (ag 7) (ah (e2 ny (eC (.int 1)) (ag 7)) aD)))) (aQ pG (ah (e2 EH (ag 9) (ag 2)) aD))))))
def nV:FZ:=(cm (dW 4 (t5 (fK aD))) (cm (lL (iP (xo (e2 cn (ag 0) (eC (.int 0))) (ag 1))) (zK 2 (qN (zK 2 (qN (lZ 5) (qN (lZ 6) Bl))) (qN (lZ 7) Bl))) oO) (cm (lL (iP (hX (e2 cn (ag 0) (eC (.int 1))))) (zK 2 (qN (lZ 9) (qN (zK 3 (qN (lZ 10) (qN (lZ 11) (qN (lZ 12) Bl)))) Bl))) k7) (kq (lX (iP (cM (e2 cn (ag 0) (eC (.int 2))))) (zK 2 (qN (lZ 0) (qN (lZ 1) Bl))) Bj (xT (aQ qv (ah (eNew (cx (cM (ag 1)) (aA 0) i7 (e2 cn (ag 1) (ag 0)) ["one"] [2])) aD))) ["name","own"] [4])))))
def wg:List V3->bc->R3 V3:=qC gY nV
def g9:List V3->bc->R3 V3:=rF gY nV
theorem zk(T:Tp K mg cl)(h:Def K mg "_law_run" jy)(oy:Callee P w K mg base 1 "_law_bit" 2 lG):cR P w K mg base cl 2 "_law_run" 4 wg:=by
 obtain⟨f,fd,F,hm⟩:=h;exact⟨f,fd,_,dw (k:=1) vU.2 jV.2 F dc (fun dC A outer s H E hr=>(az (bU dc.nd rfl (Or.inr rfl) (ml (cB ae))) (az (fg PassesOwn.never rfl (b9 (pY (aI (aa 0) af (fun _ _=>rfl)) (aa 1) rfl T.z_zip)) (gd rfl (bu (gd rfl (bu (aZ dc.nd rfl (Or.inl rfl)) (bu (aZ dc.nd rfl (Or.inl rfl)) er))) (bu (aZ dc.nd rfl (Or.inl rfl)) er))) (bo (fg PassesOwn.never rfl (b9 (bF (aa 6) rfl T.z_range)) (aZ dc.nd rfl (Or.inl rfl)) (bo (lg rfl (Or.inr (Or.inl rfl)) (lC (aI (bz (cB (ab (aa 7) (ab (au mW af (aa 7)) ae)))) (eL s_ rfl T.z_int PyProof.Rows.boot_int (ab (j3 D2 (bb gO rfl T.z_len PySem.boot_len (ab (aa 4) ae)) (aa 3) (by with_unfolding_all rfl)) ae)) (fun _ _=>rfl)))))))) (az (fg PassesOwn.never rfl (b9 (lB (aI (aa 0) af (fun _ _=>rfl)) rfl T.z_enumerate)) (gd rfl (bu (aZ dc.nd rfl (Or.inl rfl)) (bu (gd rfl (bu (aZ dc.nd rfl (Or.inl rfl)) (bu (aZ dc.nd rfl (Or.inl rfl)) (bu (aZ dc.nd rfl (Or.inl rfl)) er)))) er))) (az (bU dc.nd rfl (Or.inl rfl) (lC (bj oy hr (by decide) rfl (ab (aa 10) (ab (bz (bS rfl (bt.of (own:=["one"]) (kp:=[4]) (kn:=["wires"]) (sc:=jV.1) (N:=gY) rfl rfl (by decide+kernel)) (bE (aa 11)) (fun _ _ _=>(aG (show List.Nodup [(Str.ofString "one"),"wires"] from by decide+kernel) rfl (Or.inl rfl))) (fun _ _ _=>bN) (fun _ _ _=>(aI (aa 1) (aa 0) (fun _ _=>rfl))))) ae)) (ay (ay bA))))) (bo (lg rfl (Or.inr (Or.inl rfl)) (aq (aI (bz (cB (ab (aa 7) (ab (au mW af (aa 7)) ae)))) (eL s_ rfl T.z_int PyProof.Rows.boot_int (ab (j3 D2 (aa 9) (aa 2) (by with_unfolding_all rfl)) ae)) (fun _ _=>rfl))))))) (bo (eg (ya rfl (bt.of (own:=["name","own"]) (kp:=[4]) (kn:=["wires"]) (sc:=jV.1) (N:=gY) rfl rfl (by decide+kernel)) (b9 (bE (aI (aa 0) af (fun _ _=>rfl)))) (fun _ _ _=>(gd rfl (bu (aZ (show List.Nodup [(Str.ofString "name"),"own","wires"] from by decide+kernel) rfl (Or.inl rfl)) (bu (aZ (show List.Nodup [(Str.ofString "name"),"own","wires"] from by decide+kernel) rfl (Or.inl rfl)) er)))) (fun _ _ _=>nF) (fun _ _ _=>(lC (eL sx rfl T.z_tuple PyProof.Rows.boot_tuple (ab (bz (bS rfl (bt.of (own:=["one"]) (kp:=[2]) (kn:=["wires"]) rfl rfl rfl) (bE (aa 1)) (fun _ _ _=>(aG (show List.Nodup [(Str.ofString "one"),"wires"] from by decide+kernel) rfl (Or.inl rfl))) (fun _ _ _=>bN) (fun _ _ _=>(aI (aa 1) (aa 0) (fun _ _=>rfl))))) ae))))))))))),hm,F.kp,F.binds fun _ _ _ _ _ _ us hl=>match us,hl with | [_,_,_,_],_=>rfl⟩
abbrev e6:Stmt:=top 29
noncomputable abbrev jU:List Str:=["many"]
noncomputable def q9:{b:List Stmt // aM e6=b}:=⟨_,by conv=>lhs;whnf⟩
noncomputable def ja:{b:Scope // av e6=b}:=⟨_,by conv=>lhs;whnf⟩
theorem sU:aX jU ["many"] ja.1:=⟨rfl,rfl,rfl,by decide+kernel,rfl,by decide+kernel,by decide+kernel⟩
def mV:FS:=(eu (eNew (cx (c9 (e2 Eg (eC (.int 1)) (ag 0))) (aA 0) i7 (eNew (cx (c9 (ag 1)) (aA 0) i7 (e2 A5 (e2 ug (ag 1) (e2 ny (e2 ny (ag 2) (eC (.int 1))) (ag 0))) (eC (.int 1))) ["k"] [0,1])) ["number"] [0])))
def e8:List D->R D:=pj jU mV
theorem tu(T:Tp K mg cl)(h:Def K mg "_law_inputs" e6):Callee P w K mg base 1 "_law_inputs" 1 e8:=by
 obtain⟨f,fd,F,hm⟩:=h;exact⟨f,fd,_,bO (k:=0) q9.2 ja.2 F sU (fun dC A outer s H E hr=>(aL (bf (bz (bS rfl (bt.of (own:=["number"]) (kp:=[0]) (kn:=["many"]) (sc:=ja.1) (N:=jU) rfl rfl (by decide+kernel)) (bF (au Jx af (aa 0)) rfl T.z_range) (fun _ _ _=>(aG (show List.Nodup [(Str.ofString "number"),"many"] from by decide+kernel) rfl (Or.inr rfl))) (fun _ _ _=>bN) (fun _ _ _=>(bz (bS rfl (bt.of (own:=["k"]) (kp:=[0,1]) (kn:=["number","many"]) rfl rfl rfl) (bF (aa 1) rfl T.z_range) (fun _ _ _=>(aG (show List.Nodup [(Str.ofString "k"),"number","many"] from by decide+kernel) rfl (Or.inl rfl))) (fun _ _ _=>bN) (fun _ _ _=>(au yN (au Cc (aa 1) (au mW (au mW (aa 2) af) (aa 0))) af)))))))))),hm,F.kp,F.binds fun _ _ _ _ _ _ us hl=>match us,hl with | [_],_=>rfl⟩
abbrev cV:Stmt:=top 30
noncomputable abbrev eZ:List Str:=["due","found","right","own"]
noncomputable def mq:{b:List Stmt // aM cV=b}:=⟨_,by conv=>lhs;whnf⟩
noncomputable def eJ:{b:Scope // av cV=b}:=⟨_,by conv=>lhs;whnf⟩
theorem eT:aX eZ ["due","found"] eJ.1:=⟨rfl,rfl,rfl,by decide+kernel,rfl,by decide+kernel,by decide+kernel⟩
def el:FS:=(vm (b2 Jk (aQ jb (ah (eNew (cx (c9 (eC (.int 3))) (aA 0) (b2 yW (e2 cn (ag 1) (ag 0)) (e2 cn (ag 2) (ag 0))) (ag 0) ["k"] [2,3])) aD)) (eC (.int 1))) (eu (eC (.bl true))) nB)
def iK:FS:=(dJ (nX (xo (ag 0) (ag 1)) (hJ 2 (bR (aA 2) (bR (aA 3) ia))) el) (eu (eC (.bl false))))
def cO:List D->R D:=pj eZ iK
theorem mZ(T:Tp K mg cl)(h:Def K mg "_law_twice_wrong" cV):Callee P w K mg base 1 "_law_twice_wrong" 2 cO:=by
 obtain⟨f,fd,F,hm⟩:=h;exact⟨f,fd,_,bO (k:=0) mq.2 eJ.2 F eT (fun dC A outer s H E hr=>(aN (fu PassesOwn.never rfl (pY (aa 0) (aa 1) rfl T.z_zip) (h_ rfl (bL (aG eT.nd rfl (Or.inr rfl)) (bL (aG eT.nd rfl (Or.inr rfl)) fU))) (aL (fq (cA IB (bb gO rfl T.z_len PySem.boot_len (ab (bz (bS rfl (bt.of (own:=["k"]) (kp:=[2,3]) (kn:=["right","own"]) (sc:=eJ.1) (N:=eZ) rfl rfl (by decide+kernel)) (bF af rfl T.z_range) (fun _ _ _=>(aG (show List.Nodup [(Str.ofString "k"),"right","own"] from by decide+kernel) rfl (Or.inl rfl))) (fun _ _ _=>(qB (cA (Al hr.units) (aI (aa 1) (aa 0) (fun _ _=>rfl)) (aI (aa 2) (aa 0) (fun _ _=>rfl)) (cN _)))) (fun _ _ _=>(aa 0)))) ae)) af (cN _)) (aL (bf tT)) dU))) (aL (bf tT)))),hm,F.kp,F.binds fun _ _ _ _ _ _ us hl=>match us,hl with | [_,_],_=>rfl⟩
abbrev dZ:Stmt:=top 31
noncomputable abbrev dS:List Str:=["many","found","place","longer","bad"]
noncomputable def o_:{b:List Stmt // aM dZ=b}:=⟨_,by conv=>lhs;whnf⟩
noncomputable def eI:{b:Scope // av dZ=b}:=⟨_,by conv=>lhs;whnf⟩
theorem cI:aX dS ["many"] eI.1:=⟨rfl,rfl,rfl,by decide+kernel,rfl,by decide+kernel,by decide+kernel⟩
def fT:FS:=(jC 3 (e2 jB (e2 jB (ag 3) (eNew (fK (ah (ag 4) aD)))) (eNew (cx (c9 (eC (.int 3))) (aA 0) i7 (e2 jB (ag 2) (bZ (ah (e2 jB (e2 km (eC (.int 3)) (ag 1)) (ag 0)) aD))) ["wire"] [2,4]))))
def fS:FS:=(dJ (jC 3 (eNew (fK aD))) (dJ (nX (cM (ag 1)) (aA 4) fT) (jC 1 (ag 3))))
def kN:FS:=(dJ (jC 1 (eNew (fK (ah (bZ aD) aD)))) (dJ (nX (c9 (ag 0)) (aA 2) fS) (eu (aQ tY (ah (eNew (cx (cM (ag 1)) (aA 0) i7 (bZ (ah (aQ jb (ah (ag 0) aD)) (ah (ag 0) aD))) ["bad"] [])) aD)))))
def d3:List D->R D:=pj dS kN
theorem qD(T:Tp K mg cl)(h:Def K mg "_law_bad_sets" dZ):Callee P w K mg base 1 "_law_bad_sets" 1 d3:=by
 obtain⟨f,fd,F,hm⟩:=h;exact⟨f,fd,_,bO (k:=0) o_.2 eI.2 F cI (fun dC A outer s H E hr=>(aN (cK cI.nd rfl (Or.inl rfl) (bz (cB (ab (aO ae) ae)))) (aN (fu PassesOwn.never rfl (bF (aa 0) rfl T.z_range) (aG cI.nd rfl (Or.inr rfl)) (aN (cK cI.nd rfl (Or.inl rfl) (bz (cB ae))) (aN (fu PassesOwn.never rfl (bE (aa 1)) (aG cI.nd rfl (Or.inr rfl)) (aL (cK cI.nd rfl (Or.inl rfl) (au kB (au kB (aa 3) (bz (cB (ab (aa 4) ae)))) (bz (bS rfl (bt.of (own:=["wire"]) (kp:=[2,4]) (kn:=["place","bad"]) (sc:=eI.1) (N:=dS) rfl rfl (by decide+kernel)) (bF af rfl T.z_range) (fun _ _ _=>(aG (show List.Nodup [(Str.ofString "wire"),"place","bad"] from by decide+kernel) rfl (Or.inl rfl))) (fun _ _ _=>bN) (fun _ _ _=>(au kB (aa 2) (aO (ab (au kB (au kD af (aa 1)) (aa 0)) ae)))))))))) (aL (cK cI.nd rfl (Or.inl rfl) (aa 3)))))) (aL (bf (bb (DN hr.units) rfl T.z_sorted PyProof.Rows.boot_sorted (ab (bz (bS rfl (bt.of (own:=["bad"]) (kp:=[]) (kn:=[]) (sc:=eI.1) (N:=dS) rfl rfl (by decide+kernel)) (bE (aa 1)) (fun _ _ _=>(aG (show List.Nodup [(Str.ofString "bad")] from by decide+kernel) rfl (Or.inl rfl))) (fun _ _ _=>bN) (fun _ _ _=>(aO (ab (bb gO rfl T.z_len PySem.boot_len (ab (aa 0) ae)) (ab (aa 0) ae)))))) ae))))))),hm,F.kp,F.binds fun _ _ _ _ _ _ us hl=>match us,hl with | [_],_=>rfl⟩
abbrev jv:Stmt:=top 32
noncomputable abbrev eR:List Str:=["net","inputs","right","number","sets","bad","turned","bits"]
noncomputable def wV:{b:List Stmt // aM jv=b}:=⟨_,by conv=>lhs;whnf⟩
noncomputable def fR:{b:Scope // av jv=b}:=⟨_,by conv=>lhs;whnf⟩
theorem dF:aX eR ["net"] fR.1:=⟨rfl,rfl,rfl,by decide+kernel,rfl,by decide+kernel,by decide+kernel⟩
def kJ:FZ:=(E7 (bP (b2 yW (eNew (cx (cM (e2 cn (ag 2) (ag 3))) (aA 0) (b2 Bd (ag 0) (eNew (fK (ah (bZ (ah (eC (.int 0)) (ah (eC (.int 0)) (ah (eC (.int 0)) aD)))) (ah (bZ (ah (eC (.int 1)) (ah (eC (.int 1)) (ah (eC (.int 1)) aD)))) aD))))) (ag 0) ["own"] [])) (eNew (fK aD)))) (kq (xP (bZ (ah (eC (.str "loses")) (ah (bZ aD) (ah (bZ aD) (ah (ag 3) aD))))))) vc)
def kG:FZ:=(E7 (CZ (tL cO (br (xP (e2 cn (ag 2) (ag 3))) (br (jm g9 (br (xP (ag 0)) (br (xP (ag 7)) (br (xP (ag 6)) (br (xP (ag 5)) gy))))) gy)))) (kq (xP (bZ (ah (eC (.str "loses")) (ah (ag 5) (ah (ag 6) (ah (ag 3) aD))))))) vc)
def kL:FZ:=(lL (iP (hX (ag 1))) (zK 2 (qN (lZ 3) (qN (lZ 7) Bl))) kG)
def nE:FZ:=(cm (dW 1 (xP (aQ e8 (ah (aQ jb (ah (e2 cn (ag 0) (eC (.int 0))) aD)) aD)))) (cm (dW 2 (lX (iP (cM (ag 1))) (lZ 0) Bj (jm g9 (br (xP (ag 1)) (br (xP (ag 0)) (br (xP (bZ aD)) (br (xP (bZ aD)) gy))))) ["bits"] [0])) (cm (lL (iP (c9 (aQ jb (ah (ag 1) aD)))) (lZ 3) kJ) (cm (dW 4 (lX (iP (c9 (aQ jb (ah (e2 cn (ag 0) (eC (.int 1))) aD)))) (lZ 0) (bP (sJ (sG (e2 cn (e2 cn (e2 cn (ag 1) (eC (.int 1))) (ag 0)) (eC (.int 2)))))) (xP (bZ (ah (bZ aD) (ah (bZ (ah (ag 0) aD)) aD)))) ["place"] [0])) (cm (dW 4 (xP (e2 iY (ag 4) (eNew (cx (cM (aQ d3 (ah (aQ jb (ah (e2 cn (ag 0) (eC (.int 0))) aD)) aD))) (hJ 2 (bR (aA 0) (bR (aA 1) ia))) i7 (bZ (ah (ag 1) (ah (bZ aD) aD))) ["many","bad"] []))))) (cm (lL (iP (cM (ag 4))) (zK 2 (qN (lZ 5) (qN (lZ 6) Bl))) kL) (kq (xP (bZ (ah (eC (.str "keeps")) aD))))))))))
def we:List V3->bc->R3 V3:=qC eR nE
def jY:List V3->bc->R3 V3:=rF eR nE
theorem y4(T:Tp K mg cl)(h:Def K mg "_law_due" jv)(j8:Callee P w K mg base 1 "_law_inputs" 1 e8)(iB:Callee P w K mg base 1 "_law_bad_sets" 1 d3)(fA:Callee P w K mg base 1 "_law_twice_wrong" 2 cO)(j6:cR P w K mg base cl 2 "_law_run" 4 g9):cR P w K mg base cl 3 "_law_due" 1 we:=by
 obtain⟨f,fd,F,hm⟩:=h;exact⟨f,fd,_,dw (k:=2) wV.2 fR.2 F dF (fun dC A outer s H E hr=>(az (bU dF.nd rfl (Or.inl rfl) (aq (bj j8 hr (by decide) rfl (ab (bb gO rfl T.z_len PySem.boot_len (ab (aI (aa 0) af (fun _ _=>rfl)) ae)) ae) (ay bA)))) (az (mj rfl dF.nd rfl rfl (bt.of (own:=["bits"]) (kp:=[0]) (kn:=["net"]) (sc:=fR.1) (N:=eR) rfl rfl (by decide+kernel)) (b9 (bE (aa 1))) (fun _ _ _=>(aZ (show List.Nodup [(Str.ofString "bits"),"net"] from by decide+kernel) rfl (Or.inl rfl))) (fun _ _ _=>nF) (fun _ _ _=>(fm j6 hr (by decide) rfl (aF (aq (aa 1)) (aF (aq (aa 0)) (aF (aq (aO ae)) (aF (aq (aO ae)) cv)))) (aH (aH (aH (aH bY))))))) (az (fg PassesOwn.never rfl (b9 (bF (bb gO rfl T.z_len PySem.boot_len (ab (aa 1) ae)) rfl T.z_range)) (aZ dF.nd rfl (Or.inl rfl)) (bo (rX (jo (cA (Al hr.units) (bz (bS rfl (bt.of (own:=["own"]) (kp:=[]) (kn:=[]) (sc:=fR.1) (N:=eR) rfl rfl (by decide+kernel)) (bE (aI (aa 2) (aa 3) (fun _ _=>rfl))) (fun _ _ _=>(aG (show List.Nodup [(Str.ofString "own")] from by decide+kernel) rfl (Or.inl rfl))) (fun _ _ _=>(qB (cA (Ip hr.units) (aa 0) (bz (cB (ab (aO (ab af (ab af (ab af ae)))) (ab (aO (ab af (ab af (ab af ae)))) ae)))) (by with_unfolding_all rfl)))) (fun _ _ _=>(aa 0)))) (bz (cB ae)) (cN _))) (bo (eg (aq (aO (ab bW (ab (aO ae) (ab (aO ae) (ab (aa 3) ae)))))))) lH))) (az (mj rfl dF.nd rfl rfl (bt.of (own:=["place"]) (kp:=[0]) (kn:=["net"]) (sc:=fR.1) (N:=eR) rfl rfl (by decide+kernel)) (b9 (bF (bb gO rfl T.z_len PySem.boot_len (ab (aI (aa 0) af (fun _ _=>rfl)) ae)) rfl T.z_range)) (fun _ _ _=>(aZ (show List.Nodup [(Str.ofString "place"),"net"] from by decide+kernel) rfl (Or.inl rfl))) (fun _ _ _=>(um (jo (tE (tO (aI (aI (aI (aa 1) af (fun _ _=>rfl)) (aa 0) (fun _ _=>rfl)) af (fun _ _=>rfl))))))) (fun _ _ _=>(aq (aO (ab (aO ae) (ab (aO (ab (aa 0) ae)) ae)))))) (az (bU dF.nd rfl (Or.inl rfl) (aq (au iJ (aa 4) (bz (bS rfl (bt.of (own:=["many","bad"]) (kp:=[]) (kn:=[]) (sc:=fR.1) (N:=eR) rfl rfl (by decide+kernel)) (bE (bj iB hr (by decide) rfl (ab (bb gO rfl T.z_len PySem.boot_len (ab (aI (aa 0) af (fun _ _=>rfl)) ae)) ae) (ay bA))) (fun _ _ _=>(h_ rfl (bL (aG (show List.Nodup [(Str.ofString "many"),"bad"] from by decide+kernel) rfl (Or.inl rfl)) (bL (aG (show List.Nodup [(Str.ofString "many"),"bad"] from by decide+kernel) rfl (Or.inl rfl)) fU)))) (fun _ _ _=>bN) (fun _ _ _=>(aO (ab (aa 1) (ab (aO ae) ae))))))))) (az (fg PassesOwn.never rfl (b9 (bE (aa 4))) (gd rfl (bu (aZ dF.nd rfl (Or.inl rfl)) (bu (aZ dF.nd rfl (Or.inl rfl)) er))) (bo (fg PassesOwn.never rfl (b9 (lB (aa 1) rfl T.z_enumerate)) (gd rfl (bu (aZ dF.nd rfl (Or.inl rfl)) (bu (aZ dF.nd rfl (Or.inl rfl)) er))) (bo (rX (Ao (vt fA hr (by decide) rfl (aF (aq (aI (aa 2) (aa 3) (fun _ _=>rfl))) (aF (fm j6 hr (by decide) rfl (aF (aq (aa 0)) (aF (aq (aa 7)) (aF (aq (aa 6)) (aF (aq (aa 5)) cv)))) (aH (aH (aH (aH bY))))) cv)) (aH (aH bY)))) (bo (eg (aq (aO (ab bW (ab (aa 5) (ab (aa 6) (ab (aa 3) ae)))))))) lH))))) (bo (eg (aq (aO (ab bW ae)))))))))))),hm,F.kp,F.binds fun _ _ _ _ _ _ us hl=>match us,hl with | [_],_=>rfl⟩
abbrev jt:Stmt:=top 33
noncomputable abbrev jJ:List Str:=["script","head","many","gates","cell","number","kind","count","some","outs","k","first"]
noncomputable def w9:{b:List Stmt // aM jt=b}:=⟨_,by conv=>lhs;whnf⟩
noncomputable def mf:{b:Scope // av jt=b}:=⟨_,by conv=>lhs;whnf⟩
theorem cb:aX jJ ["script"] mf.1:=⟨rfl,rfl,rfl,by decide+kernel,rfl,by decide+kernel,by decide+kernel⟩
def kW:FZ:=(cm (dW 5 (xP (aQ cH (ah (ag 4) (ah (eC (.int 0)) aD))))) (cm (dW 6 (xP (e2 cn (eNew (fK (ah (eC (.str "and")) (ah (eC (.str "or")) (ah (eC (.str "xor")) (ah (eC (.str "vote")) (ah (eC (.str "not")) aD))))))) (e2 jA (ag 5) (eC (.int 5)))))) (cm (dW 7 (xT (e2 iY (e2 km (eC (.int 3)) (ag 2)) (aQ jb (ah (ag 3) aD))))) (cm (dW 8 (lX (iP (c9 (Aa [((Sum.inr "not":Key),V.int 1),((Sum.inr "vote":Key),V.int 3)] (ag 6) (eC (.int 2))))) (lZ 0) Bj (xP (e2 jA (aQ cH (ah (ag 1) (ah (e2 iY (eC (.int 1)) (ag 0)) aD))) (ag 2))) ["k"] [4,7])) (nG 3 (xP (bZ (ah (ag 6) (ah (aQ qv (ah (ag 8) aD)) (ah (e2 rm (e2 jA (e2 ni (ag 5) (eC (.int 5))) (eC (.int 3))) (eC (.int 0))) aD))))))))))
def kM:FZ:=(cm (dW 5 (xP (aQ cH (ah (ag 1) (ah (e2 iY (eC (.int 2)) (ag 10)) aD))))) (cm (dW 11 (xP (e2 ny (e2 ny (ag 7) (eC (.int 1))) (e2 jA (e2 ni (ag 5) (eC (.int 4))) (aQ uB (ah (ag 7) (ah (eC (.int 5)) aD))))))) (cm (dW 8 (xP (e2 cn (eNew (fK (ah (bZ (ah (ag 11) (ah (ag 11) (ah (ag 11) aD)))) (ah (bZ (ah (eC (.int 0)) (ah (eC (.int 1)) (ah (eC (.int 2)) aD)))) (ah (bZ (ah (ag 11) (ah (e2 jA (e2 iY (ag 11) (eC (.int 1))) (ag 7)) (ah (e2 jA (e2 iY (ag 11) (eC (.int 2))) (ag 7)) aD)))) aD))))) (e2 jA (ag 5) (eC (.int 3)))))) (nG 9 (xP (bZ (ah (e2 cn (eC (.str "uv")) (ag 10)) (ah (ag 8) aD))))))))
def nv:FZ:=(cm (dW 1 (xP (aQ eF (ah (ag 0) (ah (eC (.int 0)) aD))))) (cm (dW 2 (xP (e2 iY (eC (.int 1)) (e2 jA (aQ cH (ah (ag 1) (ah (eC (.int 0)) aD))) (eC (.int 2)))))) (cm (dW 3 (t5 (fK aD))) (cm (lL (iP (cM (HQ (ag 0) (pH (eC (.int 1))) (pH (eC (.int 9)))))) (lZ 4) kW) (vO 3 (cm (dW 9 (t5 (fK aD))) (cm (dW 7 (xP (e2 iY (e2 km (eC (.int 3)) (ag 2)) (aQ jb (ah (ag 3) aD))))) (cm (lL (iP (c9 (e2 iY (eC (.int 1)) (e2 jA (aQ cH (ah (ag 1) (ah (eC (.int 1)) aD))) (eC (.int 2)))))) (lZ 10) kM) (vO 9 (kq (xP (bZ (ah (HQ (eNew (fK (ah (bZ (ah (eC (.str "a")) (ah (eC (.int 3)) aD))) (ah (bZ (ah (eC (.str "b")) (ah (eC (.int 3)) aD))) aD)))) Bg (pH (ag 2))) (ah (ag 3) (ah (ag 9) aD)))))))))))))))
def wY:List V3->bc->R3 V3:=qC jJ nv
def l9:List V3->bc->R3 V3:=rF jJ nv
theorem yM(T:Tp K mg cl)(h:Def K mg "_law_net" jt)(jd:Callee P w K mg base 1 "_law_cell_at" 2 eF)(eQ:Callee P w K mg base 1 "_law_stir" 2 cH):cR P w K mg base cl 2 "_law_net" 1 wY:=by
 obtain⟨f,fd,F,hm⟩:=h;exact⟨f,fd,_,dw (k:=1) w9.2 mf.2 F cb (fun dC A outer s H E hr=>(az (bU cb.nd rfl (Or.inl rfl) (aq (bj jd hr (by decide) rfl (ab (aa 0) (ab af ae)) (ay (ay bA))))) (az (bU cb.nd rfl (Or.inl rfl) (aq (au iJ af (au iO (bj eQ hr (by decide) rfl (ab (aa 1) (ab af ae)) (ay (ay bA))) af)))) (az (bU cb.nd rfl (Or.inl rfl) (ml (cB ae))) (az (fg PassesOwn.never rfl (b9 (bE (z9 (aa 0) (qq af) (qq af)))) (aZ cb.nd rfl (Or.inr rfl)) (az (bU cb.nd rfl (Or.inl rfl) (aq (bj eQ hr (by decide) rfl (ab (aa 4) (ab af ae)) (ay (ay bA))))) (az (bU cb.nd rfl (Or.inl rfl) (aq (aI (bz (cB (ab bW (ab bW (ab bW (ab bW (ab bW ae))))))) (au iO (aa 5) af) (fun _ _=>rfl)))) (az (bU cb.nd rfl (Or.inr rfl) (lC (au iJ (au kD af (aa 2)) (bb gO rfl T.z_len PySem.boot_len (ab (aa 3) ae))))) (az (mj rfl cb.nd rfl rfl (bt.of (own:=["k"]) (kp:=[4,7]) (kn:=["cell","count"]) (sc:=mf.1) (N:=jJ) rfl rfl (by decide+kernel)) (b9 (bF (Dj (Iv hr) (ng qo pO (ng qo pO xx)) rfl rfl (by simp) (fun _ _ _ h=>h) (by decide) (aa 6) af ⟨rfl,rfl,rfl,rfl⟩ (Ea (ng qo pO (ng qo pO xx)) rfl rfl (by simp) (by decide))) rfl T.z_range)) (fun _ _ _=>(aZ (show List.Nodup [(Str.ofString "k"),"cell","count"] from by decide+kernel) rfl (Or.inl rfl))) (fun _ _ _=>nF) (fun _ _ _=>(aq (au iO (bj eQ hr (by decide) rfl (ab (aa 1) (ab (au iJ af (aa 0)) ae)) (ay (ay bA))) (aa 2))))) (bo (lg rfl (Or.inl rfl) (aq (aO (ab (aa 6) (ab (eL sx rfl T.z_tuple PyProof.Rows.boot_tuple (ab (aa 8) ae)) (ab (j3 (m7 hr.units) (au iO (au tm (aa 5) af) af) af (cN _)) ae)))))))))))) (tW 3 (az (bU cb.nd rfl (Or.inl rfl) (ml (cB ae))) (az (bU cb.nd rfl (Or.inr rfl) (aq (au iJ (au kD af (aa 2)) (bb gO rfl T.z_len PySem.boot_len (ab (aa 3) ae))))) (az (fg PassesOwn.never rfl (b9 (bF (au iJ af (au iO (bj eQ hr (by decide) rfl (ab (aa 1) (ab af ae)) (ay (ay bA))) af)) rfl T.z_range)) (aZ cb.nd rfl (Or.inl rfl)) (az (bU cb.nd rfl (Or.inl rfl) (aq (bj eQ hr (by decide) rfl (ab (aa 1) (ab (au iJ af (aa 10)) ae)) (ay (ay bA))))) (az (bU cb.nd rfl (Or.inl rfl) (aq (au mW (au mW (aa 7) af) (au iO (au tm (aa 5) af) (bb (zR rfl) rfl T.z_min PyProof.Rows.boot_min (ab (aa 7) (ab af ae))))))) (az (bU cb.nd rfl (Or.inl rfl) (aq (aI (bz (cB (ab (aO (ab (aa 11) (ab (aa 11) (ab (aa 11) ae)))) (ab (aO (ab af (ab af (ab af ae)))) (ab (aO (ab (aa 11) (ab (au iO (au iJ (aa 11) af) (aa 7)) (ab (au iO (au iJ (aa 11) af) (aa 7)) ae)))) ae))))) (au iO (aa 5) af) (fun _ _=>rfl)))) (bo (lg rfl (Or.inl rfl) (aq (aO (ab (aI bW (aa 10) (fun _ _=>rfl)) (ab (aa 8) ae)))))))))) (tW 9 (bo (eg (aq (aO (ab (z9 (bz (cB (ab (aO (ab bW (ab af ae))) (ab (aO (ab bW (ab af ae))) ae)))) Bq (qq (aa 2))) (ab (aa 3) (ab (aa 9) ae))))))))))))))))),hm,F.kp,F.binds fun _ _ _ _ _ _ us hl=>match us,hl with | [_],_=>rfl⟩
abbrev xr:Stmt:=top 34
noncomputable abbrev mH:List Str:=["script","net","sure"]
noncomputable def Gy:{b:List Stmt // aM xr=b}:=⟨_,by conv=>lhs;whnf⟩
noncomputable def vX:{b:Scope // av xr=b}:=⟨_,by conv=>lhs;whnf⟩
theorem BU:aX mH ["script"] vX.1:=⟨rfl,rfl,rfl,by decide+kernel,rfl,by decide+kernel,by decide+kernel⟩
def pS:FZ:=(cm (dW 1 (jm l9 (br (xP (ag 0)) gy))) (cm (E7 (KR yW (jm mM (br (xP (ag 1)) gy)) (jm jY (br (xP (ag 1)) gy))) (kq (xP (eC (.bl false)))) vc) (cm (dW 2 (xP (bZ (ah (e2 cn (ag 1) (eC (.int 0))) (ah (eNew (cx (cM (e2 cn (ag 1) (eC (.int 1)))) (hJ 3 (bR (aA 0) (bR (aA 1) (bR (aA 2) ia)))) i7 (bZ (ah (ag 0) (ah (ag 1) (ah (eC (.bl true)) aD)))) ["kind","wires","one"] [])) (ah (e2 cn (ag 1) (eC (.int 2))) aD)))))) (kq (x2 rm (jm mM (br (xP (ag 2)) gy)) (jm jY (br (xP (ag 2)) gy)))))))
def KD:List V3->bc->R3 V3:=qC mH pS
def K1:List V3->bc->R3 V3:=rF mH pS
def xy:List D->R D:=J9 mH pS
structure Cf (K:W.Frag) (mg:Rt) (cl:Ru):Prop where
 C_Bench:vE K (cl 0)
 N_Bench_net:dY K (cl 0) "net"
 N_Bench_many_inputs:dY K (cl 0) "many_inputs"
 N_Bench_full:dY K (cl 0) "full"
 N_Bench_in_masks:dY K (cl 0) "in_masks"
 M_Bench:mg "Bench"=some (.ref (cl 0))
 dk:Gs K (cl 0) "__init__" "Bench.__init__" bB
 eG:zw K (cl 0) "tells" "Bench.tells" cj
 cW:zw K (cl 0) "inputs_in" "Bench.inputs_in" bx
theorem ID{K:W.Frag}{h:Heap}{mg:Rt}(X:K.In h)(G:h.Ns mainGlobals mg){C0:Addr}{f0:Addr}{Qi Po:Option Addr}{PF:Array (Option Value)}{Qb Pt Qc Qj NJ Qk:Value}{f1:Addr}{Qm Qo:Option Addr}{P1:Array (Option Value)}{Py PH PR P8 NF P9:Value}{f2:Addr}{Pz Pq:Option Addr}{CM:Array (Option Value)}{PY PV Pn Qu NL Ql:Value}(LW:PySem.W.nsIn K mainGlobals "Bench"=some (some (.ref C0)))(Mg:PySem.W.plainGet K C0 Str.empty=true)(Ml:PySem.W.hasDictIn K C0=true)(LQ:PySem.W.plainOver K C0=true)(Mi:PySem.W.findIn K (.ref C0) "__setattr__"=some (some (.builtin "object.__setattr__")))(L4:PySem.W.makesIn K C0=true)(Md:PySem.W.keepIn K (.ref C0)=true)(xi:PySem.W.findIn K (.ref C0) "net"=some none)(iz:PySem.W.findIn K (.ref C0) "many_inputs"=some none)(t8:PySem.W.findIn K (.ref C0) "full"=some none)(lq:PySem.W.findIn K (.ref C0) "in_masks"=some none)(f_:PySem.W.findIn K (.ref C0) "__init__"=some (some (.ref f0)))(f9:PySem.W.isFn K (.ref f0)=true)(fY:K.lookup f0=some ⟨Qb,Qi, .func (PySem.W.fnOf "__init__" "Bench.__init__" (iI bB) (aM bB) (av bB) .none Pt Qc Qj Po NJ Qk),PF⟩)(dg:PySem.W.codeIn K NJ "Bench.__init__"=true)(f6:PySem.W.keepIn K (.ref f0)=true)(ji:PySem.W.findIn K (.ref C0) "tells"=some (some (.ref f1)))(jg:PySem.W.isFn K (.ref f1)=true)(je:K.lookup f1=some ⟨Py,Qm, .func (PySem.W.fnOf "tells" "Bench.tells" (iI cj) (aM cj) (av cj) .none PH PR P8 Qo NF P9),P1⟩)(eA:PySem.W.codeIn K NF "Bench.tells"=true)(gn:PySem.W.keepIn K (.ref f1)=true)(fB:PySem.W.findIn K (.ref C0) "inputs_in"=some (some (.ref f2)))(fE:PySem.W.isFn K (.ref f2)=true)(fI:K.lookup f2=some ⟨PY,Pz, .func (PySem.W.fnOf "inputs_in" "Bench.inputs_in" (iI bx) (aM bx) (av bx) .none PV Pn Qu Pq NL Ql),CM⟩)(cS:PySem.W.codeIn K NL "Bench.inputs_in"=true)(dQ:PySem.W.keepIn K (.ref f2)=true):∃cl,Cf K mg cl:=by
 exact⟨fun n=>C0,⟨Mg,Ml,LQ,Mi⟩,xi,iz,t8,lq,PySem.W.mg_of X G LW,⟨_,_,tP (st:=bB) fY dg f6,⟨L4,f_,f9,Md⟩⟩,⟨_,_,tP (st:=cj) je eA gn,⟨ji,jg,gn⟩⟩,⟨_,_,tP (st:=bx) fI cS dQ,⟨fB,fE,dQ⟩⟩⟩
theorem GG{K:W.Frag}{mg:Rt}{f:Addr}{fd:FuncData}{cl:Ru}(T:Tp K mg cl)(j5:Def K mg "has_widths" eU)(om:Def K mg "vote_of" jz)(lz:Def K mg "gate_mask" gA)(gL:Def K mg "in_wire_masks" dv)(mD:Def K mg "masks_at" ie)(j_:Def K mg "wire_masks" fw)(lx:Def K mg "out_masks" gq)(qK:Def K mg "bit_at" k9)(ke:Def K mg "all_inputs" fj)(oq:Def K mg "mask_of" js)(oi:Def K mg "in_mask" jE)(lr:Def K mg "unlike_at" gx)(og:Def K mg "lost_at" ju)(mE:Def K mg "bad_sets" ij)(f7:Def K mg "keeping_faults" di)(dk:Gs K (cl 0) "__init__" "Bench.__init__" bB)(eG:zw K (cl 0) "tells" "Bench.tells" cj)(cW:zw K (cl 0) "inputs_in" "Bench.inputs_in" bx)(uc:Def K mg "keeps" mU)(jj:Def K mg "_law_cell_at" eE)(mC:Def K mg "_law_stir" ip)(oa:Def K mg "_law_bit" jr)(ot:Def K mg "_law_run" jy)(j9:Def K mg "_law_inputs" e6)(fH:Def K mg "_law_twice_wrong" cV)(iA:Def K mg "_law_bad_sets" dZ)(oz:Def K mg "_law_due" jv)(oh:Def K mg "_law_net" jt)(F:yh K "law" "law" xr f fd):gR P w K mg base q8 11 f fd ["script"] (B7 K 1 xy):=by
 have j7:=sE (P:=P) (w:=w) (base:=base) T j5;have gZ:=zh (P:=P) (w:=w) (base:=base) T om;have lp:=uz (P:=P) (w:=w) (base:=base) T lz gZ;have d_:=o4 (P:=P) (w:=w) (base:=base) T gL;have XP_in_wire_masks:=d_.p;have fX:=wF (P:=P) (w:=w) (base:=base) T mD;have XK_wire_masks:=sR (P:=P) (w:=w) (base:=base) T j_ fX lp d_;have jf:=XK_wire_masks.p;have XK_out_masks:=uY (P:=P) (w:=w) (base:=base) T lx fX;have ka:=XK_out_masks.p;have qI:=Au (P:=P) (w:=w) (base:=base) T qK;have XK_all_inputs:=tK (P:=P) (w:=w) (base:=base) T ke;have jh:=XK_all_inputs.p;have g6:=yO (P:=P) (w:=w) (base:=base) T oq;have oj:=zi (P:=P) (w:=w) (base:=base) T oi g6;have lu:=uU (P:=P) (w:=w) (base:=base) T lr;have ox:=yr (P:=P) (w:=w) (base:=base) T og gZ;have mF:=pK (P:=P) (w:=w) (base:=base) T mE 7;have fZ:=nL (P:=P) (w:=w) (base:=base) T f7 mF;have fD:=dg (P:=P) (w:=w) (base:=base) T dk g6 oj jh;have XK_Bench_tells:=eA (P:=P) (w:=w) (base:=base) T eG jf ka;have fF:=XK_Bench_tells.p;have XK_Bench_inputs_in:=cS (P:=P) (w:=w) (base:=base) T cW qI;have du:=XK_Bench_inputs_in.p;have XK_keeps:=De (P:=P) (w:=w) (base:=base) T uc j7 lu fZ ox fD fF du;have XP_keeps:=XK_keeps.p;have jd:=qX (P:=P) (w:=w) (base:=base) T jj;have eQ:=wG (P:=P) (w:=w) (base:=base) T mC;have oy:=y1 (P:=P) (w:=w) (base:=base) T oa;have XK_law_run:=zk (P:=P) (w:=w) (base:=base) T ot oy;have j6:=XK_law_run.p;have j8:=tu (P:=P) (w:=w) (base:=base) T j9;have fA:=mZ (P:=P) (w:=w) (base:=base) T fH;have iB:=qD (P:=P) (w:=w) (base:=base) T iA;have XK_law_due:=y4 (P:=P) (w:=w) (base:=base) T oz j8 iB fA j6;have XP_law_due:=XK_law_due.p;have XK_law_net:=yM (P:=P) (w:=w) (base:=base) T oh jd eQ;have XP_law_net:=XK_law_net.p;exact(dw (cl:=cl) (N:=mH) (F:=pS) (k:=10) Gy.2 vX.2 F BU (fun dC A outer s H E hr=>(az (bU BU.nd rfl (Or.inl rfl) (fm XP_law_net hr (by decide) rfl (aF (aq (aa 0)) cv) (aH bY))) (az (rX (D5 (Al hr.units) (fm XP_keeps hr (by decide) rfl (aF (aq (aa 1)) cv) (aH bY)) (fm XP_law_due hr (by decide) rfl (aF (aq (aa 1)) cv) (aH bY)) (cN _)) (bo (eg (aq tT))) lH) (az (bU BU.nd rfl (Or.inl rfl) (aq (aO (ab (aI (aa 1) af (fun _ _=>rfl)) (ab (bz (bS rfl (bt.of (own:=["kind","wires","one"]) (kp:=[]) (kn:=[]) (sc:=vX.1) (N:=mH) rfl rfl (by decide+kernel)) (bE (aI (aa 1) af (fun _ _=>rfl))) (fun _ _ _=>(h_ rfl (bL (aG (show List.Nodup [(Str.ofString "kind"),"wires","one"] from by decide+kernel) rfl (Or.inl rfl)) (bL (aG (show List.Nodup [(Str.ofString "kind"),"wires","one"] from by decide+kernel) rfl (Or.inl rfl)) (bL (aG (show List.Nodup [(Str.ofString "kind"),"wires","one"] from by decide+kernel) rfl (Or.inl rfl)) fU))))) (fun _ _ _=>bN) (fun _ _ _=>(aO (ab (aa 0) (ab (aa 1) (ab tT ae))))))) (ab (aI (aa 1) af (fun _ _=>rfl)) ae)))))) (bo (eg (G7 (m7 hr.units) (fm XP_keeps hr (by decide) rfl (aF (aq (aa 2)) cv) (aH bY)) (fm XP_law_due hr (by decide) rfl (aF (aq (aa 2)) cv) (aH bY)) (cN _))))))))).imp fun _ _ _ _ h=>GS h
end K33
end
section
namespace K33
open PySem PySem.Spec PyProof.Rows L2 L3 MT
theorem CD{a:D}{r:List D}:cn (.tup (a ::r)) (.int 0)= .ok a:=sP (by rw[jQ (by omega) (by simp)];rfl)
theorem E4{a b:D}{r:List D}:cn (.tup (a ::b ::r)) (.int 1)= .ok b:=sP (by rw[jQ (by omega) (by simp)];rfl)
theorem Ja{a b c:D}{r:List D}:cn (.tup (a ::b ::c ::r)) (.int 2)= .ok c:=sP (by rw[jQ (by omega) (by simp)];rfl)
theorem DB{N:Nat}{a b c:M}:d8 [.tup [mI N a,mI N b,mI N c]]= .ok (mI N fun p=>(a p && b p) || (a p && c p) || (b p && c p)):=by
 unfold d8 n5;refine cw (bJ ?_);exact aj (aj (aj (aj rfl rfl CD) (aj rfl rfl E4) (qF N a b)) (aj (aj rfl rfl CD) (aj rfl rfl Ja) (qF N a c)) (uJ N _ _)) (aj (aj rfl rfl E4) (aj rfl rfl Ja) (qF N b c)) (uJ N _ _)
theorem I0(k j:Nat)(hk:k<=4)(hj:j<=4):rm (.str (kS k)) (.str (kS j))= .ok (.bl (decide (k=j))):=by
 show R.ok (D.bl (kS k==kS j))=_;congr 2
 revert hk hj
 have:∀a∈List.range 5,∀b∈List.range 5,(kS a==kS b)=decide (a=b):=by decide+kernel
 intro hk hj;exact this k (by rw[List.mem_range];omega) j (by rw[List.mem_range];omega)
theorem Eh{N kd:Nat}{xs:List M}(hk:kd<=4)(hx:xs.length=ar kd):gz [.str (kS kd), .tup (xs.map (mI N)),mI N one]= .ok (mI N fun p=>gv kd (xs.map (· p))):=by
 unfold gz oE;have q:∀j,j<=4->b2 rm (ag 0) (eC (.str (kS j))) (dt kA [.str (kS kd), .tup (xs.map (mI N)),mI N one])= .ok (decide (kd=j)):=fun j hj=>gp (a:= .str (kS kd)) (b:= .str (kS j)) rfl rfl (I0 kd j hk hj)
 have q0:=q 0 (by omega)
 have q1:=q 1 (by omega)
 have q2:=q 2 (by omega)
 have q3:=q 3 (by omega)
 match kd,hk,xs,hx with
 | 0,_,[a],_=>
   refine cw (NT.iR (oC q0 (bJ (aj (a:=mI N one) (b:=mI N a) rfl (aj rfl rfl CD) (EW N a)))))
 | 1,_,[a,b],_=>
   refine cw (bh (iG q0 rfl) (NT.iR (oC q1 (bJ (aj (aj rfl rfl CD) (aj rfl rfl E4) (qF N a b))))))
 | 2,_,[a,b],_=>
   refine cw (bh (iG q0 rfl) (bh (iG q1 rfl) (NT.iR (oC q2 (bJ (aj (aj rfl rfl CD) (aj rfl rfl E4) (uJ N a b)))))))
 | 3,_,[a,b],_=>
   refine cw (bh (iG q0 rfl) (bh (iG q1 rfl) (bh (iG q2 rfl) (NT.iR (oC q3 (bJ (aj (aj rfl rfl CD) (aj rfl rfl E4) (p7 N a b))))))))
 | 4,_,[a,b,c],_=>
   refine cw (bh (iG q0 rfl) (bh (iG q1 rfl) (bh (iG q2 rfl) (bh (iG q3 rfl) (bJ (ax (ds:=[.tup [mI N a,mI N b,mI N c]]) rfl DB))))))
theorem EY{N:Nat}{ws:List M}{ns:List Nat}(hn:∀n∈ns,n < ws.length)(hl:ns.length < 1000):eM [.lst (ws.map (mI N)), .tup (ns.map nI)]= .ok (.tup ((ns.map (g_ ws)).map (mI N))):=by
 have hz:sizeLine=16777216:=sizeLine_eq;unfold eM pW;refine cw (bJ (ax (ds:=[.lst ((ns.map (g_ ws)).map (mI N))]) (ao (cq (bQ (ds:=ns.map nI) (wd rfl) (by rw[List.length_map];omega) ?_)) rfl) rfl))
 rw[List.map_map];exact NT.bw nI _ fun n Mm=>⟨[.val (nI n), .val (.lst (ws.map (mI N)))],rfl,rfl,aj (a:= .lst (ws.map (mI N))) (b:=nI n) rfl rfl (GD (hn n Mm))⟩
def vY(N:Nat)(S:bc)(Ck dP Mc:D)(a5 a6 a7:Option V3):DE:=[some (.d Ck),some (.d dP),some (.d (mI N one)),some (.d Mc),some (.loc S.length),a5,a6,a7]
theorem Bn{N:Nat}{S:bc}{Ck dP:D}{bad:List Int}{a5 a7:Option V3}{b:M}{ws:List M}(hl:ws.length < 10000) :
 W3 (eY (vY N S Ck dP (.tup (bad.map .int)) a5 (some (.d (mI N b))) a7) (S++[.lst (ws.map (mI N))])) fun o S1=>o= .nx (vY N S Ck dP (.tup (bad.map .int)) a5 (some (.d (mI N b))) a7)/\S1=S++[SO.lst ((ws++[fun p=>b p !=bad.contains (ws.length:Int)]).map (mI N))]:=by
 have hz:sizeLine=16777216:=sizeLine_eq;unfold eY;refine oS (k:=S.length) rfl ⟨_,aR _ _⟩ (HC (d:=mI N fun p=>b p !=bad.contains (ws.length:Int)) ?_ rfl ⟨_,_,rfl,aR _ _,by rw[List.length_map];omega,rfl,?_⟩)
 .have h4:(df (S++[.lst (ws.map (mI N))]) (vY N S Ck dP (.tup (bad.map .int)) a5 (some (.d (mI N b))) a7))[4]? =some (.val (.lst (ws.map (mI N)))):=by
   unfold df vY;show some (match res (S++[.lst (ws.map (mI N))]) (.loc S.length) with | some d=>Sl.val d | none=> .un)=_
   unfold res;rw[aR]
  refine AO (b:=bad.contains (ws.length:Int)) (gp (a:= .int ws.length) (b:= .tup (bad.map .int)) (ax (ds:=[.lst (ws.map (mI N))]) (ao (by unfold ag;rw [h4]) rfl) (by rw[vZ,List.length_map])) rfl (sF _ _)) ?_
  rw[<-Ar];rfl
 .rw [cL,List.map_append];rfl
theorem uW{N:Nat}{S:bc}{ins:Rp}{bits:List M}{bad:List Int}(hb:bits.length=ins.length)(hi:ins.length < 100)(hw:∀x∈ins,x.2 < 100){Q:V3->bc->Prop}
 (h:Q (.loc S.length) (S++[.lst ((gQ ins bits bad ins.length).map (mI N))])) :
 W3 (de [.d (.lst (ins.map inD)), .d (.lst (bits.map (mI N))), .d (mI N one), .d (.tup (bad.map .int))] S) Q:=by
 have hz:sizeLine=16777216:=sizeLine_eq;unfold de;refine AY rfl ?_;simp only[dr,eH,List.map,List.length,List.replicate,List.cons_append,List.nil_append,Nat.reduceAdd,Nat.reduceSub];unfold gG;refine bC (cJ (by simp) (qb (ds:=[]) rfl ⟨_,rfl,?_⟩))
 simp only[List.set];refine bC (iT (kr (ds:=dy (bits.map (mI N))) rfl ?_));have big:∀i,i<=ins.length->(gQ ins bits bad i).length<=100*i:=by
  intro i NC
  induction i with
  | zero=>simp [gQ]
  | succ i ih=>
    have ih:=ih (by omega)
    have h1:ins[i]? =some ins[i]:=List.getElem?_eq_getElem (by omega)
    have h2:bits[i]? =some bits[i]:=List.getElem?_eq_getElem (by omega)
    unfold gQ;rw[h1,h2];show(jD bad bits[i] ins[i].2 (gQ ins bits bad i)).length<=_;rw[jK];have:=hw ins[i] (List.getElem_mem _);omega
 refine(dG (fun i δ S2=>(∃a b c,δ=vY N S (.lst (ins.map inD)) (.lst (bits.map (mI N))) (.tup (bad.map .int)) a b c)/\S2=S++[SO.lst ((gQ ins bits bad i).map (mI N))])
  ⟨⟨_,_,_,rfl⟩,rfl⟩ ?_).mono fun o S2 ⟨dj,kl,⟨a,b,c,xh⟩,hS⟩=>⟨dj,kl,?_⟩
 .rintro i v δ S2 hv ⟨⟨a,b,c,rfl⟩,rfl⟩;obtain⟨d,hd,rfl⟩:=xV hv;rw[List.getElem?_map] at hd;have hib:i < bits.length:=by
   have:=(List.getElem?_eq_some_iff.mp hv).1;simpa [dy] using this
  have h1:ins[i]? =some ins[i]:=List.getElem?_eq_getElem (by omega)
  have h2:bits[i]? =some bits[i]:=List.getElem?_eq_getElem hib;rw[h2] at hd;cases hd;refine⟨vY N S (.lst (ins.map inD)) (.lst (bits.map (mI N))) (.tup (bad.map .int)) (some (.d (.int i))) (some (.d (mI N bits[i]))) c,rfl,?_⟩;unfold iH;have hwi:=hw ins[i] (List.getElem_mem _);refine iT (kr (px (n:=ins[i].2) ?_ (by omega)) ?_)
  .refine aj (a:=inD ins[i]) (b:= .int 1) (aj (a:= .lst (ins.map inD)) (b:= .int i) rfl rfl (n_ ?_)) rfl rfl;rw[jQ (by omega) (by rw[List.length_map,Int.toNat_natCast];omega)]
   simp
  refine(dG (fun j δ S3=>(∃c,δ=vY N S (.lst (ins.map inD)) (.lst (bits.map (mI N))) (.tup (bad.map .int)) (some (.d (.int i))) (some (.d (mI N bits[i]))) c)/\S3=S++[SO.lst ((jD bad bits[i] j (gQ ins bits bad i)).map (mI N))])
   ⟨⟨_,rfl⟩,rfl⟩ ?_).mono fun o S3 ⟨JX,e3,⟨c3,Ci⟩,hS3⟩=>⟨JX,e3,⟨_,_,c3,Ci⟩,?_⟩
  .rintro j v δ S3 hv ⟨⟨c3,rfl⟩,rfl⟩;refine⟨_,rfl,?_⟩;have hj:j < ins[i].2:=by
    have:=(List.getElem?_eq_some_iff.mp hv).1
    rwa [List.length_map,gH,List.length_map,List.length_range] at this
   refine(Bn ?_).mono fun o S4 ⟨e4,e5⟩=>⟨_,e4,⟨_,rfl⟩,e5⟩
   rw[jK];have:=big i (by omega)
   omega
  .rw [hS3,List.length_map,gH,List.length_map,List.length_range];show _=S++[SO.lst ((match ins[i]?,bits[i]? with | some x,some b=>jD bad b x.2 (gQ ins bits bad i) | _,_=>gQ ins bits bad i).map (mI N))]
   rw[h1,h2]
 have hlen:((dy (bits.map (mI N))).map V3.d).length=ins.length:=by simp [dy,hb]
 rw[hlen] at hS;subst xh hS;exact il (w_var rfl ⟨_,rfl,h⟩)
section
variable {N:Nat} {ins:Rp} {gs:List Gt} {os:Rq} {bits:List M} {turned bad:List Int}
def vd(N:Nat)(S:bc)(nt dP tD bD:D)(a6 a7 a8:Option V3):DE:=[some (.d nt),some (.d dP),some (.d (mI N one)),some (.d tD),some (.d bD),some (.loc S.length),a6,a7,a8]
theorem yX{S:bc}{nt dP bD:D}{a8:Option V3}{g:Gt}{i:Nat}{ws:List M}(hg:yA ws.length g)(hl:ws.length < 20000) :
 W3 (ix (vd N S nt dP (.tup (turned.map .int)) bD (some (.d (.int i))) (some (.d (iX g))) a8) (S++[.lst (ws.map (mI N))])) fun o S1=>(∃c,o= .nx (vd N S nt dP (.tup (turned.map .int)) bD (some (.d (.int i))) (some (.d (iX g))) c))/\S1=S++[SO.lst ((ws++[fun p=>gF g ws p !=turned.contains (i:Int)]).map (mI N))]:=by
 have hz:sizeLine=16777216:=sizeLine_eq;have ha:=zV g.1;unfold ix;refine bC (cJ (by unfold vd;simp only[List.length_cons,List.length_nil];omega) (HC (d:=mI N (gF g ws)) ?_ rfl ⟨_,rfl,?_⟩))
 .have h5:(df (S++[.lst (ws.map (mI N))]) (vd N S nt dP (.tup (turned.map .int)) bD (some (.d (.int i))) (some (.d (iX g))) a8))[5]? =some (.val (.lst (ws.map (mI N)))):=by
   unfold df vd;show some (match res (S++[.lst (ws.map (mI N))]) (.loc S.length) with | some d=>Sl.val d | none=> .un)=_
   unfold res;rw[aR]
  refine(ax (ds:=[.str (kS g.1), .tup ((g.2.1.map (g_ ws)).map (mI N)),mI N one]) (ao (aj (a:=iX g) (b:= .int 0) rfl rfl rfl) (ao ?_ (ao rfl rfl))) (Eh hg.1 (by rw[List.length_map];exact hg.2.1))).trans ?_
  .exact ax (ds:=[.lst (ws.map (mI N)), .tup (g.2.1.map nI)]) (ao (by unfold ag;rw [h5]) (ao (aj (a:=iX g) (b:= .int 1) rfl rfl rfl) rfl)) (EY hg.2.2 (by rw[hg.2.1];omega))
  .have:(fun p=>gv g.1 ((g.2.1.map (g_ ws)).map (· p)))=gF g ws:=by funext p;unfold gF;rw [List.map_map];rfl
   rw[this]
 .show W3 (nG 5 _ (vd N S nt dP (.tup (turned.map .int)) bD (some (.d (.int i))) (some (.d (iX g))) (some (.d (mI N (gF g ws))))) _) _;refine oS (k:=S.length) rfl ⟨_,aR _ _⟩ (eo (d:=mI N fun p=>gF g ws p !=turned.contains (i:Int)) ?_ ⟨_,_,rfl,aR _ _,by rw[List.length_map];omega,⟨_,rfl⟩,?_⟩)
  .refine AO (b:=turned.contains (i:Int)) (gp (a:= .int i) (b:= .tup (turned.map .int)) rfl rfl (sF _ _)) ?_;rw[<-Ar];rfl
  .rw [cL,List.map_append];rfl
theorem Aw{S:bc}(NO:lU ins gs os)(hb:bits.length=ins.length)(hS:D7 S){Q:V3->bc->Prop}(h:Q (.d (.lst ((yJ ins gs bits turned bad).map (mI N)))) S) :
 W3 (gg [.d (bV ins gs os), .d (.lst (bits.map (mI N))), .d (mI N one), .d (.tup (turned.map .int)), .d (.tup (bad.map .int))] S) Q:=by
 have hz:sizeLine=16777216:=sizeLine_eq;unfold gg;refine lV hS (AY rfl ?_);simp only[dr,gP,List.map,List.length,List.replicate,List.cons_append,List.nil_append,Nat.reduceAdd,Nat.reduceSub];unfold jW;refine bC <| cJ (by simp) <| g7 <| ba <| eo (d:= .lst (ins.map inD)) rfl <| ba <| eo (d:= .lst (bits.map (mI N))) rfl <| ba <| eo (d:=mI N one) rfl <| ba <| eo (d:= .tup (bad.map .int)) rfl <| eV <| uW hb NO.hi NO.hw ⟨_,rfl,?_⟩
 simp only[List.set];have hwd:=tR NO.hw;have hN:=NO.hi;have hG:=NO.hg;refine bC (iT (kr (ds:=dy (gs.map iX)) rfl ?_));refine(dG (fun i δ S2=>(∃a b c,δ=vd N S (bV ins gs os) (.lst (bits.map (mI N))) (.tup (turned.map .int)) (.tup (bad.map .int)) a b c)/\S2=S++[SO.lst ((uG gs turned (gQ ins bits bad ins.length) i).map (mI N))])
  ⟨⟨_,_,_,rfl⟩,rfl⟩ ?_).mono fun o S2 ⟨dj,kl,⟨a,b,c,xh⟩,xg⟩=>⟨dj,kl,?_⟩
 .rintro i v δ S2 hv ⟨⟨a,b,c,rfl⟩,rfl⟩;obtain⟨d,hd,rfl⟩:=xV hv;rw[List.getElem?_map] at hd;cases q:gs[i]? with
  | none=>rw [q] at hd;cases hd
  | some g=>
    rw[q] at hd;cases hd;have hi:i < gs.length:=(List.getElem?_eq_some_iff.mp q).1;have hl:(uG gs turned (gQ ins bits bad ins.length) i).length=vf ins+i:=by rw[sH _ (by omega),mX hb _ (Nat.le_refl _),List.take_length]
    refine⟨vd N S (bV ins gs os) (.lst (bits.map (mI N))) (.tup (turned.map .int)) (.tup (bad.map .int)) (some (.d (.int i))) (some (.d (iX g))) c,rfl,?_⟩;refine(yX (by rw[hl];exact NO.g i g q) (by rw[hl];omega)).mono fun o S4 ⟨⟨c4,e4⟩,e5⟩=>⟨_,e4,⟨_,_,_,rfl⟩,?_⟩
    rw[e5];show _=S++[SO.lst ((match gs[i]? with | some g=>uG gs turned (gQ ins bits bad ins.length) i++[fun p=>gF g (uG gs turned (gQ ins bits bad ins.length) i) p !=turned.contains (i:Int)] | none=>uG gs turned (gQ ins bits bad ins.length) i).map (mI N))]
    rw[q]
 have hlen:((dy (gs.map iX)).map V3.d).length=gs.length:=by simp [dy]
 rw[hlen] at xg;subst xh xg;exact il (w_var rfl ⟨_,rfl,by unfold iW;exact decide_eq_true (Nat.le_refl _),⟨_,rfl⟩,_,by unfold res;rw [aR];rfl,h⟩)
def bq(N:Nat)(os:Rq)(ws:List M):List D:=os.map fun x=> .tup ((tell ws x).map (mI N))
theorem Dt{S:bc}{ws:List M}(hO:os.length < 1000)(ho:∀x∈os,x.2.length < 1000/\∀w∈x.2,w < ws.length)(hS:D7 S){Q:V3->bc->Prop}(h:Q (.d (.lst (bq N os ws))) S) :
 W3 (gS [.d (bV ins gs os), .d (.lst (ws.map (mI N)))] S) Q:=by
 have hz:sizeLine=16777216:=sizeLine_eq;unfold gS;refine lV hS (AY rfl ?_);simp only[dr,gu,List.map,List.length,List.replicate,List.cons_append,List.nil_append,Nat.reduceAdd,Nat.reduceSub];unfold k8;refine il (qb (ds:=bq N os ws) ?_ ⟨_,rfl,by unfold iW;exact decide_eq_true (Nat.le_refl _),⟨_,rfl⟩,_,by unfold res;rw [aR],h⟩)
 refine bQ (ds:=os.map AS) (fW (aj (a:=bV ins gs os) (b:= .int 2) rfl rfl rfl)) (by rw[List.length_map];omega) ?_
 unfold bq;refine NT.bw AS _ fun(x:Str × List Nat) hx=>⟨[.val (.str x.1), .val (.tup (x.2.map nI)), .val (.lst (ws.map (mI N)))],rfl,rfl,?_⟩
 exact ax (ds:=[.lst (ws.map (mI N)), .tup (x.2.map nI)]) rfl (EY (ho x hx).2 (ho x hx).1)
end
end K33
end
section
namespace K33
open PySem PySem.Spec PyProof.Rows L2 L3 MT
open JT (cu cc fV HL n4 k3)
theorem G0{N n:Nat}{f:M}:kF [mI N f, .int n]= .ok (.int (if decide (n < N) && f n then 1 else 0)):=by
 unfold kF vy;refine cw (bJ ?_);have h:=Ik N f n;show(R.bind (R.bind (R.ok (mI N f)) fun d=>R.bind (R.ok (D.int n)) fun e=>ug d e) fun d=>R.bind (R.ok (D.int 1)) fun e=>A5 d e)=_
 exact h
theorem qt{bs:List Bool}(hl:bs.length < 100000):fQ [.lst (bs.map bI)]= .ok (.int (CA bs)):=by
 unfold fQ r6;refine cw (bh (dq (d:= .int 0) rfl (by simp [dt,nH])) ?_)
 obtain⟨cY,e1,a2,ku⟩:=eS (t:=aA 2) (body:=k6) (ds:=(bs.map bI).reverse)
  (fun i δ=>∃a2,δ=[.val (.lst (bs.map bI)), .val (.int (CA (bs.drop (bs.length - i)))),a2]) (δ:=[.val (.lst (bs.map bI)), .val (.int 0), .un]) ⟨.un,by simp [CA]⟩ (by
    rintro i d δ hd ⟨a2,rfl⟩;have hi:i < bs.length:=by
     have:=(List.getElem?_eq_some_iff.mp hd).1
     rwa [List.length_reverse,List.length_map] at this
    rw[List.getElem?_reverse (by rw[List.length_map];exact hi),List.length_map,List.getElem?_map,List.getElem?_eq_getElem (by omega:bs.length - 1 - i < bs.length)] at hd
    cases hd;have hdr:bs.drop (bs.length - (i+1))=bs[bs.length - 1 - i] ::bs.drop (bs.length - i):=by
     rw[show bs.length - (i+1)=bs.length - 1 - i by omega,List.drop_eq_getElem_cons (by omega:bs.length - 1 - i < bs.length),show bs.length - 1 - i+1=bs.length - i by omega]
    refine⟨_,?_,⟨.val (bI bs[bs.length - 1 - i]),rfl⟩⟩;have hm:(CA (bs.drop (bs.length - (i+1))):Int)=(CA (bs.drop (bs.length - i)):Int)*2+(if bs[bs.length - 1 - i] then 1 else 0):=by
     rw[hdr];show(((if bs[bs.length - 1 - i] then 1 else 0)+2*CA (bs.drop (bs.length - i)):Nat):Int)=_
     cases bs[bs.length - 1 - i] <;> simp <;> omega
    rw[hm];generalize (CA (bs.drop (bs.length - i)):Int)=m;generalize bs[bs.length - 1 - i]=x;generalize D.lst (bs.map bI)=y;rw[show aA 2 (bI x) [.val y, .val (.int m),a2]= .ok [.val y, .val (.int m), .val (bI x)] from rfl,R.aJ]
    unfold k6;exact dq (aj (a:= .int (m*2)) (b:=bI x) (aj (a:= .int m) (b:= .int 2) rfl rfl (bG _ (.inr ⟨by omega,by omega⟩))) rfl rfl) (by simp))
 refine bh (gc (ds:=(bs.map bI).reverse) rfl e1) ?_;rw[List.length_reverse,List.length_map,Nat.sub_self,List.drop_zero] at ku;subst ku;exact bJ rfl
def fJ(b:List Bool):D:= .tup (b.map bI)
def aE(c:Nat)(Qn:Option V3)(a2 a3 a4:Option V3):DE:=[some (.d (nI c)),Qn,a2,a3,a4]
theorem rf{c:Nat}{S:bc}(hc:c<=10)(hS:D7 S){Q:V3->bc->Prop}(h:Q (.d (.lst ((cu c).map fJ))) S):W3 (gm [.d (nI c)] S) Q:=by
 have hz:sizeLine=16777216:=sizeLine_eq;unfold gm;refine lV hS (AY rfl ?_);simp only[dr,gT,List.map,List.length,List.replicate,List.cons_append,List.nil_append,Nat.reduceAdd,Nat.reduceSub];unfold j1;refine bC <| cJ (by simp) <| qb (ds:=(cu 0).map fJ) rfl ⟨_,rfl,?_⟩
 simp only[List.set];refine bC <| iT <| kr (px (n:=c) rfl (by omega)) ?_
 refine(dG (fun i δ S2=>∃(T:bc) (a2 a3 a4:Option V3),S2=S++T++[.lst ((cu i).map fJ)]/\δ=aE c (some (.loc (S++T).length)) a2 a3 a4)
  ⟨[],none,none,none,by simp,by simp [aE]⟩ ?_).mono fun o S2 ⟨dj,kl,T,a2,a3,a4,xg,xh⟩=>⟨dj,kl,?_⟩
 .rintro i v δ S2 hv ⟨T,a2,a3,a4,rfl,rfl⟩;have hi:i < c:=by
   have:=(List.getElem?_eq_some_iff.mp hv).1
   rwa [List.length_map,gH,List.length_map,List.length_range] at this
  have hpow:(cu i).length<=1024:=by
   rw[cc];exact Nat.pow_le_pow_right (by omega) (by omega:i<=10)
  refine⟨aE c (some (.loc (S++T).length)) (some v) a3 a4,rfl,?_⟩;unfold k4 aE;refine AK (i:=1) rfl (aR _ _) ?_;rw[cL];simp only[List.set];refine bC <| cJ (by simp) <| qb (ds:=[]) rfl ⟨_,rfl,?_⟩
  simp only[List.set];generalize hU:S++T++[SO.jk]=U;refine bC <| iT <| kr (ds:=(cu i).map fJ) rfl ?_
  refine(dG (fun j δ S3=>(∃b4,δ=[some (.d (nI c)),some (.d (.lst ((cu i).map fJ))),some v,some (.loc U.length),b4])/\S3=U++[.lst ((((cu i).take j).flatMap fun b=>[b++[false],b++[true]]).map fJ)])
   ⟨⟨_,rfl⟩,by simp⟩ ?_).mono fun o S3 ⟨JX,e3,⟨b4,Ci⟩,hS3⟩=>⟨JX,e3,?_⟩
  .rintro j v3 δ S3 hv3 ⟨⟨b4,rfl⟩,rfl⟩;obtain⟨b,hb,rfl⟩:=NT.i_ hv3;have hj:=(List.getElem?_eq_some_iff.mp hb).1;have hbl:=fV i b (List.mem_of_getElem? hb);refine⟨[some (.d (nI c)),some (.d (.lst ((cu i).map fJ))),some v,some (.loc U.length),some (.d (fJ b))],rfl,?_⟩;unfold k0;generalize hL:((((cu i).take j).flatMap fun b=>[b++[false],b++[true]]).map fJ)=L
   have hLl:L.length<=2048:=by
    rw[<-hL,List.length_map,List.length_flatMap];have:((cu i).take j).map (fun b=>[b++[false],b++[true]].length)=((cu i).take j).map fun _=>2:=rfl
    rw[this,List.map_const',List.sum_replicate_nat,List.length_take];omega
   have add:∀(x:Bool) (δ:ak),ag 4 δ= .ok (fJ b)->e2 jB (ag 4) (bZ (ah (eC (bI x)) aD)) δ= .ok (fJ (b++[x])):=fun x δ h4=>by
    refine aj (a:=fJ b) (b:= .tup [bI x]) h4 (bX rfl (by simp;omega)) ?_
    show R.aU (decide ((b.map bI).length+[bI x].length<=sizeLine)) _=_;rw[bG _ (by rw[List.length_map];simp;omega)]
    unfold fJ;rw[List.map_append];rfl
   refine bC <| oS (k:=U.length) rfl ⟨_,aR _ _⟩ <| eo (d:=fJ (b++[false])) (add false _ rfl) ⟨_,_,rfl,aR _ _,by omega,_,rfl,?_⟩
   rw[cL];refine oS (k:=U.length) rfl ⟨_,aR _ _⟩ <| eo (d:=fJ (b++[true])) (add true _ rfl) ⟨_,_,rfl,aR _ _,by rw[List.length_append];simp;omega,_,rfl,⟨_,rfl⟩,?_⟩
   rw[cL,List.take_add_one,hb,List.flatMap_append,List.map_append,hL];simp
  rw[List.length_map,List.length_map,List.take_length] at hS3;subst Ci hS3;refine cJ (by simp) <| w_var (v:= .loc U.length) rfl ⟨_,rfl,T++[SO.jk],some v,some (.loc U.length),b4,?_,?_⟩
  .rw [<-hU,List.append_assoc S];rfl
  .rw [<-hU,List.append_assoc S];rfl
 have hlen:((gH 0 c).map V3.d).length=c:=by simp [gH]
 rw[hlen] at xg;subst xh xg;unfold aE;refine il (w_var rfl ⟨_,rfl,by unfold iW;exact decide_eq_true (by rw[List.length_append];omega),⟨T++[.lst ((cu c).map fJ)],by rw[List.append_assoc]⟩,_,by unfold res;rw [aR],h⟩)
end K33
end
section
namespace K33
open PySem PySem.Spec PyProof.Rows L2 L3 MT
open JT (cu cc fV HL n4 k3)
theorem GI{b:List Bool}{j:Nat}(h:j < b.length):cn (fJ b) (.int j)= .ok (bI (b.getD j false)):=by
 refine sP ?_;rw[jQ (by omega) (by rw[List.length_map,Int.toNat_natCast];exact h)]
 rw[List.getD_eq_getElem?_getD,List.getElem?_eq_getElem h];simp
theorem wO{c j:Nat}(hc:c<=10)(hj:j < c):jl [.lst ((cu c).map fJ), .int j]= .ok (mI (2 ^ c) (HL c j)):=by
 have hz:sizeLine=16777216:=sizeLine_eq;have hp:2 ^ c<=1024:=Nat.pow_le_pow_right (by omega) hc
 unfold jl rH;refine cw (bJ (ax (ds:=[.lst (((cu c).map fun b=>b.getD j false).map bI)]) (ao (cq (bQ (ds:=(cu c).map fJ) rfl (by rw[List.length_map,cc];omega) ?_)) rfl) ?_))
 .rw [List.map_map];exact NT.bw fJ _ fun b hb=>⟨[.val (fJ b), .val (.int j)],rfl,rfl,aj (a:=fJ b) (b:= .int j) rfl rfl (GI (by rw[fV c b hb];exact hj))⟩
 .rw [qt (by rw[List.length_map,cc];omega),Bv,List.length_map,cc]
  unfold mI;congr 3;refine lI fun p JR=>?_
  unfold HL;rw[List.getD_eq_getElem?_getD,List.getElem?_map,List.getD_eq_getElem?_getD (l:=cu c),List.getElem?_eq_getElem (by rw[cc];exact JR)]
  rfl
section
variable {c:Nat} {ins:Rp} {gs:List Gt} {os:Rq}
abbrev zd:=Str.ofString "net"
abbrev rW:=Str.ofString "many_inputs"
abbrev si:=Str.ofString "full"
abbrev nQ:=Str.ofString "in_masks"
def eN(c:Nat)(nt:D):List (Str × V3):=[(zd, .d nt),(rW, .d (nI (2 ^ c))),(si, .d (mI (2 ^ c) one)),(nQ, .d (.lst ((n4 c).map (mI (2 ^ c)))))]
theorem DT{S:bc}(hc:ins.length=c)(Hx:c<=10)(hS:D7 (S++[.ins 0 []])){Q:V3->bc->Prop}(h:Q (.d .cz) (S++[.ins 0 (eN c (bV ins gs os))])) :
 W3 (cP [.loc S.length, .d (bV ins gs os)] (S++[.ins 0 []])) Q:=by
 have hz:sizeLine=16777216:=sizeLine_eq;have hp:2 ^ c<=1024:=Nat.pow_le_pow_right (by omega) Hx
 unfold cP;refine KY rfl ?_;simp only[dr,cE,List.map,List.length,List.replicate,List.cons_append,List.nil_append,Nat.reduceAdd,Nat.reduceSub];unfold fO;refine bC <| cJ (by simp) <| g7 <| ba <| eo (d:=nI c) (ax (ds:=[.lst (ins.map inD)]) rfl (by rw[vZ,List.length_map,hc];rfl)) <| eV <| rf Hx hS ⟨_,rfl,?_⟩
 simp only[List.set];refine bC <| m_ (k:=S.length) <| eo (d:=bV ins gs os) rfl <| w_var (v:= .loc S.length) rfl ⟨_,rfl,aR _ _,by simp,_,rfl,?_⟩
 rw[cL];refine bC <| m_ (k:=S.length) <| eo (d:=nI (2 ^ c)) (ax (ds:=[.lst ((cu c).map fJ)]) rfl (by rw[vZ,List.length_map,cc];rfl)) <| w_var (v:= .loc S.length) rfl ⟨_,rfl,aR _ _,by unfold uM;simp,_,rfl,?_⟩
 rw[cL];refine bC <| m_ (k:=S.length) <| eo (d:=mI (2 ^ c) one) (ax (ds:=[.lst (((cu c).map fun _=>true).map bI)]) (ao (cq (bQ (ds:=(cu c).map fJ) rfl (by rw[List.length_map,cc];omega) ?_)) rfl) ?_) <| w_var (v:= .loc S.length) rfl ⟨_,rfl,aR _ _,?_,_,rfl,?_⟩
 .rw [List.map_map];exact NT.bw fJ _ fun b hb=>⟨[.val (fJ b)],rfl,rfl,rfl⟩
 .rw [qt (by rw[List.length_map,cc];omega),Bv,List.length_map,cc]
  unfold mI;congr 3;refine lI fun p JR=>?_
  rw[List.getD_eq_getElem?_getD,List.getElem?_map,List.getElem?_eq_getElem (by rw[cc];exact JR)]
  rfl
 .exact(by decide:2 < 1000)
 rw[cL];refine m_ (k:=S.length) <| eo (d:= .lst ((n4 c).map (mI (2 ^ c)))) (cq (bQ (ds:=gH 0 c) (px (n:=c) (ax (ds:=[.lst (ins.map inD)]) rfl (by rw[vZ,List.length_map,hc])) (by omega)) (by simp [gH];omega) ?_)) <| w_var (v:= .loc S.length) rfl ⟨_,rfl,aR _ _,?_,_,rfl,?_⟩
 .unfold n4;rw[List.map_map];unfold gH;refine NT.bw (fun i:Nat=>D.int (0+(i:Int))) _ fun j hj=>⟨[.val (.int (0+(j:Int))), .val (.lst ((cu c).map fJ))],rfl,rfl,ax (ds:=[.lst ((cu c).map fJ), .int j]) ?_ (wO Hx (List.mem_range.mp hj))⟩
  rw[Int.zero_add];rfl
 .exact(by decide:3 < 1000)
 rw[cL];exact h
end
end K33
end
section
namespace K33
open PySem PySem.Spec PyProof.Rows L2 L3 MT
open JT (cu cc fV HL n4 k3)
section
variable {c:Nat} {ins:Rp} {gs:List Gt} {os:Rq} {S:bc} {k:Nat} {turned bad:List Int}
theorem OY:(rW==zd)=false:=by decide+kernel
theorem Ph:(si==zd)=false:=by decide+kernel
theorem OE:(si==rW)=false:=by decide+kernel
theorem O8:(nQ==zd)=false:=by decide+kernel
theorem OA:(nQ==rW)=false:=by decide+kernel
theorem OH:(nQ==si)=false:=by decide+kernel
theorem Br{nt:D}:(eN c nt).lookup zd=some (.d nt):=by unfold eN;rw [List.lookup_cons,beq_self_eq_true]
theorem Em{nt:D}:(eN c nt).lookup rW=some (.d (nI (2 ^ c))):=by unfold eN;rw [List.lookup_cons,OY,List.lookup_cons,beq_self_eq_true]
theorem C9{nt:D}:(eN c nt).lookup si=some (.d (mI (2 ^ c) one)):=by unfold eN;rw [List.lookup_cons,Ph,List.lookup_cons,OE,List.lookup_cons,beq_self_eq_true]
theorem BD{nt:D}:(eN c nt).lookup nQ=some (.d (.lst ((n4 c).map (mI (2 ^ c))))):=by unfold eN;rw [List.lookup_cons,O8,List.lookup_cons,OA,List.lookup_cons,OH,List.lookup_cons,beq_self_eq_true]
abbrev Wd(c:Nat)(ins:Rp)(gs:List Gt)(turned bad:List Int):List M:=yJ ins gs (n4 c) turned bad
theorem F6(m:Str)(nt:D)(h1:(m==zd)=false)(h2:(m==rW)=false)(h3:(m==si)=false)(h4:(m==nQ)=false):(eN c nt).lookup m=none:=by unfold eN;rw [List.lookup_cons,h1,List.lookup_cons,h2,List.lookup_cons,h3,List.lookup_cons,h4];rfl
theorem va(NO:lU ins gs os)(hc:ins.length=c)(hS:D7 S)(hb:S[k]? =some (.ins 0 (eN c (bV ins gs os)))){Q:V3->bc->Prop}(h:Q (.d (.lst (bq (2 ^ c) os (Wd c ins gs turned bad)))) S) :
 W3 (d5 [.loc k, .d (.tup (turned.map .int)), .d (.tup (bad.map .int))] S) Q:=by
 have hz:sizeLine=16777216:=sizeLine_eq;unfold d5;refine lV hS (AY rfl ?_);simp only[dr,gf,List.map,List.length,List.replicate,List.cons_append,List.nil_append,Nat.reduceAdd,Nat.reduceSub];unfold i8;have hl:(n4 c).length=ins.length:=by rw[k3,hc]
 refine il <| g7 <| ba <| w_fld (k:=k) <| w_var (v:= .loc k) rfl ⟨_,_,rfl,hb,Br,?_⟩
 refine ba <| g7 <| ba <| w_fld (k:=k) <| w_var (v:= .loc k) rfl ⟨_,_,rfl,hb,Br,?_⟩
 refine ba <| w_fld (k:=k) <| w_var (v:= .loc k) rfl ⟨_,_,rfl,hb,BD,?_⟩
 refine ba <| w_fld (k:=k) <| w_var (v:= .loc k) rfl ⟨_,_,rfl,hb,C9,?_⟩
 refine ba <| eo (d:= .tup (turned.map .int)) rfl <| ba <| eo (d:= .tup (bad.map .int)) rfl <| eV ?_
 refine Aw NO hl hS (eV ?_);refine Dt NO.ho (fun x hx=>⟨(NO.o x hx).1,fun w hw=>by rw[BC hl];exact(NO.o x hx).2 w hw⟩) hS ?_
 exact⟨_,rfl,by unfold iW;rfl,⟨[],by simp⟩,_,by unfold res;rfl,h⟩
theorem sv{nt:D}{f:M}(hc:c<=10)(hS:D7 S)(hb:S[k]? =some (.ins 0 (eN c nt))){Q:V3->bc->Prop}(h:Q (.d (.lst (((List.range (2 ^ c)).filter f).map nI))) S) :
 W3 (cf [.loc k, .d (mI (2 ^ c) f)] S) Q:=by
 have hz:sizeLine=16777216:=sizeLine_eq;have hp:2 ^ c<=1024:=Nat.pow_le_pow_right (by omega) hc
 unfold cf;refine lV hS (AY rfl ?_);simp only[dr,cQ,List.map,List.length,List.replicate,List.cons_append,List.nil_append,Nat.reduceAdd,Nat.reduceSub];unfold e_;refine il <| mS (fun j ds S2=>S2=S/\ds=((List.range j).filter f).map nI) ?_
 refine F4 <| w_fld (k:=k) <| w_var (v:= .loc k) rfl ⟨_,_,rfl,hb,Em,2 ^ c,rfl,by omega,?_⟩
 have hlen:((gH 0 (2 ^ c)).map V3.d).length=2 ^ c:=by simp [gH]
 rw[hlen];refine⟨by omega,⟨rfl,rfl⟩,?_,?_⟩
 .rintro j v ds S2 hv ⟨rfl,rfl⟩;obtain⟨hj,rfl⟩:=NT.F7 hv;refine⟨[some (.d (.int j)),some (.d (mI (2 ^ c) f))],rfl,wK (b:=f j) ?_ ?_⟩
  .refine gp (a:= .int (if decide (j < 2 ^ c) && f j then 1 else 0)) (b:= .int 1) (ax (ds:=[mI (2 ^ c) f, .int j]) rfl G0) rfl ?_
   rw[decide_eq_true hj,Bool.true_and];cases f j <;> rfl
  .rw [List.range_succ,List.filter_append,List.map_append];cases hf:f j with
   | true=>rw [if_pos rfl];exact eo (d:=nI j) rfl ⟨_,rfl,rfl,by simp [hf]⟩
   | false=>rw [if_neg (by decide)];exact⟨rfl,by simp [hf]⟩
 .rintro ds S2 ⟨rfl,rfl⟩;exact⟨_,rfl,by unfold iW;rfl,⟨[],by simp⟩,_,by unfold res;rfl,h⟩
end
end K33
end
section
set_option maxHeartbeats 1000000
namespace K33
open PySem PySem.Spec PyProof.Rows L2 L3 MT JT
theorem MV{a:D}{r:List D}:cn (.lst (a ::r)) (.int 0)= .ok a:=n_ (by rw[jQ (by omega) (by simp)];rfl)
theorem M3{a b:D}{r:List D}:cn (.lst (a ::b ::r)) (.int 1)= .ok b:=n_ (by rw[jQ (by omega) (by simp)];rfl)
theorem Nq{a b c:D}{r:List D}:cn (.lst (a ::b ::c ::r)) (.int 2)= .ok c:=n_ (by rw[jQ (by omega) (by simp)];rfl)
theorem Cd{N:Nat}{a b c:M}:d8 [.lst [mI N a,mI N b,mI N c]]= .ok (mI N fun p=>(a p && b p) || (a p && c p) || (b p && c p)):=by
 unfold d8 n5;refine cw (bJ ?_);exact aj (aj (aj (aj rfl rfl MV) (aj rfl rfl M3) (qF N a b)) (aj (aj rfl rfl MV) (aj rfl rfl Nq) (qF N a c)) (uJ N _ _)) (aj (aj rfl rfl M3) (aj rfl rfl Nq) (qF N b c)) (uJ N _ _)
theorem Av(bs:List Bool):Az [.lst (bs.map D.bl)]= .ok (.bl (bs.all id)):=by
 show(match bls? (bs.map D.bl) with | some bs=>R.ok (D.bl (bs.all id)) | none=> .no)=_
 rw[xv]
section
variable {ins:Rp} {gs:List Gt} {os:Rq}
theorem BL(a b:Nat):rm (.int a) (.int b)= .ok (.bl (decide (a=b))):=by
 show R.ok (D.bl ((a:Int)==(b:Int)))=_;congr 2;by_cases h:a=b
 .rw [decide_eq_true h];exact beq_iff_eq.mpr (by omega)
 .rw [decide_eq_false h];exact beq_eq_false_iff_ne.mpr (by omega)
theorem y6(w:Nat)(hi:ins.length < 1000)(ho:os.length < 1000):d6 [bV ins gs os, .int w]= .ok (.bl ((ins.all fun x=>decide (x.2=w)) && os.all fun x=>decide (x.2.length=w))):=by
 have hz:sizeLine=16777216:=sizeLine_eq;unfold d6 mP;refine cw (bh (dq (d:= .bl (ins.all fun x=>decide (x.2=w))) (ax (ds:=[.lst ((ins.map fun x=>decide (x.2=w)).map D.bl)]) (ao (cq (bQ (ds:=ins.map inD) (fW (aj (a:=bV ins gs os) (b:= .int 0) rfl rfl rfl)) (by rw[List.length_map];omega) ?_)) rfl) ?_) (by simp [dt,eX])) (bJ ?_))
 .rw [List.map_map];exact NT.bw inD _ fun x hx=>⟨[.val (inD x), .val (.int w)],rfl,rfl,aj (a:= .int x.2) (b:= .int w) (aj (a:=inD x) (b:= .int 1) rfl rfl rfl) rfl (BL _ _)⟩
 .rw [Av,List.all_map];rfl
 .unfold Ek;have e1:EX (ag 2) [.val (bV ins gs os), .val (.int w), .val (.bl (ins.all fun x=>decide (x.2=w)))]= .ok (ins.all fun x=>decide (x.2=w)):=Hd rfl
  show((EX (ag 2) [.val (bV ins gs os), .val (.int w), .val (.bl (ins.all fun x=>decide (x.2=w)))]).bind _)=_
  rw[e1,R.aJ];cases hA:ins.all fun x=>decide (x.2=w) with
  | false=>rw [if_neg (by decide),Bool.false_and]
  | true=>
    rw[if_pos rfl,Bool.true_and];refine ax (ds:=[.lst ((os.map fun x=>decide (x.2.length=w)).map D.bl)]) (ao (cq (bQ (ds:=os.map AS) (fW (aj (a:=bV ins gs os) (b:= .int 2) rfl rfl rfl)) (by rw[List.length_map];omega) ?_)) rfl) ?_
    .rw [List.map_map];exact NT.bw AS _ fun x hx=>⟨[.val (.str x.1), .val (.tup (x.2.map nI)), .val (.int w)],rfl,rfl,aj (a:= .int x.2.length) (b:= .int w) (ax (ds:=[.tup (x.2.map nI)]) rfl (by show R.ok (D.int ((x.2.map nI).length:Nat))=_;rw [List.length_map])) rfl (BL _ _)⟩
    .rw [Av,List.all_map];rfl
theorem xR(N:Nat):D.int 0=mI N fun _=>false:=by
 unfold mI;rw[vw.mpr fun _ _=>rfl];rfl
theorem three{α:Type}{l:List α}(h:l.length=3):∃a b c,l=[a,b,c]:=match l,h with | [a,b,c],_=>⟨a,b,c,rfl⟩
theorem Fs{ws:List M}{p a b c:Nat}:bH (gW p ws) [a,b,c]=[g_ ws a p,g_ ws b p,g_ ws c p]:=by
 show [(gW p ws).getD a false,(gW p ws).getD b false,(gW p ws).getD c false]=_;rw[pd,pd,pd]
theorem zm{N:Nat}{ws:List M}(h3:∀x∈os,x.2.length=3):gr [.lst (bq N os ws)]= .ok (mI N fun p=>os.any fun x=>vA (bH (gW p ws) x.2)):=by
 have hz:sizeLine=16777216:=sizeLine_eq;unfold gr oG;refine cw (bh (dq (d:= .int 0) rfl (by simp [dt,kP])) ?_)
 obtain⟨cY,e1,a2,ku⟩:=eS (t:=aA 2) (body:=i5) (ds:=bq N os ws)
  (fun i δ=>∃a2,δ=[.val (.lst (bq N os ws)), .val (mI N fun p=>(os.take i).any fun x=>vA (bH (gW p ws) x.2)),a2]) (δ:=[.val (.lst (bq N os ws)), .val (.int 0), .un]) ⟨.un,by rw[xR N];simp⟩ (by
    rintro i d δ hd ⟨a2,rfl⟩;unfold bq at hd;rw[List.getElem?_map] at hd;cases hx:os[i]? with
    | none=>rw [hx] at hd;cases hd
    | some x=>
      rw[hx] at hd;cases hd;obtain⟨n0,n1,n2,ex⟩:=three (h3 x (List.mem_of_getElem? hx));have et:tell ws x=[g_ ws n0,g_ ws n1,g_ ws n2]:=by unfold tell;rw [ex];rfl
      obtain⟨acc,hacc⟩:∃acc:M,acc=fun p=>(os.take i).any fun x=>vA (bH (gW p ws) x.2):=⟨_,rfl⟩
      have em:(mI N fun p=>(os.take (i+1)).any fun x=>vA (bH (gW p ws) x.2))=mI N fun p=>(acc p || (g_ ws n0 p !=g_ ws n1 p)) || (g_ ws n0 p !=g_ ws n2 p):=m5 fun p _=>by
       rw[List.take_add_one,hx,List.any_append,hacc];show(_ || (vA (bH (gW p ws) x.2) || false))=_
       rw[ex,Fs,Bool.or_false,Bool.or_assoc];rfl
      refine⟨_,?_,⟨.val (.tup ((tell ws x).map (mI N))),rfl⟩⟩;show(aA 2 (.tup ((tell ws x).map (mI N))) _).bind _=_;rw[em,et,<-hacc]
      clear hacc em
      generalize D.lst (bq N os ws)=y;generalize g_ ws n0=a;generalize g_ ws n1=b;generalize g_ ws n2=c;rw[show aA 2 (.tup ([a,b,c].map (mI N))) [.val y, .val (mI N acc),a2]= .ok [.val y, .val (mI N acc), .val (.tup [mI N a,mI N b,mI N c])] from rfl,R.aJ]
      unfold i5;exact dq (aj (aj (a:=mI N acc) rfl (aj (aj rfl rfl CD) (aj rfl rfl E4) (p7 N a b)) (uJ N _ _)) (aj (aj rfl rfl CD) (aj rfl rfl Ja) (p7 N a c)) (uJ N _ _)) (by simp))
 refine bh (gc (ds:=bq N os ws) rfl e1) ?_;have hlen:(bq N os ws).length=os.length:=by unfold bq;rw [List.length_map]
 rw[hlen,List.take_length] at ku;subst ku;exact bJ rfl
theorem rV{N:Nat}{ws vs:List M}:mv (bq N os ws) (bq N os vs)=os.map fun x=>D.tup [.tup ((tell ws x).map (mI N)), .tup ((tell vs x).map (mI N))]:=by
 unfold mv bq;rw[List.zip_map',List.map_map];rfl
theorem DJ{N:Nat}{ws vs:List M}(h3:∀x∈os,x.2.length=3):jw [.lst (bq N os ws), .lst (bq N os vs)]= .ok (mI N fun p=>os.any fun x=>lst (bH (gW p ws) x.2) (bH (gW p vs) x.2)):=by
 have hz:sizeLine=16777216:=sizeLine_eq;unfold jw rT;refine cw (bh (dq (d:= .int 0) rfl (by simp [dt,lE])) ?_)
 obtain⟨cY,e1,a3,a4,ku⟩:=eS (t:=hJ 2 (bR (aA 3) (bR (aA 4) ia))) (body:=kK) (ds:=mv (bq N os ws) (bq N os vs))
  (fun i δ=>∃a3 a4,δ=[.val (.lst (bq N os ws)), .val (.lst (bq N os vs)), .val (mI N fun p=>(os.take i).any fun x=>lst (bH (gW p ws) x.2) (bH (gW p vs) x.2)),a3,a4]) (δ:=[.val (.lst (bq N os ws)), .val (.lst (bq N os vs)), .val (.int 0), .un, .un]) ⟨.un, .un,by rw[xR N];simp⟩ (by
    rintro i d δ hd ⟨a3,a4,rfl⟩;rw[rV,List.getElem?_map] at hd;cases hx:os[i]? with
    | none=>rw [hx] at hd;cases hd
    | some x=>
      rw[hx] at hd;cases hd;obtain⟨n0,n1,n2,ex⟩:=three (h3 x (List.mem_of_getElem? hx));have et:tell ws x=[g_ ws n0,g_ ws n1,g_ ws n2]:=by unfold tell;rw [ex];rfl
      have ev:tell vs x=[g_ vs n0,g_ vs n1,g_ vs n2]:=by unfold tell;rw [ex];rfl
      obtain⟨acc,hacc⟩:∃acc:M,acc=fun p=>(os.take i).any fun x=>lst (bH (gW p ws) x.2) (bH (gW p vs) x.2):=⟨_,rfl⟩
      have em:(mI N fun p=>(os.take (i+1)).any fun x=>lst (bH (gW p ws) x.2) (bH (gW p vs) x.2))=mI N fun p=>acc p || (((g_ ws n0 p !=g_ vs n0 p) && (g_ ws n1 p !=g_ vs n1 p)) || ((g_ ws n0 p !=g_ vs n0 p) && (g_ ws n2 p !=g_ vs n2 p)) || ((g_ ws n1 p !=g_ vs n1 p) && (g_ ws n2 p !=g_ vs n2 p))):=m5 fun p _=>by
       rw[List.take_add_one,hx,List.any_append,hacc];show(_ || (lst (bH (gW p ws) x.2) (bH (gW p vs) x.2) || false))=_
       rw[ex,Fs,Fs,Bool.or_false];rfl
      refine⟨_,?_,⟨.val (.tup ((tell ws x).map (mI N))), .val (.tup ((tell vs x).map (mI N))),rfl⟩⟩;show(hJ 2 (bR (aA 3) (bR (aA 4) ia)) (.tup [.tup ((tell ws x).map (mI N)), .tup ((tell vs x).map (mI N))]) _).bind _=_;rw[em,et,ev,<-hacc]
      clear hacc em
      generalize D.lst (bq N os ws)=y;generalize D.lst (bq N os vs)=z;generalize g_ ws n0=a;generalize g_ ws n1=b;generalize g_ ws n2=c;generalize g_ vs n0=a';generalize g_ vs n1=b';generalize g_ vs n2=c';rw[show hJ 2 (bR (aA 3) (bR (aA 4) ia)) (.tup [.tup ([a,b,c].map (mI N)), .tup ([a',b',c'].map (mI N))]) [.val y, .val z, .val (mI N acc),a3,a4]= .ok [.val y, .val z, .val (mI N acc), .val (.tup [mI N a,mI N b,mI N c]), .val (.tup [mI N a',mI N b',mI N c'])] from rfl,R.aJ]
      unfold kK;refine dq (aj (a:=mI N acc) rfl (ax (ds:=[.lst [mI N fun p=>a p !=a' p,mI N fun p=>b p !=b' p,mI N fun p=>c p !=c' p]]) (ao (cq (bQ (ds:=[.int 0, .int 1, .int 2]) rfl (by simp;omega) ?_)) rfl) Cd) (uJ N _ _)) (by simp)
      have go:∀(l:List (D × D)),(∀q∈l,e2 yP (e2 cn (ag 1) (ag 0)) (e2 cn (ag 2) (ag 0)) [.val q.1, .val (.tup [mI N a,mI N b,mI N c]), .val (.tup [mI N a',mI N b',mI N c'])]= .ok q.2)->
       l3 (aA 0) i7 (e2 yP (e2 cn (ag 1) (ag 0)) (e2 cn (ag 2) (ag 0))) [.un, .val (.tup [mI N a,mI N b,mI N c]), .val (.tup [mI N a',mI N b',mI N c'])] (l.map (·.1))= .ok (l.map (·.2)):=fun l hl=>
       NT.bw (fun q:D × D=>q.1) (fun q:D × D=>q.2) fun q hq=>⟨[.val q.1, .val (.tup [mI N a,mI N b,mI N c]), .val (.tup [mI N a',mI N b',mI N c'])],rfl,rfl,hl q hq⟩
      refine go [(.int 0,mI N fun p=>a p !=a' p),(.int 1,mI N fun p=>b p !=b' p),(.int 2,mI N fun p=>c p !=c' p)] fun q hq=>?_
      simp only[List.mem_cons,List.not_mem_nil,or_false] at hq;rcases hq with rfl | rfl | rfl
      .exact aj (aj rfl rfl CD) (aj rfl rfl CD) (p7 N a a')
      .exact aj (aj rfl rfl E4) (aj rfl rfl E4) (p7 N b b')
      .exact aj (aj rfl rfl Ja) (aj rfl rfl Ja) (p7 N c c'))
 have hlen:(mv (bq N os ws) (bq N os vs)).length=os.length:=by rw[rV,List.length_map]
 refine bh (gc (ds:=mv (bq N os ws) (bq N os vs)) rfl e1) ?_;rw[hlen,List.take_length] at ku;subst ku;exact bJ rfl
end
end K33
end
section
namespace K33
open PySem PySem.Spec PyProof.Rows L2 L3 MT JT
def bp(T:List Nat):D:= .tup (T.map nI)
theorem Bh{ds es:List D}(h:ds.length+es.length<=sizeLine):jB (.tup ds) (.tup es)= .ok (.tup (ds++es)):=bG _ h
theorem xm{f g:FD}{δ:ak}{a b:Nat}(h:f δ= .ok (.int a))(h2:g δ= .ok (.int b))(ha:a < 1000000)(hb:b < 1000000):n6 f g δ= .ok ((List.range' a (b - a)).map nI):=by
 unfold n6;rw[h,R.aJ,h2,R.aJ];show R.aU (decide (-(2 ^ 62)<=(a:Int)/\(a:Int) < 2 ^ 62/\ -(2 ^ 62)<=(b:Int)/\(b:Int) < 2 ^ 62)) _=_;rw[bG _ ⟨by omega,by omega,by omega,by omega⟩,show((b:Int) - a).toNat=b - a by omega,List.range'_eq_map_range,List.map_map]
 congr 1
theorem m8{e:Nat}:∀(m f:Nat),(mh f e m).length<=e ^ m
 | 0,f=>by unfold mh;simp
 | m+1,f=>by
   unfold mh;rw[List.length_flatMap,Nat.pow_succ];refine Nat.le_trans (ql (m:=e ^ m) fun x hx=>?_) ?_
   .obtain⟨a,_,rfl⟩:=List.mem_map.mp hx;rw[List.length_map];exact m8 m _
   .rw [List.length_map,List.length_range',Nat.mul_comm];exact Nat.mul_le_mul_left _ (Nat.sub_le _ _)
theorem Fv{e m f:Nat}{B:List Nat}(h:B∈mh f e m):B.length=m:=(sO.mp h).1
theorem yd(e m:Nat)(he:e<=12)(hm:m<=4):e ^ m<=20736:=Nat.le_trans (Nat.pow_le_pow_left he m) (Nat.pow_le_pow_right (by omega) hm)
theorem oF{e:Nat}(he:e<=12):∀(n m f:Nat),m<=n->n<=6->m<=4->f<=100->c0 (n+1) [.int f, .int e, .int m]= .ok (.lst ((mh f e m).map bp))
 | n,0,f,_,_,_,_=>by
   show pj iu (ig (c0 n)) _=_;unfold ig;exact cw (NT.iR (oC (gp (a:= .int 0) (b:= .int 0) rfl rfl rfl) (bJ rfl)))
 | 0,m+1,f,h,_,_,_=>by omega
 | n+1,m+1,f,h,hn,hm4,hf=>by
   have hz:sizeLine=16777216:=sizeLine_eq;show pj iu (ig (c0 (n+1))) _=_;unfold ig;refine cw (bh (iG (gp (a:= .int (m+1:Nat)) (b:= .int 0) (k:=false) rfl rfl ?_) rfl) ?_)
   .show R.ok (D.bl (((m+1:Nat):Int)==0))=_;congr 2
   refine bh (xl (ds:=[]) rfl (by simp [dt,iu])) ?_
   let F:Nat->Rr:=fun i=>((List.range' f (e - f)).take i).flatMap fun w=>(mh ((w / 3+1)*3) e m).map (w ::·)
   have hFl:∀i,(F i).length<=12*20736:=fun i=>by
    show(((List.range' f (e - f)).take i).flatMap fun w=>(mh ((w / 3+1)*3) e m).map (w ::·)).length<=_
    rw[List.length_flatMap];refine Nat.le_trans (ql (m:=20736) fun x hx=>?_) (by rw[List.length_map,List.length_take,List.length_range'];exact Nat.mul_le_mul_right _ (by omega))
    obtain⟨a,_,rfl⟩:=List.mem_map.mp hx;rw[List.length_map];exact Nat.le_trans (m8 m _) (yd e m he (by omega))
   obtain⟨cY,e1,a4,a5,a6,ku⟩:=eS (t:=aA 4) (body:=j2 (c0 (n+1))) (ds:=(List.range' f (e - f)).map nI)
    (fun i δ=>∃a4 a5 a6,δ=[.val (.int f), .val (.int e), .val (.int (m+1:Nat)), .bld ((F i).map bp),a4,a5,a6]) (δ:=[.val (.int f), .val (.int e), .val (.int (m+1:Nat)), .bld [], .un, .un, .un]) ⟨.un, .un, .un,by simp [F]⟩ (by
      rintro i d δ hd ⟨a4,a5,a6,rfl⟩;obtain⟨w,hw,rfl⟩:=NT.mQ hd;have hwm:=List.mem_of_getElem? hw;obtain⟨j,hj,ej⟩:=List.mem_range'.mp hwm;rw[show aA 4 (nI w) [.val (.int f), .val (.int e), .val (.int (m+1:Nat)), .bld ((F i).map bp),a4,a5,a6]= .ok [.val (.int f), .val (.int e), .val (.int (m+1:Nat)), .bld ((F i).map bp), .val (nI w),a5,a6] from rfl,R.aJ]
      unfold j2;have ihc:=oF he n m ((w / 3+1)*3) (by omega) (by omega) (by omega) (by omega)
      have hFs:F (i+1)=F i++(mh ((w / 3+1)*3) e m).map (w ::·):=by
       show((List.range' f (e - f)).take (i+1)).flatMap _=_;rw[List.take_add_one,hw,List.flatMap_append];simp [F]
      have hFi:=hFl i;have hdl:(mh ((w / 3+1)*3) e m).length<=20736:=Nat.le_trans (m8 m _) (yd e m he (by omega))
      obtain⟨dj,kl,c6,zE⟩:=eS (t:=aA 6) (body:=j4 (c0 (n+1))) (ds:=(mh ((w / 3+1)*3) e m).map bp)
       (fun j δ=>∃c6,δ=[.val (.int f), .val (.int e), .val (.int (m+1:Nat)), .bld ((F i++((mh ((w / 3+1)*3) e m).take j).map (w ::·)).map bp), .val (nI w), .val (nI ((w / 3+1)*3)),c6]) (δ:=[.val (.int f), .val (.int e), .val (.int (m+1:Nat)), .bld ((F i).map bp), .val (nI w), .val (nI ((w / 3+1)*3)),a6]) ⟨a6,by simp⟩ (by
         rintro j d δ hd ⟨c6,rfl⟩;obtain⟨T,hT,rfl⟩:=NT.mQ hd;have hTl:=Fv (List.mem_of_getElem? hT);refine⟨[.val (.int f), .val (.int e), .val (.int (m+1:Nat)), .bld ((F i++((mh ((w / 3+1)*3) e m).take (j+1)).map (w ::·)).map bp), .val (nI w), .val (nI ((w / 3+1)*3)), .val (bp T)],?_,⟨_,rfl⟩⟩
         generalize hL:(F i++((mh ((w / 3+1)*3) e m).take j).map (w ::·)).map bp=L
         have hLl:L.length < sizeLine:=by
          rw[<-hL,List.length_map,List.length_append,List.length_map,List.length_take];omega
         rw[show aA 6 (bp T) [.val (.int f), .val (.int e), .val (.int (m+1:Nat)), .bld L, .val (nI w), .val (nI ((w / 3+1)*3)),c6]= .ok [.val (.int f), .val (.int e), .val (.int (m+1:Nat)), .bld L, .val (nI w), .val (nI ((w / 3+1)*3)), .val (bp T)] from rfl,R.aJ]
         unfold j4;rw[Dm (d:=bp (w ::T)) (ds:=L) (aj (a:= .tup [nI w]) (b:=bp T) (bX rfl (by simp;omega)) rfl (Bh (by rw[List.length_map];simp;omega))) rfl hLl,<-hL,List.take_add_one,hT]
         simp [bp])
      refine⟨_,bh (dq (d:=nI ((w / 3+1)*3)) (aj (a:=nI (w / 3+1)) (b:= .int 3) (aj (a:=nI (w / 3)) (b:= .int 1) (aj (a:=nI w) (b:= .int 3) rfl rfl ?_) rfl rfl) rfl ?_) (by simp)) (gc (ds:=(mh ((w / 3+1)*3) e m).map bp) (fW (ax (ds:=[.int ((w / 3+1)*3:Nat), .int e, .int m]) (ao rfl (ao rfl (ao (aj (a:= .int (m+1:Nat)) (b:= .int 1) rfl rfl ?_) rfl))) ihc)) kl),?_⟩
      .exact sL (by omega) (by omega)
      .show R.aU (decide _) (R.ok (D.int (((w / 3+1:Nat):Int)*3)))=_;rw[bG _ (.inr ⟨by omega,by omega⟩)]
       unfold nI;congr 2
      .show R.ok (D.int (((m+1:Nat):Int) - 1))=_;congr 2;omega
      .rw [List.length_map,List.take_length] at zE;refine⟨.val (nI w), .val (nI ((w / 3+1)*3)),c6,?_⟩;rw[zE,hFs])
   refine bh (gc (ds:=(List.range' f (e - f)).map nI) (xm (a:=f) (b:=e) rfl rfl (by omega) (by omega)) e1) ?_
   rw[List.length_map,List.length_range'] at ku;have hFe:F (e - f)=mh f e (m+1):=by
    show((List.range' f (e - f)).take (e - f)).flatMap _=_;rw[List.take_of_length_le (by rw[List.length_range'];exact Nat.le_refl _)];rfl
   rw[hFe] at ku;subst ku;exact bJ rfl
def eh(f:List Nat × List Nat):D:= .tup [bp f.1,bp f.2]
section
variable {c:Nat} {ins:Rp} {gs:List Gt} {os:Rq}
theorem y7(hg:gs.length < 1000)(δ:ak)(xh:δ[0]? =some (.val (bV ins gs os))):cx (hX (e2 cn (ag 0) (eC (.int 1)))) (hJ 2 (bR (aA 0) (bR (aA 1) ia))) (sJ (sG (e2 cn (ag 1) (eC (.int 2))))) (bZ (ah (bZ aD) (ah (bZ (ah (ag 0) aD)) aD))) ["place","gate"] [] δ=
 .ok (((gs.zipIdx.filter (fun x=>!x.1.2.2)).map (fun x=>(([]:List Nat),[x.2]))).map eh):=by
 have hz:sizeLine=16777216:=sizeLine_eq;have en:dy (gs.map iX)=gs.zipIdx.map fun x=>D.tup [.int x.2,iX x.1]:=by
  unfold dy;rw[List.zipIdx_map,List.map_map];rfl
 refine bQ (ds:=gs.zipIdx.map fun x=>D.tup [.int x.2,iX x.1]) (by rw[<-en];exact wk (aj (a:=bV ins gs os) (b:= .int 1) (by unfold ag;rw [xh]) rfl rfl)) (by rw[List.length_map,List.length_zipIdx];omega) ?_
 rw[List.map_map];refine NT.jR (fun x:Gt × Nat=>!x.1.2.2) (fun x:Gt × Nat=>D.tup [.int x.2,iX x.1]) _ fun x hx=>⟨[.val (.int x.2), .val (iX x.1)],rfl,?_,fun _=>?_⟩
 .unfold sJ sG;rw[show e2 cn (ag 1) (eC (.int 2)) [.val (.int x.2), .val (iX x.1)]= .ok (.bl x.1.2.2) from aj (a:=iX x.1) (b:= .int 2) rfl rfl rfl]
  rfl
 .exact bX (ao rfl (ao (bX rfl (by simp;omega)) rfl)) (by simp;omega)
theorem zy(hc:ins.length=c)(Hq:c<=4)(hg:gs.length < 1000):dh [bV ins gs os]= .ok (.lst ((uk c gs).map eh)):=by
 have hz:sizeLine=16777216:=sizeLine_eq;unfold dh jq
 let G:List (List Nat × List Nat):=(gs.zipIdx.filter (fun x=>!x.1.2.2)).map (fun x=>(([]:List Nat),[x.2]))
 have hGl:G.length < 1000:=by
  show((gs.zipIdx.filter _).map _).length < 1000;rw[List.length_map];have:=List.length_filter_le (fun x:Gt × Nat=>!x.1.2.2) gs.zipIdx
  rw[List.length_zipIdx] at this;omega
 let F:Nat->List (List Nat × List Nat):=fun i=>G++((List.range' 1 c).take i).flatMap fun m=>(mh 0 (3*c) m).map fun B=>(B,([]:List Nat))
 refine cw (bh (xl (ds:=G.map eh) (y7 hg _ rfl) (by simp [dt,cF])) (bh (dq (d:=nI c) (ax (ds:=[.lst (ins.map inD)]) rfl (by rw[vZ,List.length_map,hc];rfl)) (by simp [dt,cF])) ?_))
 have hFl:∀i,(F i).length<=1000+4*20736:=fun i=>by
  show(G++_).length<=_;rw[List.length_append,List.length_flatMap];have:(((List.range' 1 c).take i).map fun m=>((mh 0 (3*c) m).map fun B=>(B,([]:List Nat))).length).sum<=4*20736:=by
   refine Nat.le_trans (ql (m:=20736) fun x hx=>?_) (by rw[List.length_map,List.length_take,List.length_range'];exact Nat.mul_le_mul_right _ (by omega))
   obtain⟨a,ha,rfl⟩:=List.mem_map.mp hx;obtain⟨j,hj,ej⟩:=List.mem_range'.mp (List.mem_of_mem_take ha);rw[List.length_map];exact Nat.le_trans (m8 a _) (yd _ a (by omega) (by omega))
  omega
 obtain⟨cY,e1,a3,ku⟩:=eS (t:=aA 3) (body:=eP) (ds:=(List.range' 1 (c+1 - 1)).map nI)
  (fun i δ=>∃a3,δ=[.val (bV ins gs os), .bld ((F i).map eh), .val (nI c),a3]) (δ:=[.val (bV ins gs os), .bld (G.map eh), .val (nI c), .un]) ⟨.un,by simp [F]⟩ (by
    rintro i d δ hd ⟨a3,rfl⟩;obtain⟨m,hm,rfl⟩:=NT.mQ hd;obtain⟨j,hj,ej⟩:=List.mem_range'.mp (List.mem_of_getElem? hm);have hFs:F (i+1)=F i++(mh 0 (3*c) m).map fun B=>(B,([]:List Nat)):=by
     show G++((List.range' 1 c).take (i+1)).flatMap _=_;rw[Nat.add_sub_cancel] at hm;rw[List.take_add_one,hm,List.flatMap_append,<-List.append_assoc];simp [F]
    have hb:(mh 0 (3*c) m).length<=20736:=Nat.le_trans (m8 m _) (yd _ m (by omega) (by omega))
    refine⟨[.val (bV ins gs os), .bld ((F (i+1)).map eh), .val (nI c), .val (nI m)],?_,⟨_,rfl⟩⟩;rw[show aA 3 (nI m) [.val (bV ins gs os), .bld ((F i).map eh), .val (nI c),a3]= .ok [.val (bV ins gs os), .bld ((F i).map eh), .val (nI c), .val (nI m)] from rfl,R.aJ]
    unfold eP;have hFi:=hFl i;have key:cx (cM (aQ (c0 7) (ah (eC (.int 0)) (ah (e2 km (ag 2) (eC (.int 3))) (ah (ag 3) aD))))) (aA 0) i7 (bZ (ah (ag 0) (ah (bZ aD) aD))) ["bad"] [] [.val (bV ins gs os), .bld ((F i).map eh), .val (nI c), .val (nI m)]= .ok (((mh 0 (3*c) m).map fun B=>(B,([]:List Nat))).map eh):=by
     refine bQ (ds:=(mh 0 (3*c) m).map bp) (fW (ax (ds:=[.int (0:Nat), .int (3*c:Nat), .int m]) (ao rfl (ao (aj (a:=nI c) (b:= .int 3) rfl rfl ?_) rfl)) (oF (by omega) 6 m 0 (by omega) (by omega) (by omega) (by omega)))) (by rw[List.length_map];omega) ?_
     .show R.aU (decide _) (R.ok (D.int ((c:Int)*3)))=_;rw[bG _ (.inr ⟨by omega,by omega⟩)]
      congr 2;omega
     .rw [List.map_map];exact NT.bw bp _ fun B hB=>⟨[.val (bp B)],rfl,rfl,bX (ao rfl (ao rfl rfl)) (by simp;omega)⟩
    unfold C2;rw[key,R.aJ];show(nk [.val (bV ins gs os), .bld ((F i).map eh), .val (nI c), .val (nI m)] 1).bind _=_;rw[show nk [.val (bV ins gs os), .bld ((F i).map eh), .val (nI c), .val (nI m)] 1= .ok ((F i).map eh) from rfl,R.aJ,bG _ (by rw[List.length_map,List.length_map,List.length_map];omega),hFs,show((F i++(mh 0 (3*c) m).map fun B=>(B,([]:List Nat))).map eh)=(F i).map eh++((mh 0 (3*c) m).map fun B=>(B,([]:List Nat))).map eh from List.map_append]
    rfl)
 refine bh (gc (ds:=(List.range' 1 (c+1 - 1)).map nI) (xm (a:=1) (b:=c+1) rfl (aj (a:=nI c) (b:= .int 1) rfl rfl rfl) (by omega) (by omega)) e1) ?_
 have hFe:F (c+1 - 1)=uk c gs:=by
  show G++((List.range' 1 c).take (c+1 - 1)).flatMap _=_;rw[List.take_of_length_le (by rw[List.length_range'];omega)];rfl
 rw[List.length_map,List.length_range',hFe] at ku;subst ku;exact bJ rfl
end
end K33
end
section
namespace K33
open PySem PySem.Spec PyProof.Rows L2 L3 MT JT
def nZ(ps:List Nat):List Int:=ps.map fun(n:Nat)=>(n:Int)
theorem JH(ps:List Nat):(nZ ps).map D.int=ps.map nI:=by unfold nZ;rw [List.map_map];rfl
theorem AM(ps:List Nat)(i:Nat):(nZ ps).contains (i:Int)=ps.contains i:=by
 rw[Bool.eq_iff_iff];unfold nZ;simp only[List.contains_iff_mem,List.mem_map];exact⟨fun⟨a,ha,e⟩=>(by rw[<-Int.ofNat_inj.mp e];exact ha),fun h=>⟨i,h,rfl⟩⟩
theorem sT:∀{ins:Rp} {bits:List Bool},(∀x∈ins,x.2=3)->ins.length=bits.length->qM ins bits=Gj bits
 | [],[],_,_=>rfl
 | [],_ ::_,_,h=>by simp at h
 | _ ::_,[],_,h=>by simp at h
 | x ::ins,b ::bits,h3,h=>by
   rw[pA,sT (fun y hy=>h3 y (List.mem_cons_of_mem _ hy)) (by simpa using h),h3 x List.mem_cons_self]
   rfl
section
variable {c:Nat} {ins:Rp} {gs:List Gt} {os:Rq} {S:bc}
theorem pB(hc:ins.length=c)(h3:∀x∈ins,x.2=3){p:Nat}(hp:p < 2 ^ c)(f:List Nat × List Nat):gW p (Wd c ins gs (nZ f.2) (nZ f.1))=kI c gs f p:=by
 unfold Wd;rw[D1 (by rw[k3,hc]),zW hp]
 unfold kR kI;rw[sT h3 (by rw[fP hp,hc])]
 have e1:(fun i:Nat=>(nZ f.2).contains (i:Int))=fun i=>f.2.contains i:=funext fun i=>AM _ _
 have e2:(fun i:Nat=>(nZ f.1).contains (i:Int))=fun i=>f.1.contains i:=funext fun i=>AM _ _
 rw[e1,e2]
theorem nj{p:Nat}:kI c gs ([],[]) p=nR c gs p:=by
 unfold kI nR;rw[uK _ _ fun _ _=>rfl]
 rfl
def oP:Option (List Nat × List Nat × Nat)->D
 | none=> .tup [.str "keeps"]
 | some (B,T,p)=> .tup [.str "loses",bp B,bp T,nI p]
theorem xF(hS:Flat S){x:SO}(hx:wI (S.length+1) x=true):D7 (S++[x]):=fun o ho=>by
 rw[show(S++[x]).length=S.length+1 by simp]
 rcases List.mem_append.mp ho with q | q
 .exact hS o q _
 .rw [List.mem_singleton.mp q];exact hx
theorem sV{N:Nat}{f:M}:yW (mI N f) (.int 0)= .ok (.bl (!(decide (ik N f=0)))):=by
 show R.ok (D.bl (!((ik N f:Int)==0)))=_;congr 3;by_cases q:ik N f=0
 .rw [q];rfl
 .rw [decide_eq_false q];exact beq_eq_false_iff_ne.mpr (by omega)
theorem lD{f:M}{N:Nat}:ik N f=0↔(List.range N).find? f=none:=by
 rw[vw,List.find?_eq_none];exact⟨fun h i hi=>by rw[h i (List.mem_range.mp hi)];decide,fun h i hi=>by have:=h i (List.mem_range.mpr hi);cases hf:f i with | false=>rfl | true=>exact absurd hf this⟩
abbrev BS(S:bc)(c:Nat)(ins:Rp)(gs:List Gt)(os:Rq):bc:=S++[.ins 0 (eN c (bV ins gs os))]
theorem rO:(BS S c ins gs os)[S.length]? =some (.ins 0 (eN c (bV ins gs os))):=aR _ _
theorem uD{f:M}{p:Nat}{δ:DE}{g:FX}{i:Nat}(hS:Flat S)(Hx:c<=10)(hv:δ[i]? =some (some (.loc S.length)))(hg:∀{Q:V3->bc->Prop},Q (.d (mI (2 ^ c) f)) (BS S c ins gs os)->W3 (g δ (BS S c ins gs os)) Q)(hp:(List.range (2 ^ c)).find? f=some p){Q:V3->bc->Prop}(h:Q (.d (nI p)) (BS S c ins gs os)) :
 W3 (Je (pF 0 "inputs_in" cf (iF i) (br g gy)) (xP (eC (.int 0))) δ (BS S c ins gs os)) Q:=by
 refine Lg <| v7 (k:=S.length) <| w_var (v:= .loc S.length) hv ⟨_,rfl,rO,F6 _ _ (by decide+kernel) (by decide+kernel) (by decide+kernel) (by decide+kernel),?_⟩
 refine ba <| hg <| eV <| sv Hx (xF hS rfl) rO <| eo (d:= .int 0) rfl ⟨_,_,nI p,rfl,rfl,n_ ?_,h⟩
 rw[<-List.head?_filter] at hp;obtain⟨r,hr⟩:∃r,(List.range (2 ^ c)).filter f=p ::r:=by
  cases q:(List.range (2 ^ c)).filter f with
  | nil=>rw [q] at hp;cases hp
  | cons a r=>rw [q] at hp;cases hp;exact⟨r,rfl⟩
 rw[hr,jQ (by omega) (by simp)]
 rfl
abbrev kE(S:bc)(ins:Rp)(gs:List Gt)(os:Rq)(plain:D)(a3 a4 a5:Option V3):DE:=[some (.d (bV ins gs os)),some (.loc S.length),some (.d plain),a3,a4,a5]
def ko(c:Nat)(gs:List Gt)(os:Rq)(f:List Nat × List Nat):Option (List Nat × List Nat × Nat):=((List.range (2 ^ c)).find? (iS c gs os f)).map fun p=>(f.1,f.2,p)
theorem wa{a3:Option V3}{f:List Nat × List Nat}(NO:lU ins gs os)(hc:ins.length=c)(Hx:c<=10)(h3:∀x∈ins,x.2=3)(ho:∀x∈os,x.2.length=3)(hS:Flat S) :
 W3 (nY (kE S ins gs os (.lst (bq (2 ^ c) os (Wd c ins gs (nZ []) (nZ [])))) a3 (some (.d (bp f.1))) (some (.d (bp f.2)))) (BS S c ins gs os)) fun o S1=>S1=BS S c ins gs os/\
  (match (ko c gs os f).map fun r=>V3.d (oP (some r)) with | some v=>o= .rt v | none=>∃dj,o= .nx dj/\∃b3 b4 b5,dj=kE S ins gs os (.lst (bq (2 ^ c) os (Wd c ins gs (nZ []) (nZ [])))) b3 b4 b5):=by
 have hz:sizeLine=16777216:=sizeLine_eq;unfold nY;have em:(mI (2 ^ c) fun p=>os.any fun x=>lst (bH (gW p (Wd c ins gs (nZ []) (nZ []))) x.2) (bH (gW p (Wd c ins gs (nZ f.2) (nZ f.1))) x.2))=mI (2 ^ c) (iS c gs os f):=m5 fun p hp=>by
  unfold iS;rw[pB hc h3 hp f,pB hc h3 hp ([],[]),nj]
 refine bC <| cJ (by simp) <| xZ <| ba <| eo (d:= .lst (bq (2 ^ c) os (Wd c ins gs (nZ []) (nZ [])))) rfl <| ba <| v7 (k:=S.length) <| w_var (v:= .loc S.length) rfl ⟨_,rfl,rO,F6 _ _ (by decide+kernel) (by decide+kernel) (by decide+kernel) (by decide+kernel),?_⟩
 refine ba <| eo (d:= .tup ((nZ f.2).map .int)) (by rw[JH];rfl) <| ba <| eo (d:= .tup ((nZ f.1).map .int)) (by rw[JH];rfl) <| eV <| va NO hc (xF hS rfl) rO <| eV ⟨[.lst (bq (2 ^ c) os (Wd c ins gs (nZ []) (nZ []))), .lst (bq (2 ^ c) os (Wd c ins gs (nZ f.2) (nZ f.1)))],_,rfl,DJ ho,_,rfl,?_⟩
 rw[em];generalize bq (2 ^ c) os (Wd c ins gs (nZ []) (nZ []))=pl;simp only[List.set];refine wq <| wK (b:=!(decide (ik (2 ^ c) (iS c gs os f)=0))) (gp (a:=mI (2 ^ c) (iS c gs os f)) (b:= .int 0) rfl rfl sV) ?_
 unfold ko;cases hh:(List.range (2 ^ c)).find? (iS c gs os f) with
 | none=>
   rw[decide_eq_true (lD.mpr hh),if_neg (by decide)]
   exact nJ ⟨rfl,_,rfl,_,_,_,rfl⟩
 | some p=>
   have Cg:¬ik (2 ^ c) (iS c gs os f)=0:=fun q=>by rw[lD.mp q] at hh;cases hh
   rw[decide_eq_false Cg,if_pos (by decide)]
   refine il <| EU <| ba <| eo (d:= .str "loses") rfl <| ba <| eo (d:=bp f.1) rfl <| ba <| eo (d:=bp f.2) rfl <| ba <| uD hS Hx rfl (fun h=>eo rfl h) hh <| eV ⟨by simp;omega,rfl,rfl⟩
theorem uE(NO:lU ins gs os)(hc:ins.length=c)(Hq:c<=4)(h3:∀x∈ins,x.2=3)(ho:∀x∈os,x.2.length=3)(hS:Flat S){Q:V3->bc->Prop}(h:Q (.d (oP (i9 c gs os))) S) :
 W3 (mM [.d (bV ins gs os)] S) Q:=by
 have hz:sizeLine=16777216:=sizeLine_eq;unfold mM;refine lV hS.Iu (AY rfl ?_);simp only[dr,ph,List.map,List.length,List.replicate,List.cons_append,List.nil_append,Nat.reduceAdd,Nat.reduceSub];unfold tp;have hw:((ins.all fun x=>decide (x.2=3)) && os.all fun x=>decide (x.2.length=3))=true:=by
  rw[Bool.and_eq_true,List.all_eq_true,List.all_eq_true];exact⟨fun x hx=>decide_eq_true (h3 x hx),fun x hx=>decide_eq_true (ho x hx)⟩
 refine bC <| wq <| wK (b:=false) ?_ ?_
 .unfold sJ sG;rw[show aQ d6 (ah (ag 0) (ah (eC (.int 3)) aD)) (down [some (.d (bV ins gs os)),none,none,none,none,none])= .ok (.bl true) from(ax (ds:=[bV ins gs os, .int (3:Nat)]) rfl (y6 3 (by have:=NO.hi;omega) NO.ho)).trans (by rw[hw])]
  rfl
 rw[if_neg (by decide)]
 refine nJ ⟨_,rfl,?_⟩;refine bC <| cJ (by simp) <| G3 <| ba <| eo (d:=bV ins gs os) rfl <| eV <| DT hc (by omega) (xF hS rfl) ⟨rfl,_,rfl,?_⟩
 simp only[List.set];refine bC <| cJ (by simp) <| v7 (k:=S.length) <| w_var (v:= .loc S.length) rfl ⟨_,rfl,rO,F6 _ _ (by decide+kernel) (by decide+kernel) (by decide+kernel) (by decide+kernel),?_⟩
 refine ba <| eo (d:= .tup ((nZ []).map .int)) rfl <| ba <| eo (d:= .tup ((nZ []).map .int)) rfl <| eV <| va NO hc (xF hS rfl) rO ⟨_,rfl,?_⟩
 simp only[List.set];have em:(mI (2 ^ c) fun p=>os.any fun x=>vA (bH (gW p (Wd c ins gs (nZ []) (nZ []))) x.2))=mI (2 ^ c) (nD c gs os):=m5 fun p hp=>by
  unfold nD;rw[pB hc h3 hp ([],[]),nj]
 refine bC <| cJ (by simp) <| eo (d:=mI (2 ^ c) (nD c gs os)) ((ax (ds:=[.lst (bq (2 ^ c) os (Wd c ins gs (nZ []) (nZ [])))]) rfl (zm ho)).trans (by rw[em])) ⟨_,rfl,?_⟩
 simp only[List.set];cases hu:(List.range (2 ^ c)).find? (nD c gs os) with
 | some p=>
   have Cg:¬ik (2 ^ c) (nD c gs os)=0:=fun q=>by rw[lD.mp q] at hu;cases hu
   refine FW <| wq <| wK (b:=true) ((gp (a:=mI (2 ^ c) (nD c gs os)) (b:= .int 0) rfl rfl sV).trans (by rw[decide_eq_false Cg];rfl)) ?_
   rw[if_pos rfl];have hk:i9 c gs os=some ([],[],p):=by unfold i9;rw [hu]
   rw[hk] at h;refine il <| EU <| ba <| eo (d:= .str "loses") rfl <| ba <| eo (d:= .tup []) rfl <| ba <| eo (d:= .tup []) rfl <| ba <| uD hS (by omega) rfl (fun h=>eo rfl h) hu <| eV ⟨by simp;omega,_,rfl,_,rfl,rfl,⟨_,rfl⟩,_,rfl,h⟩
 | none=>
   refine bC <| wq <| wK (b:=false) ((gp (a:=mI (2 ^ c) (nD c gs os)) (b:= .int 0) rfl rfl sV).trans (by rw[decide_eq_true (lD.mpr hu)];rfl)) ?_
   rw[if_neg (by decide)]
   refine nJ ⟨_,rfl,?_⟩;refine wj <| iT <| kr (ds:=(uk c gs).map eh) (fW (ax (ds:=[bV ins gs os]) rfl (zy hc Hq NO.hg))) ?_
   rw[List.map_map];refine(hV (S:=BS S c ins gs os) (V3.d ∘ eh) (fun f=>(ko c gs os f).map fun r=>V3.d (oP (some r))) (fun δ=>∃a3 a4 a5,δ=kE S ins gs os (.lst (bq (2 ^ c) os (Wd c ins gs (nZ []) (nZ [])))) a3 a4 a5)
    ⟨_,_,_,rfl⟩ ?_).mono fun o S1 ⟨e1,h1⟩=>?_
   .rintro f hf δ ⟨a3,a4,a5,rfl⟩;refine⟨kE S ins gs os (.lst (bq (2 ^ c) os (Wd c ins gs (nZ []) (nZ [])))) a3 (some (.d (bp f.1))) (some (.d (bp f.2))),rfl,?_⟩;exact wa NO hc (by omega) h3 ho hS
   .subst e1;have hk:i9 c gs os=(uk c gs).findSome? (ko c gs os):=by unfold i9;rw [hu];rfl
    rw[hk] at h;have hfs:(uk c gs).findSome? (fun f=>(ko c gs os f).map fun r=>V3.d (oP (some r)))=((uk c gs).findSome? (ko c gs os)).map fun r=>V3.d (oP (some r)):=by
     rw[List.map_findSome?];rfl
    rw[hfs] at h1;cases htt:(uk c gs).findSome? (ko c gs os) with
    | none=>
      rw[htt] at h1 h;obtain⟨dj,rfl,b3,b4,b5,rfl⟩:=h1;exact il <| eo (d:=oP none) rfl ⟨_,rfl,by unfold iW;rfl,⟨_,rfl⟩,_,by unfold res;rfl,h⟩
    | some d=>
      rw[htt] at h1 h;subst h1;exact⟨_,rfl,by unfold iW;rfl,⟨_,rfl⟩,_,by unfold res;rfl,h⟩
end
end K33
end
section
set_option maxHeartbeats 4000000
namespace K33
open PySem PySem.Spec PyProof.Rows L2 L3 MT JT
def stir(cell k:Int):Int:=if 10 ^ 18<=cell then(cell - 10 ^ 18) / 2 ^ (28*k).toNat % 2 ^ 28
 else((cell+1013*k+1)*16807 % 2147483647)*((cell+1013*k+1)*16807 % 2147483647) % 2147483629*39373 % 2147483587 / 8
theorem DO(cell k:Int)(hk:0<=k):cH [.int cell, .int k]= .ok (.int (stir cell k)):=by
 have p1:∀δ,e2 yK (eC (.int 10)) (eC (.int 18)) δ= .ok (.int (10 ^ 18)):=fun δ=>rfl
 have p2:∀δ,e2 yK (eC (.int 2)) (eC (.int 28)) δ= .ok (.int (2 ^ 28)):=fun δ=>rfl
 have ge:∀a b:Int,Li (.int a) (.int b)= .ok (.bl (decide (a>=b))):=fun a b=>rfl
 have mulc:∀(a b:Int),(-(2 ^ 64) < b/\b < 2 ^ 64)->km (.int a) (.int b)= .ok (.int (a*b)):=fun a b h=>by
  show R.aU (decide _) (R.ok (D.int (a*b)))=_;exact bG _ (.inr h)
 have mulc':∀(a b:Int),(-(2 ^ 64) < a/\a < 2 ^ 64)->km (.int a) (.int b)= .ok (.int (a*b)):=fun a b h=>by
  show R.aU (decide _) (R.ok (D.int (a*b)))=_;exact bG _ (.inl h)
 unfold cH pM stir;by_cases h:(10:Int) ^ 18<=cell
 .rw [if_pos h];refine cw (NT.iR (oC (gp (a:= .int cell) (b:= .int (10 ^ 18)) rfl (p1 _) ((ge _ _).trans (by rw[decide_eq_true h]))) (bJ (aj (a:= .int ((cell - 10 ^ 18) / 2 ^ (28*k).toNat)) (b:= .int (2 ^ 28)) (aj (a:= .int (cell - 10 ^ 18)) (b:= .int (28*k)) (aj (a:= .int cell) (b:= .int (10 ^ 18)) rfl (p1 _) rfl) (aj (a:= .int 28) (b:= .int k) rfl rfl (mulc' _ _ ⟨by omega,by omega⟩)) ?_) (p2 _) (qi (by omega))))))
  show R.aU (decide ((0:Int)<=28*k)) (R.ok (D.int ((cell - 10 ^ 18) / 2 ^ (28*k).toNat)))=_;exact bG _ (by omega)
 .rw [if_neg h];refine cw (bh (iG (gp (a:= .int cell) (b:= .int (10 ^ 18)) rfl (p1 _) ((ge _ _).trans (by rw[decide_eq_false h]))) rfl) (bh (dq (d:= .int ((cell+1013*k+1)*16807 % 2147483647)) (aj (a:= .int ((cell+1013*k+1)*16807)) (b:= .int 2147483647) (aj (a:= .int (cell+1013*k+1)) (b:= .int 16807) (aj (a:= .int (cell+1013*k)) (b:= .int 1) (aj (a:= .int cell) (b:= .int (1013*k)) rfl (aj (a:= .int 1013) (b:= .int k) rfl rfl (mulc' _ _ ⟨by omega,by omega⟩)) rfl) rfl rfl) rfl (mulc _ _ ⟨by omega,by omega⟩)) rfl (qi (by omega))) (by simp [dt,jN])) ?_))
  have b1:0<=(cell+1013*k+1)*16807 % 2147483647:=Int.emod_nonneg _ (by omega)
  have Kn:(cell+1013*k+1)*16807 % 2147483647 < 2147483647:=Int.emod_lt_of_pos _ (by omega)
  generalize (cell+1013*k+1)*16807 % 2147483647=x at b1 Kn;refine bh (dq (d:= .int (x*x % 2147483629)) (aj (a:= .int (x*x)) (b:= .int 2147483629) (aj (a:= .int x) (b:= .int x) rfl rfl (mulc _ _ ⟨by omega,by omega⟩)) rfl (qi (by omega))) (by simp [dt,jN])) (bJ ?_)
  exact aj (a:= .int (x*x % 2147483629*39373 % 2147483587)) (b:= .int 8) (aj (a:= .int (x*x % 2147483629*39373)) (b:= .int 2147483587) (aj (a:= .int (x*x % 2147483629)) (b:= .int 39373) rfl rfl (mulc _ _ ⟨by omega,by omega⟩)) rfl (qi (by omega))) rfl (sL (by omega) (by omega))
theorem DH(cell k:Int):0<=stir cell k:=by
 unfold stir;split <;> omega
def stN(cell:Int)(k:Nat):Nat:=(stir cell k).toNat
theorem vn(cell:Int)(k:Nat):cH [.int cell,nI k]= .ok (nI (stN cell k)):=by
 show cH [.int cell, .int k]=_;rw[DO cell k (by omega)]
 unfold nI stN;rw[Int.toNat_of_nonneg (DH _ _)]
end K33
end
section
set_option maxHeartbeats 1000000
namespace K33
open PySem PySem.Spec PyProof.Rows L2 L3 MT JT
theorem DZ(ns:List Int)(k:Nat):eF [.lst (ns.map .int),nI k]= .ok (.int (ns.getD k 0)):=by
 unfold eF l0;by_cases h:k < ns.length
 .refine cw (NT.iR (oC (gp (a:=nI k) (b:=nI ns.length) rfl (ax (ds:=[.lst (ns.map .int)]) rfl (by rw[vZ,List.length_map];rfl)) (by rw[Jf,decide_eq_true h])) (bJ (aj (a:= .lst (ns.map .int)) (b:=nI k) rfl rfl (NT.jO ?_)))))
  rw[List.getElem?_map,List.getD_eq_getElem?_getD,List.getElem?_eq_getElem h];rfl
 .refine cw (bh (iG (gp (a:=nI k) (b:=nI ns.length) rfl (ax (ds:=[.lst (ns.map .int)]) rfl (by rw[vZ,List.length_map];rfl)) (by rw[Jf,decide_eq_false h])) rfl) (bJ ?_))
  rw[List.getD_eq_getElem?_getD,List.getElem?_eq_none (by omega)]
  rfl
end K33
end
section
namespace K33
open PySem PySem.Spec PyProof.Rows L2 L3 MT JT
theorem zB{kd:Nat}{bs:List Bool}(hk:kd<=4)(hb:bs.length=ar kd):lG [.str (kS kd), .lst (bs.map bI)]= .ok (bI (gv kd bs)):=by
 match kd,hk,bs,hb with
 | 0,_,[a],_=>cases a <;> rfl
 | 1,_,[a,b],_=>cases a <;> cases b <;> rfl
 | 2,_,[a,b],_=>cases a <;> cases b <;> rfl
 | 3,_,[a,b],_=>cases a <;> cases b <;> rfl
 | 4,_,[a,b,c],_=>cases a <;> cases b <;> cases c <;> rfl
theorem G8(b:Bool):ny (.int 1) (bI b)= .ok (bI (!b)):=by cases b <;> rfl
theorem xB{f g:FD}{δ:ak}{b c:Bool}(hf:f δ= .ok (bI b))(hg:g δ= .ok (.bl c)):e2 cn (eNew (fK (ah f (ah (e2 ny (eC (.int 1)) f) aD)))) (aQ pG (ah g aD)) δ= .ok (bI (b !=c)):=by
 have hz:sizeLine=16777216:=sizeLine_eq;refine aj (a:= .lst [bI b,bI (!b)]) (b:= .int (if c then 1 else 0)) (cq (t4 (ao hf (ao (aj (a:= .int 1) (b:=bI b) rfl hf (G8 b)) rfl)) (by simp;omega))) (ax (ds:=[.bl c]) (ao hg rfl) (by cases c <;> rfl)) ?_
 cases b <;> cases c <;> rfl
theorem Ac(i:Nat)(T:List Nat):EH (nI i) (.tup (T.map nI))= .ok (.bl (T.contains i)):=by
 have e:T.map nI=(T.map fun(n:Nat)=>(n:Int)).map D.int:=(List.map_map (g:=D.int) (f:=fun(n:Nat)=>(n:Int)) (l:=T)).symm
 rw[e];show EH (.int (i:Int)) _=_;rw[sF];congr 2;rw[Bool.eq_iff_iff];simp only[List.contains_iff_mem,List.mem_map];constructor
 .rintro⟨a,ha,e⟩;rw[<-Int.ofNat_inj.mp e];exact ha
 .exact fun h=>⟨i,h,rfl⟩
section
variable {ins:Rp} {gs:List Gt} {os:Rq} {bits:List Bool} {T B:List Nat} {S:bc}
abbrev rE(S:bc)(nt dP tD bD:D)(a5 a6 a7 a8 a9 Ce zG EB:Option V3):DE:=[some (.d nt),some (.d dP),some (.d tD),some (.d bD),some (.loc S.length),a5,a6,a7,a8,a9,Ce,zG,EB]
theorem GX{nt dP tD:D}{a5 a6 a8 a9 Ce zG EB:Option V3}{b:Bool}{ws:List Bool}(hl:ws.length < 10000) :
 W3 (lh (rE S nt dP tD (.tup (B.map nI)) a5 a6 (some (.d (bI b))) a8 a9 Ce zG EB) (S++[.lst (ws.map bI)])) fun o S1=>o= .nx (rE S nt dP tD (.tup (B.map nI)) a5 a6 (some (.d (bI b))) a8 a9 Ce zG EB)/\S1=S++[SO.lst ((ws++[b !=B.contains ws.length]).map bI)]:=by
 have hz:sizeLine=16777216:=sizeLine_eq;unfold lh;have h4:(df (S++[.lst (ws.map bI)]) (rE S nt dP tD (.tup (B.map nI)) a5 a6 (some (.d (bI b))) a8 a9 Ce zG EB))[4]? =some (.val (.lst (ws.map bI))):=by
  unfold df;show some (match res (S++[.lst (ws.map bI)]) (.loc S.length) with | some d=>Sl.val d | none=> .un)=_
  unfold res;rw[aR]
 refine oS (k:=S.length) rfl ⟨_,aR _ _⟩ (HC (d:=bI (b !=B.contains ws.length)) (xB rfl (aj (a:=nI ws.length) (b:= .tup (B.map nI)) (ax (ds:=[.lst (ws.map bI)]) (ao (by unfold ag;rw [h4]) rfl) (by rw[kO,List.length_map])) rfl (Ac _ _))) rfl ⟨_,_,rfl,aR _ _,by rw[List.length_map];omega,rfl,?_⟩)
 rw[cL,List.map_append];rfl
theorem yw{bad:Nat->Bool}{k n:Nat}{b:Bool}:cC k bad (List.replicate (n+1) b)=cC k bad (List.replicate n b)++[b !=bad (k+n)]:=by
 rw[List.replicate_succ',jG,List.length_replicate];rfl
theorem EN{ws:List Bool}{n:Nat}(h:n < ws.length):cn (.lst (ws.map bI)) (nI n)= .ok (bI (ws.getD n false)):=by
 refine NT.jO ?_;rw[List.getElem?_map,List.getElem?_eq_getElem h];show _=some (bI (ws.getD n false));rw[List.getD_eq_getElem?_getD,List.getElem?_eq_getElem h];rfl
theorem A_{nt dP bD:D}{a5 a6 a7 a8:Option V3}{g:Gt}{i:Nat}{ws:List Bool}(hg:yA ws.length g)(hl:ws.length < 20000) :
 W3 (k7 (rE S nt dP (.tup (T.map nI)) bD a5 a6 a7 a8 (some (.d (nI i))) (some (.d (.str (kS g.1)))) (some (.d (.tup (g.2.1.map nI)))) (some (.d (.bl g.2.2)))) (S++[.lst (ws.map bI)])) fun o S1=>(∃b7,o= .nx (rE S nt dP (.tup (T.map nI)) bD a5 a6 b7 a8 (some (.d (nI i))) (some (.d (.str (kS g.1)))) (some (.d (.tup (g.2.1.map nI)))) (some (.d (.bl g.2.2)))))/\S1=S++[SO.lst ((ws++[gB g ws !=T.contains i]).map bI)]:=by
 have hz:sizeLine=16777216:=sizeLine_eq;have ha:=zV g.1;unfold k7;have h4:(df (S++[.lst (ws.map bI)]) (rE S nt dP (.tup (T.map nI)) bD a5 a6 a7 a8 (some (.d (nI i))) (some (.d (.str (kS g.1)))) (some (.d (.tup (g.2.1.map nI)))) (some (.d (.bl g.2.2)))))[4]? =some (.val (.lst (ws.map bI))):=by
  unfold df;show some (match res (S++[.lst (ws.map bI)]) (.loc S.length) with | some d=>Sl.val d | none=> .un)=_
  unfold res;rw[aR]
 refine bC <| cJ (by simp) <| HC (d:=bI (gB g ws)) (ax (ds:=[.str (kS g.1), .lst ((g.2.1.map fun n=>ws.getD n false).map bI)]) (ao rfl (ao (cq (bQ (ds:=g.2.1.map nI) (wd rfl) (by rw[List.length_map];have:=hg.2.1;omega) ?_)) rfl)) (zB hg.1 (by rw[List.length_map];exact hg.2.1))) rfl ⟨_,rfl,?_⟩
 .rw [show(g.2.1.map fun n=>ws.getD n false).map bI=g.2.1.map fun n=>bI (ws.getD n false) from List.map_map]
  have ec:oV ["one"] [4] (df (S++[.lst (ws.map bI)]) (rE S nt dP (.tup (T.map nI)) bD a5 a6 a7 a8 (some (.d (nI i))) (some (.d (.str (kS g.1)))) (some (.d (.tup (g.2.1.map nI)))) (some (.d (.bl g.2.2)))))=[.un, .val (.lst (ws.map bI))]:=by
   show [Sl.un,kz (df (S++[.lst (ws.map bI)]) (rE S nt dP (.tup (T.map nI)) bD a5 a6 a7 a8 (some (.d (nI i))) (some (.d (.str (kS g.1)))) (some (.d (.tup (g.2.1.map nI)))) (some (.d (.bl g.2.2))))) 4]=_;unfold kz;rw[h4]
  rw[ec];exact NT.bw nI _ fun n hn=>⟨[.val (nI n), .val (.lst (ws.map bI))],rfl,rfl,aj (a:= .lst (ws.map bI)) (b:=nI n) rfl rfl (EN (hg.2.2 n hn))⟩
 simp only[List.set];refine oS (k:=S.length) rfl ⟨_,aR _ _⟩ (eo (d:=bI (gB g ws !=T.contains i)) (xB rfl (aj (a:=nI i) (b:= .tup (T.map nI)) rfl rfl (Ac _ _))) ⟨_,_,rfl,aR _ _,by rw[List.length_map];omega,⟨_,rfl⟩,?_⟩)
 rw[cL,List.map_append];rfl
def eD(os:Rq)(ws:List Bool):List D:=os.map fun x=> .tup ((bH ws x.2).map bI)
theorem AD(NO:lU ins gs os)(hb:bits.length=ins.length)(hS:Flat S){Q:V3->bc->Prop}(h:Q (.d (.lst (eD os (kR ins gs bits (fun i=>T.contains i) (fun i=>B.contains i))))) S) :
 W3 (g9 [.d (bV ins gs os), .d (.lst (bits.map bI)), .d (.tup (T.map nI)), .d (.tup (B.map nI))] S) Q:=by
 have hz:sizeLine=16777216:=sizeLine_eq;have hi:=NO.hi;have hg:=NO.hg;have hwd:=tR NO.hw;unfold g9;refine lV hS.Iu (AY rfl ?_);simp only[dr,gY,List.map,List.length,List.replicate,List.cons_append,List.nil_append,Nat.reduceAdd,Nat.reduceSub];unfold nV;refine bC <| cJ (by simp) <| qb (ds:=([]:List Bool).map bI) rfl ⟨_,rfl,?_⟩
 simp only[List.set];have zp:mv (ins.map MT.inD) (bits.map bI)=(ins.zip bits).map fun q=>D.tup [MT.inD q.1,bI q.2]:=by
  unfold mv;rw[List.zip_map,List.map_map];rfl
 refine bC <| iT <| kr (ds:=(ins.zip bits).map fun q=>D.tup [MT.inD q.1,bI q.2]) (by rw[<-zp];rfl) ?_
 let row:Nat->List Bool:=fun i=>cC 0 (fun n=>B.contains n) (qM (ins.take i) (bits.take i))
 have hrl:∀i,i<=ins.length->(row i).length=vf (ins.take i):=fun i hi=>by
  show(cC _ _ _).length=_;rw[n3,pf (by rw[List.length_take,List.length_take,hb])]
 have hrb:∀i,i<=ins.length->(row i).length<=100*i:=fun i hi=>by
  rw[hrl i hi];have:=tR (l:=ins.take i) fun x hx=>NO.hw x (List.mem_of_mem_take hx)
  rw[List.length_take] at this;omega
 refine(dG (fun i δ S2=>(∃a5 a6 a7 a8,δ=rE S (bV ins gs os) (.lst (bits.map bI)) (.tup (T.map nI)) (.tup (B.map nI)) a5 a6 a7 a8 none none none none)/\S2=S++[SO.lst ((row i).map bI)])
  ⟨⟨_,_,_,_,rfl⟩,rfl⟩ ?_).mono fun o S2 ⟨dj,kl,⟨a5,a6,a7,a8,xh⟩,xg⟩=>⟨dj,kl,?_⟩
 .rintro i v δ S2 hv ⟨⟨a5,a6,a7,a8,rfl⟩,rfl⟩;obtain⟨q,hq,rfl⟩:=NT.i_ hv;rw[List.getElem?_zip_eq_some] at hq;obtain⟨q1,q2⟩:=hq;have hil:=(List.getElem?_eq_some_iff.mp q1).1;have hw:=NO.hw q.1 (List.mem_of_getElem? q1);refine⟨rE S (bV ins gs os) (.lst (bits.map bI)) (.tup (T.map nI)) (.tup (B.map nI)) (some (.d (.str q.1.1))) (some (.d (nI q.1.2))) (some (.d (bI q.2))) a8 none none none none,rfl,?_⟩;unfold oO;refine iT <| kr (lR (n:=q.1.2) rfl (by omega)) ?_
  have hr0:=hrb i (by omega)
  refine(dG (fun j δ S3=>(∃a8,δ=rE S (bV ins gs os) (.lst (bits.map bI)) (.tup (T.map nI)) (.tup (B.map nI)) (some (.d (.str q.1.1))) (some (.d (nI q.1.2))) (some (.d (bI q.2))) a8 none none none none)/\S3=S++[SO.lst ((row i++cC (row i).length (fun n=>B.contains n) (List.replicate j q.2)).map bI)])
   ⟨⟨_,rfl⟩,by simp [cC]⟩ ?_).mono fun o S3 ⟨JX,e3,⟨c8,Ci⟩,hS3⟩=>⟨JX,e3,⟨_,_,_,_,Ci⟩,?_⟩
  .rintro j v δ S3 hv ⟨⟨c8,rfl⟩,rfl⟩;obtain⟨j',Fd,rfl⟩:=NT.i_ hv;have hjl:=(List.getElem?_eq_some_iff.mp hv).1;rw[List.length_map,List.length_map,List.length_range] at hjl;refine⟨_,rfl,?_⟩;have tl:(cC (row i).length (fun n=>B.contains n) (List.replicate j q.2)).length=j:=(n3 _ _ _).trans List.length_replicate
   refine(GX (by rw[List.length_append,tl];omega)).mono fun o S4 ⟨e4,e5⟩=>⟨_,e4,⟨_,rfl⟩,?_⟩
   rw[e5,yw,List.length_append,tl,List.append_assoc]
  .rw [hS3,List.length_map,List.length_map,List.length_range];have:row (i+1)=row i++cC (row i).length (fun n=>B.contains n) (List.replicate q.1.2 q.2):=by
    show cC 0 _ (qM (ins.take (i+1)) (bits.take (i+1)))=_;rw[List.take_add_one,List.take_add_one,q1,q2];have hl:(ins.take i).length=(bits.take i).length:=by rw[List.length_take,List.length_take,hb]
    show cC 0 _ (qM (ins.take i++[q.1]) (bits.take i++[q.2]))=_;rw[sZ _ _ hl,jG,Nat.zero_add,hrl i (by omega),pf hl]
    show _++cC _ _ (List.replicate q.1.2 q.2++[])=_;rw[List.append_nil]
   rw[this]
 have hlz:((ins.zip bits).map fun q=>D.tup [MT.inD q.1,bI q.2]).length=ins.length:=by rw[List.length_map,List.length_zip];omega
 rw[List.length_map,hlz] at xg;subst xh xg;have hr1:row ins.length=cC 0 (fun n=>B.contains n) (qM ins bits):=by
  show cC 0 _ (qM (ins.take ins.length) (bits.take ins.length))=_;rw[List.take_length,<-hb,List.take_length]
 have hrl1:=hrl ins.length (Nat.le_refl _);rw[List.take_length] at hrl1;rw[hr1] at hrl1 ⊢;generalize hrow:cC 0 (fun n=>B.contains n) (qM ins bits)=row1 at hrl1
 have enG:dy (gs.map iX)=gs.zipIdx.map fun x=>D.tup [.int x.2,iX x.1]:=by
  unfold dy;rw[List.zipIdx_map,List.map_map];rfl
 refine bC <| iT <| kr (ds:=gs.zipIdx.map fun x=>D.tup [.int x.2,iX x.1]) (by rw[<-enG];exact wk rfl) ?_
 refine(dG (fun i δ S2=>(∃a5 a6 a7 a8 a9 Ce zG EB,δ=rE S (bV ins gs os) (.lst (bits.map bI)) (.tup (T.map nI)) (.tup (B.map nI)) a5 a6 a7 a8 a9 Ce zG EB)/\S2=S++[SO.lst ((gI (gs.take i) (fun n=>T.contains n) row1).map bI)])
  ⟨⟨_,_,_,_,_,_,_,_,rfl⟩,by simp [gI]⟩ ?_).mono fun o S2 ⟨dj,kl,⟨a5,a6,a7,a8,a9,Ce,zG,EB,xh⟩,xg⟩=>⟨dj,kl,?_⟩
 .rintro i v δ S2 hv ⟨⟨a5,a6,a7,a8,a9,Ce,zG,EB,rfl⟩,rfl⟩;obtain⟨⟨g,k⟩,hq,rfl⟩:=NT.i_ hv;rw[List.getElem?_zipIdx] at hq;cases hgi:gs[i]? with
  | none=>rw [hgi] at hq;cases hq
  | some g'=>
    rw[hgi] at hq;simp only[Option.map_some,Nat.zero_add,Option.some.injEq,Prod.mk.injEq] at hq;obtain⟨rfl,rfl⟩:=hq;have hil:=(List.getElem?_eq_some_iff.mp hgi).1;have hrn:(gI (gs.take i) (fun n=>T.contains n) row1).length=vf ins+i:=by rw[p8,hrl1,List.length_take];omega
    refine⟨rE S (bV ins gs os) (.lst (bits.map bI)) (.tup (T.map nI)) (.tup (B.map nI)) a5 a6 a7 a8 (some (.d (nI i))) (some (.d (.str (kS g'.1)))) (some (.d (.tup (g'.2.1.map nI)))) (some (.d (.bl g'.2.2))),rfl,?_⟩;refine(A_ (by rw[hrn];exact NO.g i g' hgi) (by rw[hrn];omega)).mono fun o S4 ⟨⟨c7,e4⟩,e5⟩=>⟨_,e4,⟨_,_,_,_,_,_,_,_,rfl⟩,?_⟩
    rw[e5,List.take_add_one,hgi,qE,List.length_take,Nat.min_eq_left (by omega)]
    rfl
 have hlz2:(gs.zipIdx.map fun x=>D.tup [.int x.2,iX x.1]).length=gs.length:=by rw[List.length_map,List.length_zipIdx]
 rw[List.length_map,hlz2,List.take_length] at xg;subst xh xg;have HR:(gI gs (fun n=>T.contains n) row1).length=vf ins+gs.length:=by rw[p8,hrl1]
 have hwe:kR ins gs bits (fun i=>T.contains i) (fun i=>B.contains i)=gI gs (fun n=>T.contains n) row1:=by unfold kR;rw [hrow]
 rw[hwe] at h;generalize gI gs (fun n=>T.contains n) row1=ws at HR h
 have hO:=NO.ho;refine il <| mS (fun j ds S2=>S2=S++[SO.lst (ws.map bI)]/\ds=(eD os ws).take j) <| kr (ds:=os.map AS) (fW rfl) ⟨by rw[List.length_map,List.length_map];omega,⟨rfl,by simp⟩,?_,?_⟩
 .rintro j v ds S2 hv ⟨rfl,rfl⟩;obtain⟨x,hx,rfl⟩:=NT.i_ hv;obtain⟨o1,o2⟩:=NO.o x (List.mem_of_getElem? hx);refine⟨[some (.d (.str x.1)),some (.d (.tup (x.2.map nI))),some (.loc S.length)],rfl,zP ?_⟩;rw[if_pos rfl];have h2:(df (S++[.lst (ws.map bI)]) [some (.d (.str x.1)),some (.d (.tup (x.2.map nI))),some (.loc S.length)])[2]? =some (.val (.lst (ws.map bI))):=by
   unfold df;show some (match res (S++[.lst (ws.map bI)]) (.loc S.length) with | some d=>Sl.val d | none=> .un)=_
   unfold res;rw[aR]
  have ec:oV ["one"] [2] (df (S++[.lst (ws.map bI)]) [some (.d (.str x.1)),some (.d (.tup (x.2.map nI))),some (.loc S.length)])=[.un, .val (.lst (ws.map bI))]:=by
   show [Sl.un,kz (df (S++[.lst (ws.map bI)]) [some (.d (.str x.1)),some (.d (.tup (x.2.map nI))),some (.loc S.length)]) 2]=_;unfold kz;rw[h2]
  refine HC (d:= .tup ((bH ws x.2).map bI)) (ax (ds:=[.lst ((bH ws x.2).map bI)]) (ao (cq (bQ (ds:=x.2.map nI) (wd rfl) (by rw[List.length_map];omega) ?_)) rfl) rfl) ?_ ⟨_,rfl,rfl,?_⟩
  .rw [ec];unfold bH;rw[show(x.2.map fun n=>ws.getD n false).map bI=x.2.map fun n=>bI (ws.getD n false) from List.map_map]
   exact NT.bw nI _ fun n hn=>⟨[.val (nI n), .val (.lst (ws.map bI))],rfl,rfl,aj (a:= .lst (ws.map bI)) (b:=nI n) rfl rfl (EN (by rw[HR];exact o2 n hn))⟩
  .generalize bH ws x.2=l;show rA (l.map bI)=true
   induction l with
   | nil=>rfl
   | cons a l ih=>exact ih
  .unfold eD;rw[List.take_add_one,List.getElem?_map,hx];rfl
 .rintro ds S2 ⟨rfl,rfl⟩;rw[List.length_map,List.length_map,List.take_of_length_le (by unfold eD;rw [List.length_map];exact Nat.le_refl _)]
  exact⟨_,rfl,rfl,⟨_,rfl⟩,_,rfl,h⟩
end
end K33
end
section
namespace K33
open PySem PySem.Spec PyProof.Rows L2 L3 MT JT
def n9(c:Nat):List D:=(List.range (2 ^ c)).map fun p=> .lst ((fM c p).map bI)
theorem wA{c:Nat}(hc:c<=4):e8 [nI c]= .ok (.lst (n9 c)):=by
 have hz:sizeLine=16777216:=sizeLine_eq;have hp:2 ^ c<=16:=Nat.pow_le_pow_right (by omega) hc
 unfold e8 mV;refine cw (bJ (cq (bQ (ds:=(List.range (2 ^ c)).map nI) (lR (n:=2 ^ c) (aj (a:= .int 1) (b:=nI c) rfl rfl (IA (by omega))) (by omega)) (by rw[List.length_map,List.length_range];omega) ?_)))
 unfold n9;refine NT.bw nI _ fun p JR=>⟨[.val (nI p), .val (nI c)],rfl,rfl,cq (bQ (ds:=(List.range c).map nI) (lR (n:=c) rfl (by omega)) (by rw[List.length_map,List.length_range];omega) ?_)⟩
 rw[za hc (List.mem_range.mp JR)];exact NT.bw nI _ fun k hk=>⟨[.val (nI k), .val (nI p), .val (nI c)],rfl,rfl,aj (a:=nI (p / 2 ^ (c - 1 - k))) (b:=nI 1) (aj (a:=nI p) (b:=nI (c - 1 - k)) rfl (aj (a:=nI (c - 1)) (b:=nI k) (aj (a:=nI c) (b:=nI 1) rfl rfl (yb (by have:=List.mem_range.mp hk;omega))) rfl (yb (by have:=List.mem_range.mp hk;omega))) (IE _ _)) rfl (GN _)⟩
theorem DA(a b:Bool):yW (bI a) (bI b)= .ok (.bl (a !=b)):=by cases a <;> cases b <;> rfl
theorem yk{a b c:Bool}{k:Nat}(hk:k < 3):cn (.tup [bI a,bI b,bI c]) (nI k)= .ok (bI ([a,b,c].getD k false)):=by
 match k,hk with
 | 0,_=>rfl
 | 1,_=>rfl
 | 2,_=>rfl
theorem A6{os:Rq}{ws vs:List Bool}(h3:∀x∈os,x.2.length=3):cO [.lst (eD os ws), .lst (eD os vs)]= .ok (.bl (os.any fun x=>lst (bH ws x.2) (bH vs x.2))):=by
 have hz:sizeLine=16777216:=sizeLine_eq;unfold cO iK;have zp:mv (eD os ws) (eD os vs)=os.map fun x=>D.tup [.tup ((bH ws x.2).map bI), .tup ((bH vs x.2).map bI)]:=by
  unfold mv eD;rw[List.zip_map',List.map_map];rfl
 obtain⟨o,e1,h1⟩:=pE (t:=hJ 2 (bR (aA 2) (bR (aA 3) ia))) (body:=el) (fun x:Str × List Nat=>D.tup [.tup ((bH ws x.2).map bI), .tup ((bH vs x.2).map bI)]) (fun x=>if lst (bH ws x.2) (bH vs x.2) then some (.bl true) else none) (fun δ=>∃a b,δ=[.val (.lst (eD os ws)), .val (.lst (eD os vs)),a,b]) (xs:=os) (δ:=[.val (.lst (eD os ws)), .val (.lst (eD os vs)), .un, .un]) ⟨_,_,rfl⟩ (by
  rintro x hx δ ⟨a,b,rfl⟩;obtain⟨n0,n1,n2,ex⟩:=three (h3 x hx);have e0:bH ws x.2=[ws.getD n0 false,ws.getD n1 false,ws.getD n2 false]:=by rw[ex];rfl
  have e1:bH vs x.2=[vs.getD n0 false,vs.getD n1 false,vs.getD n2 false]:=by rw[ex];rfl
  rw[e0,e1];generalize D.lst (eD os ws)=d1;generalize D.lst (eD os vs)=d2;generalize ws.getD n0 false=p0;generalize ws.getD n1 false=p1;generalize ws.getD n2 false=p2;generalize vs.getD n0 false=q0;generalize vs.getD n1 false=q1;generalize vs.getD n2 false=q2;rw[show hJ 2 (bR (aA 2) (bR (aA 3) ia)) (D.tup [.tup ([p0,p1,p2].map bI), .tup ([q0,q1,q2].map bI)]) [.val d1, .val d2,a,b]= .ok [.val d1, .val d2, .val (.tup [bI p0,bI p1,bI p2]), .val (.tup [bI q0,bI q1,bI q2])] from rfl,R.aJ]
  unfold el;have hcmp:cx (c9 (eC (.int 3))) (aA 0) (b2 yW (e2 cn (ag 1) (ag 0)) (e2 cn (ag 2) (ag 0))) (ag 0) ["k"] [2,3] [.val d1, .val d2, .val (.tup [bI p0,bI p1,bI p2]), .val (.tup [bI q0,bI q1,bI q2])]= .ok (((List.range 3).filter fun k=>[p0,p1,p2].getD k false !=[q0,q1,q2].getD k false).map nI):=by
   refine bQ (ds:=(List.range 3).map nI) (lR (n:=3) rfl (by omega)) (by simp;omega) ?_
   exact NT.jR _ nI _ fun k hk=>⟨[.val (nI k), .val (.tup [bI p0,bI p1,bI p2]), .val (.tup [bI q0,bI q1,bI q2])],rfl,gp (a:=bI ([p0,p1,p2].getD k false)) (b:=bI ([q0,q1,q2].getD k false)) (aj (a:= .tup [bI p0,bI p1,bI p2]) (b:=nI k) rfl rfl (yk (List.mem_range.mp hk))) (aj (a:= .tup [bI q0,bI q1,bI q2]) (b:=nI k) rfl rfl (yk (List.mem_range.mp hk))) (DA _ _),fun _=>rfl⟩
  have hb:b2 Jk (aQ jb (ah (eNew (cx (c9 (eC (.int 3))) (aA 0) (b2 yW (e2 cn (ag 1) (ag 0)) (e2 cn (ag 2) (ag 0))) (ag 0) ["k"] [2,3])) aD)) (eC (.int 1)) [.val d1, .val d2, .val (.tup [bI p0,bI p1,bI p2]), .val (.tup [bI q0,bI q1,bI q2])]= .ok (lst [p0,p1,p2] [q0,q1,q2]):=by
   refine gp (a:=nI ((List.range 3).filter fun k=>[p0,p1,p2].getD k false !=[q0,q1,q2].getD k false).length) (b:=nI 1) (ax (ds:=[.lst (((List.range 3).filter fun k=>[p0,p1,p2].getD k false !=[q0,q1,q2].getD k false).map nI)]) (ao (cq hcmp) rfl) (by rw[kO,List.length_map])) rfl ?_
   rw[KA];cases p0 <;> cases p1 <;> cases p2 <;> cases q0 <;> cases q1 <;> cases q2 <;> rfl
  cases hl:lst [p0,p1,p2] [q0,q1,q2] with
  | true=>exact⟨_,oC (hb.trans (by rw[hl])) (bJ rfl),rfl⟩
  | false=>exact⟨_,iG (hb.trans (by rw[hl])) rfl,_,rfl,_,_,rfl⟩)
 rw[<-zp] at e1;have hfs:os.findSome? (fun x=>if lst (bH ws x.2) (bH vs x.2) then some (D.bl true) else none)=if(os.any fun x=>lst (bH ws x.2) (bH vs x.2)) then some (.bl true) else none:=by
  clear e1 h1 zp h3
  induction os with
  | nil=>rfl
  | cons x os ih=>
    rw[List.findSome?_cons,List.any_cons];cases lst (bH ws x.2) (bH vs x.2) with
    | true=>rfl
    | false=>exact ih
 rw[hfs] at h1;cases ha:os.any fun x=>lst (bH ws x.2) (bH vs x.2) with
 | true=>
   rw[ha] at h1;have h1:o= .rt (.bl true):=h1;subst h1;exact cw (NT.iR (gc (ds:=mv (eD os ws) (eD os vs)) rfl e1))
 | false=>
   rw[ha] at h1;obtain⟨dj,rfl,a,b,rfl⟩:=h1;exact cw (bh (gc (ds:=mv (eD os ws) (eD os vs)) rfl e1) (bJ rfl))
def iC:Nat->Rr
 | 0=>[[]]
 | i+1=>(iC i).flatMap fun b=>b ::(List.range 3).map fun w=>b++[3*i+w]
def lK(b:List Nat):D:= .tup [nI b.length,bp b]
def tH(c:Nat):Rr:=[] ::(List.range' 1 c).flatMap fun m=>mh 0 (3*c) m
theorem vv:∀c∈List.range 4,(iC c).length<=64/\∀b∈iC c,b.length<=c:=by decide+kernel
def CH(b:List Nat):Int × List Int:=((b.length:Nat),b.map fun(n:Nat)=>(n:Int))
theorem Ds(b:List Nat):IT (lK b)=some (CH b):=by
 show(ints? (b.map nI)).map _=_;have e:b.map nI=(b.map fun(n:Nat)=>(n:Int)).map D.int:=(List.map_map (g:=D.int) (f:=fun(n:Nat)=>(n:Int)) (l:=b)).symm
 rw[e,L2.ints_map];rfl
theorem rD:∀l:Rr,zD (l.map lK)=some (l.map CH)
 | []=>rfl
 | b ::l=>by
   show(IT (lK b)).bind _=_;rw[Ds,rD l];rfl
def ord(c:Nat):Option (Array Nat):=AZ ((iC c).map CH)
theorem Ee:∀c∈[1,2],∃p∈ord c,(p.toList.map fun i=>(iC c).getD i [])=tH c/\(p.toList.all fun i=>decide (i < ((iC c).map CH).length))=true/\p.toList.length < 64/\2<=(iC c).length/\(iC c).length < 64:=by
 intro c hc;simp only[List.mem_cons,List.not_mem_nil,or_false] at hc;rcases hc with rfl | rfl
 .exact⟨#[0,1,2,3],by decide+kernel,by decide+kernel,by decide+kernel,by decide+kernel,by decide+kernel,by decide+kernel⟩
 .refine⟨(ord 2).getD #[],?_,by decide+kernel,by decide+kernel,by decide+kernel,by decide+kernel,by decide+kernel⟩
  have:(ord 2).isSome=true:=by decide+kernel
  cases q:ord 2 with
  | none=>rw [q] at this;cases this
  | some p=>exact rfl
theorem Ef{c:Nat}(hc:c=1\/c=2):tY [.lst ((iC c).map lK)]= .ok (.lst ((tH c).map lK)):=by
 obtain⟨p,p1,p2,p3,p4,p5,p6⟩:=Ee c (by rcases hc with rfl | rfl <;> simp)
 have p1:AZ ((iC c).map CH)=some p:=p1;show(match zD ((iC c).map lK) with | some ps=>R.aU (decide (2<=ps.length/\ps.length < 64)) (match AZ ps with | some p=>R.aU (p.toList.all (fun i=>decide (i < ps.length)) && decide (p.toList.length < 64)) (R.ok (D.lst (p.toList.map fun i=>((iC c).map lK).getD i D.cz))) | none=>R.no) | none=>R.no)=_
 rw[rD];show R.aU (decide (2<=((iC c).map CH).length/\((iC c).map CH).length < 64)) (match AZ ((iC c).map CH) with | some p=>R.aU (p.toList.all (fun i=>decide (i < ((iC c).map CH).length)) && decide (p.toList.length < 64)) (R.ok (D.lst (p.toList.map fun i=>((iC c).map lK).getD i D.cz))) | none=>R.no)=_
 rw[bG _ (by rw[List.length_map];exact⟨p5,p6⟩),p1]
 show R.aU (p.toList.all (fun i=>decide (i < ((iC c).map CH).length)) && decide (p.toList.length < 64)) (R.ok (D.lst (p.toList.map fun i=>((iC c).map lK).getD i D.cz)))=_
 rw[p3,decide_eq_true p4];show R.ok (D.lst (p.toList.map fun i=>((iC c).map lK).getD i .cz))=_
 rw[<-p2,List.map_map];congr 2;refine List.map_congr_left fun i hi=>?_
 have hlt:=of_decide_eq_true (List.all_eq_true.mp p3 i hi);rw[List.length_map] at hlt;show((iC c).map lK).getD i .cz=lK ((iC c).getD i []);rw[List.getD_eq_getElem?_getD,List.getElem?_map,List.getD_eq_getElem?_getD,List.getElem?_eq_getElem hlt];rfl
theorem EI{a b:List D}(h:a.length+b.length<=sizeLine):jB (.lst a) (.lst b)= .ok (.lst (a++b)):=xU h
theorem Gd{c:Nat}(hc:c=1\/c=2):d3 [nI c]= .ok (.lst ((tH c).map lK)):=by
 have hz:sizeLine=16777216:=sizeLine_eq;have hc3:c<=3:=by omega
 unfold d3 kN;refine cw (bh (dq (d:= .lst ((iC 0).map bp)) rfl (by simp [dt,dS])) ?_)
 obtain⟨cY,e1,a2,a3,a4,ku⟩:=eS (t:=aA 2) (body:=fS) (ds:=(List.range c).map nI)
  (fun i δ=>∃a2 a3 a4,δ=[.val (nI c), .val (.lst ((iC i).map bp)),a2,a3,a4]) (δ:=[.val (nI c), .val (.lst ((iC 0).map bp)), .un, .un, .un]) ⟨_,_,_,rfl⟩ (by
    rintro i d δ hd ⟨a2,a3,a4,rfl⟩;obtain⟨i',NC,rfl⟩:=NT.mQ hd;obtain⟨hil,ei⟩:=List.getElem?_eq_some_iff.mp NC;rw[List.getElem_range] at ei;subst ei;rw[List.length_range] at hil;obtain⟨b1,Kn⟩:=vv i (List.mem_range.mpr (by omega))
    rw[show aA 2 (nI i) [.val (nI c), .val (.lst ((iC i).map bp)),a2,a3,a4]= .ok [.val (nI c), .val (.lst ((iC i).map bp)), .val (nI i),a3,a4] from rfl,R.aJ]
    unfold fS
    let F:Nat->Rr:=fun j=>((iC i).take j).flatMap fun b=>b ::(List.range 3).map fun w=>b++[3*i+w]
    have hFl:∀j,(F j).length<=4*64:=fun j=>by
     show(((iC i).take j).flatMap _).length<=_;rw[List.length_flatMap];refine Nat.le_trans (ql (m:=4) fun x hx=>?_) (by rw[List.length_map,List.length_take];omega)
     obtain⟨b,_,rfl⟩:=List.mem_map.mp hx;simp
    obtain⟨dj,kl,c4,zE⟩:=eS (t:=aA 4) (body:=fT) (ds:=(iC i).map bp)
     (fun j δ=>∃c4,δ=[.val (nI c), .val (.lst ((iC i).map bp)), .val (nI i), .val (.lst ((F j).map bp)),c4]) (δ:=[.val (nI c), .val (.lst ((iC i).map bp)), .val (nI i), .val (.lst ([]:List D)),a4]) ⟨a4,by simp [F]⟩ (by
       rintro j d δ hd ⟨c4,rfl⟩;obtain⟨b,hb,rfl⟩:=NT.mQ hd;have hbl:=Kn b (List.mem_of_getElem? hb);have hFj:=hFl j;have hFs:F (j+1)=F j++(b ::(List.range 3).map fun w=>b++[3*i+w]):=by
        show((iC i).take (j+1)).flatMap _=_;rw[List.take_add_one,hb,List.flatMap_append];simp [F]
       refine⟨[.val (nI c), .val (.lst ((iC i).map bp)), .val (nI i), .val (.lst ((F (j+1)).map bp)), .val (bp b)],?_,⟨_,rfl⟩⟩;rw[show aA 4 (bp b) [.val (nI c), .val (.lst ((iC i).map bp)), .val (nI i), .val (.lst ((F j).map bp)),c4]= .ok [.val (nI c), .val (.lst ((iC i).map bp)), .val (nI i), .val (.lst ((F j).map bp)), .val (bp b)] from rfl,R.aJ,hFs]
       generalize F j=L at hFj;unfold fT;refine(dq (d:= .lst ((L++(b ::(List.range 3).map fun w=>b++[3*i+w])).map bp)) (aj (a:= .lst ((L++[b]).map bp)) (b:= .lst (((List.range 3).map fun w=>b++[3*i+w]).map bp)) (aj (a:= .lst (L.map bp)) (b:= .lst [bp b]) rfl rfl ((EI (by rw[List.length_map];simp;omega)).trans (by rw[List.map_append];rfl))) (cq (bQ (ds:=(List.range 3).map nI) (lR (n:=3) rfl (by omega)) (by simp;omega) ?_)) ?_) (by simp)).trans rfl
       .rw [show((List.range 3).map fun w=>b++[3*i+w]).map bp=(List.range 3).map fun w=>bp (b++[3*i+w]) from List.map_map]
        refine NT.bw nI _ fun w hw=>⟨[.val (nI w), .val (nI i), .val (bp b)],rfl,rfl,aj (a:=bp b) (b:= .tup [nI (3*i+w)]) rfl (bX (ao (aj (a:=nI (3*i)) (b:=nI w) (aj (a:=nI 3) (b:=nI i) rfl rfl (BK (.inr (by omega)))) rfl (mL _ _)) rfl) (by simp;omega)) ?_⟩
        refine(Bh (by rw[List.length_map];simp;omega)).trans ?_
        unfold bp;rw[List.map_append];rfl
       .refine(EI (by rw[List.length_map,List.length_map,List.length_map,List.length_append];simp;omega)).trans ?_
        rw[<-List.map_append,List.append_assoc];rfl)
    refine⟨_,bh (dq (d:= .lst ([]:List D)) rfl (by simp)) (bh (gc (ds:=(iC i).map bp) rfl kl) (dq (d:= .lst ((iC (i+1)).map bp)) ?_ ?_)),⟨.val (nI i), .val (.lst ((iC (i+1)).map bp)),c4,?_⟩⟩
    .rw [zE,List.length_map];show R.ok (D.lst ((F (iC i).length).map bp))=_;show R.ok (D.lst ((((iC i).take (iC i).length).flatMap _).map bp))=_;rw[List.take_length];rfl
    .rw [zE];simp
    .rw [zE,List.length_map];show [_,_,_,Sl.val (D.lst ((((iC i).take (iC i).length).flatMap _).map bp)),_].set 1 _=_;rw[List.take_length];rfl)
 refine bh (gc (ds:=(List.range c).map nI) (lR (n:=c) rfl (by omega)) e1) ?_
 rw[List.length_map,List.length_range] at ku;subst ku;obtain⟨b1,Kn⟩:=vv c (List.mem_range.mpr (by omega))
 refine bJ (ax (ds:=[.lst ((iC c).map lK)]) (ao (cq (bQ (ds:=(iC c).map bp) rfl (by rw[List.length_map];omega) ?_)) rfl) (Ef hc))
 exact NT.bw bp _ fun b hb=>⟨[.val (bp b)],rfl,rfl,bX (ao (ax (ds:=[bp b]) rfl (by show R.ok (D.int ((b.map nI).length:Nat))=_;rw [List.length_map];rfl)) rfl) (by simp;omega)⟩
end K33
end
section
set_option maxHeartbeats 2000000
namespace K33
open PySem PySem.Spec PyProof.Rows L2 L3 MT JT
section
variable {c:Nat} {ins:Rp} {gs:List Gt} {os:Rq} {S:bc}
theorem oQ(hc:ins.length=c)(h3:∀x∈ins,x.2=3){p:Nat}(hp:p < 2 ^ c)(f:List Nat × List Nat):kR ins gs (fM c p) (fun i=>f.2.contains i) (fun i=>f.1.contains i)=kI c gs f p:=by
 unfold kR kI;rw[sT h3 (by rw[fP hp,hc])]
theorem AU(a b c:Bool):Bd (.tup [bI a,bI b,bI c]) (.lst [.tup [.int 0, .int 0, .int 0], .tup [.int 1, .int 1, .int 1]])= .ok (.bl (vA [a,b,c])):=by
 cases a <;> cases b <;> cases c <;> rfl
theorem K8(l:List Bool):i0 1 (.tup (l.map bI)):=i0.tup fun d hd=>by obtain⟨b,_,rfl⟩:=List.mem_map.mp hd;exact i0.int _
theorem ne_nil{l:List (List Bool)}:yW (.lst (l.map fun b=> .tup (b.map bI))) (.lst [])= .ok (.bl (!l.isEmpty)):=by
 have f1:i0 2 (.lst (l.map fun b=> .tup (b.map bI))):=i0.lst fun d hd=>by obtain⟨b,_,rfl⟩:=List.mem_map.mp hd;exact K8 b
 have f2:i0 2 (.lst []):=i0.lst fun d hd=>by cases hd
 show(CC (.lst _) (.lst [])).bind _=_;rw[Hg,f1.pl,f2.pl,f1.sh (by omega),f2.sh (by omega)]
 cases l <;> rfl
theorem rJ{p:Nat}(hp:p < 2 ^ c){f:Nat->D}:cn (.lst ((List.range (2 ^ c)).map f)) (nI p)= .ok (f p):=NT.jO (by rw[List.getElem?_map,List.getElem?_range hp];rfl)
def HN(c:Nat)(gs:List Gt)(os:Rq)(p:Nat):D:= .lst (eD os (nR c gs p))
abbrev dE(ins:Rp)(c:Nat)(gs:List Gt)(os:Rq)(a3 a4 a5 a6 a7:Option V3):DE:=[some (.d (bV ins gs os)),some (.d (.lst (n9 c))),some (.d (.lst ((List.range (2 ^ c)).map (HN c gs os)))),a3,a4,a5,a6,a7]
theorem y0{a4 a5 a6 a7:Option V3}{p:Nat}(hp:p < 2 ^ c)(ho:∀x∈os,x.2.length=3)(hO:os.length < 1000) :
 W3 (kJ (dE ins c gs os (some (.d (nI p))) a4 a5 a6 a7) S) fun o S1=>S1=S/\(match (if nD c gs os p then some (V3.d (oP (some ([],[],p)))) else none) with | some v=>o= .rt v | none=>∃dj,o= .nx dj/\∃b3,dj=dE ins c gs os b3 a4 a5 a6 a7):=by
 have hz:sizeLine=16777216:=sizeLine_eq;unfold kJ
 let ws:=nR c gs p
 have hcmp:cx (cM (e2 cn (ag 2) (ag 3))) (aA 0) (b2 Bd (ag 0) (eNew (fK (ah (bZ (ah (eC (.int 0)) (ah (eC (.int 0)) (ah (eC (.int 0)) aD)))) (ah (bZ (ah (eC (.int 1)) (ah (eC (.int 1)) (ah (eC (.int 1)) aD)))) aD))))) (ag 0) ["own"] [] (down (dE ins c gs os (some (.d (nI p))) a4 a5 a6 a7))= .ok ((((os.filter fun x=>vA (bH ws x.2)).map fun x=>bH ws x.2)).map fun b=> .tup (b.map bI)):=by
  refine bQ (ds:=os.map fun x=> .tup ((bH ws x.2).map bI)) (fW (aj (a:= .lst ((List.range (2 ^ c)).map (HN c gs os))) (b:=nI p) rfl rfl (rJ hp))) (by rw[List.length_map];omega) ?_
  rw[List.map_map];refine NT.jR (fun x:Str × List Nat=>vA (bH ws x.2)) (fun x:Str × List Nat=> .tup ((bH ws x.2).map bI)) _ fun x hx=>⟨[.val (.tup ((bH ws x.2).map bI))],rfl,?_,fun _=>rfl⟩
  obtain⟨n0,n1,n2,ex⟩:=three (ho x hx);rw[ex];exact gp (a:= .tup [bI (ws.getD n0 false),bI (ws.getD n1 false),bI (ws.getD n2 false)]) (b:= .lst [.tup [.int 0, .int 0, .int 0], .tup [.int 1, .int 1, .int 1]]) rfl rfl (AU _ _ _)
 have hb:b2 yW (eNew (cx (cM (e2 cn (ag 2) (ag 3))) (aA 0) (b2 Bd (ag 0) (eNew (fK (ah (bZ (ah (eC (.int 0)) (ah (eC (.int 0)) (ah (eC (.int 0)) aD)))) (ah (bZ (ah (eC (.int 1)) (ah (eC (.int 1)) (ah (eC (.int 1)) aD)))) aD))))) (ag 0) ["own"] [])) (eNew (fK aD)) (down (dE ins c gs os (some (.d (nI p))) a4 a5 a6 a7))= .ok (nD c gs os p):=by
  refine gp (cq hcmp) rfl (ne_nil.trans ?_);congr 2;show(!((os.filter fun x=>vA (bH ws x.2)).map fun x=>bH ws x.2).isEmpty)=os.any fun x=>vA (bH ws x.2)
  rw[Bool.eq_iff_iff];simp only[List.isEmpty_map,Bool.not_eq_true',List.any_eq_true];constructor
  .intro h;cases hf:os.filter fun x=>vA (bH ws x.2) with
   | nil=>rw [hf] at h;cases h
   | cons x l=>
     have:x∈os.filter fun x=>vA (bH ws x.2):=by rw[hf];exact List.mem_cons_self
     obtain⟨h1,h2⟩:=List.mem_filter.mp this;exact⟨x,h1,h2⟩
  .rintro⟨x,h1,h2⟩;have:x∈os.filter fun x=>vA (bH ws x.2):=List.mem_filter.mpr ⟨h1,h2⟩
   cases hf:os.filter fun x=>vA (bH ws x.2) with
   | nil=>rw [hf] at this;cases this
   | cons x l=>rfl
 refine wq <| wK hb ?_
 cases hu:nD c gs os p with
 | true=>
   rw[if_pos rfl];exact il <| eo (d:=oP (some ([],[],p))) (bX rfl (by simp;omega)) ⟨rfl,rfl⟩
 | false=>
   rw[if_neg (by decide)]
   exact nJ ⟨rfl,_,rfl,_,rfl⟩
theorem DR{a4:Option V3}{p:Nat}{f:List Nat × List Nat}(NO:lU ins gs os)(hc:ins.length=c)(h3:∀x∈ins,x.2=3)(hp:p < 2 ^ c)(ho:∀x∈os,x.2.length=3)(hS:Flat S) :
 W3 (kG (dE ins c gs os (some (.d (nI p))) a4 (some (.d (bp f.1))) (some (.d (bp f.2))) (some (.d (.lst ((fM c p).map bI))))) S) fun o S1=>S1=S/\(match (if iS c gs os f p then some (V3.d (oP (some (f.1,f.2,p)))) else none) with | some v=>o= .rt v | none=>∃dj,o= .nx dj/\∃b3 b7,dj=dE ins c gs os b3 a4 (some (.d (bp f.1))) (some (.d (bp f.2))) b7):=by
 have hz:sizeLine=16777216:=sizeLine_eq;unfold kG;refine wq <| IU <| xZ <| ba <| eo (d:=HN c gs os p) (aj (a:= .lst ((List.range (2 ^ c)).map (HN c gs os))) (b:=nI p) rfl rfl (rJ hp)) <| ba <| g7 <| ba <| eo (d:=bV ins gs os) rfl <| ba <| eo (d:= .lst ((fM c p).map bI)) rfl <| ba <| eo (d:= .tup (f.2.map nI)) rfl <| ba <| eo (d:= .tup (f.1.map nI)) rfl <| eV <| AD NO (by rw[fP hp,hc]) hS <| eV ⟨[HN c gs os p, .lst (eD os (kI c gs f p))],_,by rw[oQ hc h3 hp f];rfl,A6 ho,_,_,rfl,rfl,?_⟩
 show(if iS c gs os f p=true then W3 _ _ else W3 _ _)
 cases hu:iS c gs os f p with
 | true=>
   rw[if_pos rfl];exact il <| eo (d:=oP (some (f.1,f.2,p))) (bX rfl (by simp;omega)) ⟨rfl,rfl⟩
 | false=>
   rw[if_neg (by decide)]
   exact nJ ⟨rfl,_,rfl,_,_,rfl⟩
theorem find_some{α β:Type}{l:List α}{p:α->Bool}{g:α->β}:l.findSome? (fun x=>if p x then some (g x) else none)=(l.find? p).map g:=by
 induction l with
 | nil=>rfl
 | cons x l ih=>
   rw[List.findSome?_cons,List.find?_cons];cases p x with
   | true=>rfl
   | false=>exact ih
theorem Et{a3 a4 a7:Option V3}{f:List Nat × List Nat}(NO:lU ins gs os)(hc:ins.length=c)(h3:∀x∈ins,x.2=3)(Hq:c<=4)(ho:∀x∈os,x.2.length=3)(hS:Flat S) :
 W3 (kL (dE ins c gs os a3 a4 (some (.d (bp f.1))) (some (.d (bp f.2))) a7) S) fun o S1=>S1=S/\(match (ko c gs os f).map fun r=>V3.d (oP (some r)) with | some v=>o= .rt v | none=>∃dj,o= .nx dj/\∃b3 b5 b6 b7,dj=dE ins c gs os b3 a4 b5 b6 b7):=by
 have hz:sizeLine=16777216:=sizeLine_eq;unfold kL;have en:dy (n9 c)=(List.range (2 ^ c)).map fun(p:Nat)=>D.tup [nI p, .lst ((fM c p).map bI)]:=by
  unfold dy n9;refine List.ext_getElem? fun i=>?_
  rw[List.getElem?_map,List.getElem?_zipIdx,List.getElem?_map,List.getElem?_map];by_cases hi:i < 2 ^ c
  .rw [List.getElem?_range hi];simp [nI]
  .rw [List.getElem?_eq_none (by rw[List.length_range];omega)];rfl
 refine iT <| kr (ds:=(List.range (2 ^ c)).map fun(p:Nat)=>D.tup [nI p, .lst ((fM c p).map bI)]) (by rw[<-en];exact wk rfl) ?_
 rw[List.map_map];refine(hV (S:=S) (fun(p:Nat)=>V3.d (D.tup [nI p, .lst ((fM c p).map bI)])) (fun p=>if iS c gs os f p then some (V3.d (oP (some (f.1,f.2,p)))) else none) (fun δ=>∃b3 b7,δ=dE ins c gs os b3 a4 (some (.d (bp f.1))) (some (.d (bp f.2))) b7) ⟨_,_,rfl⟩ ?_).mono fun o S1 ⟨e1,h1⟩=>⟨e1,?_⟩
 .rintro p hp δ ⟨b3,b7,rfl⟩;exact⟨_,rfl,DR NO hc h3 (List.mem_range.mp hp) ho hS⟩
 .rw [find_some] at h1;unfold ko;cases hh:(List.range (2 ^ c)).find? (iS c gs os f) with
  | none=>
    rw[hh] at h1;obtain⟨dj,e2,b3,b7,e3⟩:=h1;exact⟨dj,e2,_,_,_,_,e3⟩
  | some p=>rw [hh] at h1;exact h1
theorem AF(NO:lU ins gs os)(hc:ins.length=c)(ue:c=1\/c=2)(h3:∀x∈ins,x.2=3)(ho:∀x∈os,x.2.length=3)(hS:Flat S){Q:V3->bc->Prop}(h:Q (.d (oP (i9 c gs os))) S):W3 (jY [.d (bV ins gs os)] S) Q:=by
 have hz:sizeLine=16777216:=sizeLine_eq;have Hq:c<=4:=by omega
 have hp2:2 ^ c<=16:=Nat.pow_le_pow_right (by omega) Hq
 have hgl:=NO.hg;unfold jY;refine lV hS.Iu (AY rfl ?_);simp only[dr,eR,List.map,List.length,List.replicate,List.cons_append,List.nil_append,Nat.reduceAdd,Nat.reduceSub];unfold nE;refine bC <| cJ (by simp) <| eo (d:= .lst (n9 c)) (ax (ds:=[nI c]) (ao (ax (ds:=[.lst (ins.map MT.inD)]) rfl (by rw[kO,List.length_map,hc])) rfl) (wA Hq)) ⟨_,rfl,?_⟩
 simp only[List.set];refine bC <| cJ (by simp) <| mS (fun j ds S2=>S2=S/\ds=((List.range (2 ^ c)).take j).map (HN c gs os)) <| kr (ds:=n9 c) (fW rfl) ⟨by unfold n9;rw [List.length_map,List.length_map,List.length_range];omega,⟨rfl,rfl⟩,?_,?_⟩
 .rintro j v ds S2 hv ⟨rfl,rfl⟩;unfold n9 at hv;obtain⟨p,hp,rfl⟩:=NT.i_ hv;have kx:=List.mem_range.mp (List.mem_of_getElem? hp);refine⟨[some (.d (.lst ((fM c p).map bI))),some (.d (bV ins gs os))],rfl,zP ?_⟩;rw[if_pos rfl];refine g7 <| ba <| eo (d:=bV ins gs os) rfl <| ba <| eo (d:= .lst ((fM c p).map bI)) rfl <| ba <| eo (d:= .tup (([]:List Nat).map nI)) rfl <| ba <| eo (d:= .tup (([]:List Nat).map nI)) rfl <| eV <| AD NO (by rw[fP kx,hc]) hS ⟨_,rfl,rfl,?_⟩
  rw[List.take_add_one,hp,List.map_append,oQ hc h3 kx ([],[]),nj];rfl
 rintro ds S2 ⟨e1,rfl⟩;subst S2;have hlen:((n9 c).map V3.d).length=2 ^ c:=by unfold n9;rw [List.length_map,List.length_map,List.length_range]
 rw[hlen,List.take_of_length_le (by rw[List.length_range];exact Nat.le_refl _)]
 refine⟨_,rfl,?_⟩;simp only[List.set];refine wj <| iT <| kr (lR (n:=2 ^ c) (ax (ds:=[.lst (n9 c)]) rfl (by rw[kO];unfold n9;rw [List.length_map,List.length_range])) (by omega)) ?_
 rw[List.map_map];refine(hV (S:=S) (V3.d ∘ nI) (fun p=>if nD c gs os p then some (V3.d (oP (some ([],[],p)))) else none) (fun δ=>∃a3,δ=dE ins c gs os a3 none none none none) ⟨_,rfl⟩ ?_).mono fun o S1 ⟨e1,h1⟩=>?_
 .rintro p hp δ ⟨a3,rfl⟩;refine⟨dE ins c gs os (some (.d (nI p))) none none none none,rfl,?_⟩;exact y0 (List.mem_range.mp hp) ho NO.ho
 subst e1;rw[find_some] at h1;cases hu:(List.range (2 ^ c)).find? (nD c gs os) with
 | some p=>
   rw[hu] at h1;have h1:o= .rt (V3.d (oP (some ([],[],p)))):=h1;subst h1;have hk:i9 c gs os=some ([],[],p):=by unfold i9;rw [hu]
   rw[hk] at h;exact⟨_,rfl,rfl,⟨[],by simp⟩,_,rfl,h⟩
 | none=>
   rw[hu] at h1;obtain⟨dj,rfl,a3,rfl⟩:=h1
   let G:List (List Nat × List Nat):=(gs.zipIdx.filter (fun x=>!x.1.2.2)).map (fun x=>(([]:List Nat),[x.2]))
   have hGl:G.length<=gs.length:=by
    show((gs.zipIdx.filter _).map _).length<=_;rw[List.length_map];have:=List.length_filter_le (fun x:Gt × Nat=>!x.1.2.2) gs.zipIdx
    rwa [List.length_zipIdx] at this
   refine bC <| cJ (by simp) <| mS (fun j ds S2=>S2=S1/\ds=(((gs.zipIdx.take j).filter (fun x=>!x.1.2.2)).map (fun x=>(([]:List Nat),[x.2]))).map eh) <| kr (lR (n:=gs.length) (ax (ds:=[.lst (gs.map iX)]) rfl (by rw[kO,List.length_map])) (by omega)) ⟨by rw[List.length_map,List.length_map,List.length_range];omega,⟨rfl,rfl⟩,?_,?_⟩
   .rintro j v ds S2 hv ⟨rfl,rfl⟩;obtain⟨j',Fd,rfl⟩:=NT.i_ hv;obtain⟨hjl,ej⟩:=List.getElem?_eq_some_iff.mp Fd;rw[List.getElem_range] at ej;subst ej;rw[List.length_range] at hjl;have hgj:gs[j]? =some gs[j]:=List.getElem?_eq_getElem hjl;have hzj:gs.zipIdx[j]? =some (gs[j],j):=by rw[List.getElem?_zipIdx,hgj];simp
    refine⟨[some (.d (nI j)),some (.d (bV ins gs os))],rfl,wK (b:=!gs[j].2.2) ?_ ?_⟩
    .unfold sJ sG;rw[show e2 cn (e2 cn (e2 cn (ag 1) (eC (.int 1))) (ag 0)) (eC (.int 2)) (down [some (V3.d (nI j)),some (V3.d (bV ins gs os))])= .ok (.bl gs[j].2.2) from aj (a:=iX gs[j]) (b:= .int 2) (aj (a:= .lst (gs.map iX)) (b:=nI j) (aj (a:=bV ins gs os) (b:= .int 1) rfl rfl rfl) rfl (NT.jO (by rw[List.getElem?_map,hgj];rfl))) rfl rfl]
     rfl
    .rw [List.take_add_one,hzj,List.filter_append];cases hs:gs[j].2.2 with
     | false=>
       rw[show(!false)=true from rfl,if_pos rfl]
       exact eo (d:=eh ([],[j])) (bX (ao rfl (ao (bX rfl (by simp;omega)) rfl)) (by simp;omega)) ⟨_,rfl,rfl,by simp [hs]⟩
     | true=>
       rw[show(!true)=false from rfl,if_neg (by decide)]
       exact⟨rfl,by simp [hs]⟩
   rintro ds S2 ⟨e1,rfl⟩;subst S2;rw[List.length_map,List.length_map,List.length_range,List.take_of_length_le (by rw[List.length_zipIdx];exact Nat.le_refl _)]
   refine⟨_,rfl,?_⟩;simp only[List.set];have hsl:(tH c).length<=64:=by rcases ue with rfl | rfl <;> decide+kernel
   have hadd:iY (.lst (G.map eh)) (.lst (((tH c).map fun B=>(B,([]:List Nat))).map eh))= .ok (.lst ((G++(tH c).map fun B=>(B,([]:List Nat))).map eh)):=by
    have e1:(G.map eh).length=G.length:=List.length_map ..;have e2:(((tH c).map fun B=>(B,([]:List Nat))).map eh).length=(tH c).length:=by rw[List.length_map,List.length_map]
    refine(xU (by omega)).trans ?_
    exact congrArg (fun z=>R.ok (D.lst z)) List.map_append.symm
   refine bC <| cJ (by simp) <| eo (d:= .lst ((G++(tH c).map fun B=>(B,([]:List Nat))).map eh)) (aj (a:= .lst (G.map eh)) (b:= .lst (((tH c).map fun B=>(B,([]:List Nat))).map eh)) rfl (cq (bQ (ds:=(tH c).map lK) (fW (ax (ds:=[nI c]) (ao (ax (ds:=[.lst (ins.map MT.inD)]) rfl (by rw[kO,List.length_map,hc])) rfl) (Gd ue))) (by rw[List.length_map];omega) ?_)) hadd) ⟨_,rfl,?_⟩
   .rw [show((tH c).map fun B=>(B,([]:List Nat))).map eh=(tH c).map fun B=>eh (B,[]) from List.map_map]
    exact NT.bw lK _ fun B hB=>⟨[.val (nI B.length), .val (bp B)],rfl,rfl,bX rfl (by simp;omega)⟩
   simp only[List.set];refine wj <| iT <| kr (ds:=(G++(tH c).map fun B=>(B,([]:List Nat))).map eh) (fW rfl) ?_
   rw[List.map_map];refine(hV (S:=S1) (V3.d ∘ eh) (fun f=>(ko c gs os f).map fun r=>V3.d (oP (some r))) (fun δ=>∃b3 b5 b6 b7,δ=dE ins c gs os b3 (some (.d (.lst ((G++(tH c).map fun B=>(B,([]:List Nat))).map eh)))) b5 b6 b7) ⟨_,_,_,_,rfl⟩ ?_).mono fun o S1 ⟨e1,h1⟩=>?_
   .rintro f hf δ ⟨b3,b5,b6,b7,rfl⟩;exact⟨_,rfl,Et NO hc h3 Hq ho hS⟩
   .subst e1;have hk:i9 c gs os=(G++(tH c).map fun B=>(B,([]:List Nat))).findSome? (ko c gs os):=by
     unfold i9;rw[hu];show(G++(List.range' 1 c).flatMap fun m=>(mh 0 (3*c) m).map fun B=>(B,([]:List Nat))).findSome? (ko c gs os)=_
     have e0:ko c gs os ([],[])=none:=by
      have e9:(List.range (2 ^ c)).find? (iS c gs os ([],[]))=none:=find_none.mpr fun p hp=>F0.mpr fun x hx=>by rw[nj];exact BN (by rw[BO,ho x hx])
      unfold ko;rw[e9];rfl
     rw[List.findSome?_append,List.findSome?_append];congr 1;show _=(([] ::(List.range' 1 c).flatMap fun m=>mh 0 (3*c) m).map fun B=>(B,([]:List Nat))).findSome? (ko c gs os)
     rw[List.map_cons,List.findSome?_cons,e0,List.map_flatMap]
    rw[hk] at h;have hfs:(G++(tH c).map fun B=>(B,([]:List Nat))).findSome? (fun f=>(ko c gs os f).map fun r=>V3.d (oP (some r)))=((G++(tH c).map fun B=>(B,([]:List Nat))).findSome? (ko c gs os)).map fun r=>V3.d (oP (some r)):=by
     rw[List.map_findSome?];rfl
    rw[hfs] at h1;cases htt:(G++(tH c).map fun B=>(B,([]:List Nat))).findSome? (ko c gs os) with
    | none=>
      rw[htt] at h1 h;obtain⟨dj,rfl,b3,b5,b6,b7,rfl⟩:=h1;exact il <| eo (d:=oP none) rfl ⟨_,rfl,rfl,⟨[],by simp⟩,_,rfl,h⟩
    | some d=>
      rw[htt] at h1 h;have h1:o= .rt (V3.d (oP (some d))):=h1;subst h1;exact⟨_,rfl,rfl,⟨[],by simp⟩,_,rfl,h⟩
end
end K33
end
section
namespace K33
open PySem PySem.Spec PyProof.Rows L2 L3 MT JT
def l_:Rp:=[("a",3),("b",3)]
theorem nT{m:Nat}:∀x∈l_.take m,x.2=3:=fun x hx=>by
 have:=List.mem_of_mem_take hx;unfold l_ at this;simp only[List.mem_cons,List.not_mem_nil,or_false] at this;rcases this with rfl | rfl <;> rfl
theorem JG:∀{ins:Rp},(∀x∈ins,x.2=3)->vf ins=3*ins.length
 | [],_=>rfl
 | x ::l,h=>by
   have:=JG (ins:=l) fun y hy=>h y (List.mem_cons_of_mem _ hy)
   unfold vf at this ⊢;rw[List.map_cons,List.sum_cons,this,h x List.mem_cons_self,List.length_cons];omega
def B4(m:Nat)(G:List Gt):Prop:=∀i x,G[i]? =some x->yA (3*m+i) x
theorem B4.push{m:Nat}{G:List Gt}{g:Gt}(h:B4 m G)(hg:yA (3*m+G.length) g):B4 m (G++[g]):=fun i x hx=>by
 by_cases hi:i < G.length
 .rw [List.getElem?_append_left hi] at hx;exact h i x hx
 .rw [List.getElem?_append_right (by omega)] at hx
  have:i - G.length=0:=by
   have:=(List.getElem?_eq_some_iff.mp hx).1;simp at this;omega
  rw[this] at hx;cases hx;rw[show i=G.length by omega]
  exact hg
theorem A1(ns:List Int):HJ (.lst (ns.map .int)) (some 1) (some 9)= .ok (.lst (((ns.drop 1).take 8).map .int)):=by
 show R.ok (D.lst (L2.cutD (ns.map .int) (some ((1:Nat):Int)) (some ((9:Nat):Int))))=_;unfold L2.cutD;rw[List.length_map,HT.sS,HT.sS,List.map_take,List.map_drop];congr 2;by_cases hn:9<=ns.length
 .rw [Nat.min_eq_left (by omega:1<=ns.length),Nat.min_eq_left hn]
 .have e1:min 9 ns.length=ns.length:=by omega
  rw[e1];by_cases h1:1<=ns.length
  .rw [Nat.min_eq_left h1,List.take_of_length_le (by rw[List.length_drop,List.length_map];omega),List.take_of_length_le (by rw[List.length_drop,List.length_map];omega)]
  .have:ns=[]:=List.length_eq_zero_iff.mp (by omega)
   subst this;rfl
section
variable {S:bc} {ns:List Int} {hd:Int} {m:Nat}
abbrev gE(ns:List Int)(hd:Int)(m:Nat)(a3 a4 a5 a6 a7 a8 a9 Ce zG:Option V3):DE:=[some (.d (.lst (ns.map .int))),some (.d (.int hd)),some (.d (nI m)),a3,a4,a5,a6,a7,a8,a9,Ce,zG]
theorem zA{G:List Gt}{c:Int}{a5 a6 a7 a8:Option V3}(hm:1<=m)(Ez:m<=2)(hG:B4 m G)(hl:G.length<=100) :
 W3 (kW (gE ns hd m (some (.loc S.length)) (some (.d (.int c))) a5 a6 a7 a8 none none none) (S++[.lst (G.map iX)])) fun o S2=>∃g b5 b6 b7 b8,o= .nx (gE ns hd m (some (.loc S.length)) (some (.d (.int c))) b5 b6 b7 b8 none none none)/\S2=S++[SO.lst ((G++[g]).map iX)]/\yA (3*m+G.length) g:=by
 have hz:sizeLine=16777216:=sizeLine_eq;unfold kW;obtain⟨r,hr⟩:∃r,stN c 0=r:=⟨_,rfl⟩;refine bC <| cJ (by simp) <| eo (d:=nI r) ((ax (ds:=[.int c,nI 0]) rfl (vn c 0)).trans (by rw[hr])) ⟨_,rfl,?_⟩
 simp only[List.set];have hkd:=Hj r;have hal:=zV (Gi r);refine bC <| cJ (by simp) <| eo (d:= .str (kS (Gi r))) (Jd rfl) ⟨_,rfl,?_⟩
 simp only[List.set];generalize Gi r=kd at hkd hal;have h3:(df (S++[.lst (G.map iX)]) (gE ns hd m (some (.loc S.length)) (some (.d (.int c))) (some (.d (nI r))) (some (.d (.str (kS kd)))) a7 a8 none none none))[3]? =some (.val (.lst (G.map iX))):=by
  unfold df;show some (match res (S++[.lst (G.map iX)]) (.loc S.length) with | some d=>Sl.val d | none=> .un)=_
  unfold res;rw[aR]
 refine bC <| cJ (by simp) <| HC (d:=nI (3*m+G.length)) (aj (a:=nI (3*m)) (b:=nI G.length) (aj (a:=nI 3) (b:=nI m) rfl rfl (BK (.inr (by omega)))) (ax (ds:=[.lst (G.map iX)]) (ao (by unfold ag;rw [h3]) rfl) (by rw[kO,List.length_map])) (mL _ _)) rfl ⟨_,rfl,?_⟩
 simp only[List.set]
 let pk:Nat->Nat:=fun j=>stN c (1+j) % (3*m+G.length)
 refine bC <| cJ (by simp) <| mS (fun j ds S2=>S2=S++[.lst (G.map iX)]/\ds=((List.range j).map pk).map nI) <| kr (lR (n:=ar kd) (Jp hkd rfl) (by omega)) ⟨by rw[List.length_map,List.length_map,List.length_range];omega,⟨rfl,rfl⟩,?_,?_⟩
 .rintro j v ds S2 hv ⟨rfl,rfl⟩;obtain⟨j',Fd,rfl⟩:=NT.i_ hv;obtain⟨hjl,ej⟩:=List.getElem?_eq_some_iff.mp Fd;rw[List.getElem_range] at ej;subst ej;refine⟨[some (.d (nI j)),some (.d (.int c)),some (.d (nI (3*m+G.length)))],rfl,zP ?_⟩;rw[if_pos rfl];refine eo (d:=nI (pk j)) (aj (a:=nI (stN c (1+j))) (b:=nI (3*m+G.length)) (ax (ds:=[.int c,nI (1+j)]) (ao rfl (ao (aj (a:=nI 1) (b:=nI j) rfl rfl (mL _ _)) rfl)) (vn c (1+j))) rfl (nu (by omega))) ⟨_,rfl,rfl,?_⟩
  rw[List.range_succ,List.map_append,List.map_append];rfl
 rintro ds S2 ⟨e1,rfl⟩;subst S2;rw[List.length_map,List.length_map,List.length_range];refine⟨_,rfl,?_⟩;simp only[List.set];refine oS (k:=S.length) rfl ⟨_,aR _ _⟩ (eo (d:=iX (kd,(List.range (ar kd)).map pk,decide (r / 5 % 3=0))) (bX (ao rfl (ao (ax (ds:=[.lst (((List.range (ar kd)).map pk).map nI)]) rfl rfl) (ao (aj (a:=nI (r / 5 % 3)) (b:=nI 0) (aj (a:=nI (r / 5)) (b:=nI 3) (aj (a:=nI r) (b:=nI 5) rfl rfl (EL (by omega) (by omega))) rfl (nu (by omega))) rfl (Kx _ _)) rfl))) (by simp;omega)) ⟨_,_,rfl,aR _ _,by rw[List.length_map];omega,(kd,(List.range (ar kd)).map pk,decide (r / 5 % 3=0)),_,_,_,_,rfl,?_,hkd,?_,fun w hw=>?_⟩)
 .rw [cL,List.map_append];rfl
 .show((List.range (ar kd)).map pk).length=_;rw[List.length_map,List.length_range]
 .obtain⟨j,_,rfl⟩:=List.mem_map.mp (show w∈(List.range (ar kd)).map pk from hw)
  exact Nat.mod_lt _ (by omega)
theorem Ag{G:List Gt}{k:Nat}{os:Rq}{a4 a5 a6 a8 zG:Option V3}(hm:1<=m)(Ez:m<=2)(hk:k < 2)(hl:G.length<=100)(Ey:os.length=k)(Fe:∀x∈os,x.2.length=3/\∀w∈x.2,w < 3*m+G.length) :
 W3 (kM (gE ns hd m (some (.d (.lst (G.map iX)))) a4 a5 a6 (some (.d (nI (3*m+G.length)))) a8 (some (.loc S.length)) (some (.d (nI k))) zG) (S++[.lst (os.map AS)])) fun o S2=>∃(Hy:Rq) (b5 b8 Fo:Option V3),o= .nx (gE ns hd m (some (.d (.lst (G.map iX)))) a4 b5 a6 (some (.d (nI (3*m+G.length)))) b8 (some (.loc S.length)) (some (.d (nI k))) Fo)/\S2=S++[SO.lst (Hy.map AS)]/\Hy.length=k+1/\∀x∈Hy,x.2.length=3/\∀w∈x.2,w < 3*m+G.length:=by
 have hz:sizeLine=16777216:=sizeLine_eq;unfold kM;obtain⟨r,hr⟩:∃r,stN hd (2+k)=r:=⟨_,rfl⟩;refine bC <| cJ (by simp) <| eo (d:=nI r) ((ax (ds:=[.int hd,nI (2+k)]) (ao rfl (ao (aj (a:=nI 2) (b:=nI k) rfl rfl (mL _ _)) rfl)) (vn hd (2+k))).trans (by rw[hr])) ⟨_,rfl,?_⟩
 simp only[List.set];generalize hcnt:3*m+G.length=cnt at Fe;have hc3:3<=cnt:=by omega
 have hmn:0 < min cnt 5:=by omega
 have hlt:r / 4 % min cnt 5 < min cnt 5:=Nat.mod_lt _ hmn;obtain⟨f,hf⟩:∃f,cnt - 1 - r / 4 % min cnt 5=f:=⟨_,rfl⟩;have hfl:f < cnt:=by omega
 refine bC <| cJ (by simp) <| eo (d:=nI f) ((aj (a:=nI (cnt - 1)) (b:=nI (r / 4 % min cnt 5)) (aj (a:=nI cnt) (b:=nI 1) rfl rfl (yb (by omega))) (aj (a:=nI (r / 4)) (b:=nI (min cnt 5)) (aj (a:=nI r) (b:=nI 4) rfl rfl (EL (by omega) (by omega))) (ax (ds:=[nI cnt,nI 5]) rfl IQ) (nu hmn)) (yb (by omega))).trans (by rw[hf])) ⟨_,rfl,?_⟩
 simp only[List.set]
 let ch:Rr:=[[f,f,f],[0,1,2],[f,(f+1) % cnt,(f+2) % cnt]]
 have zN:∀T∈ch,T.length=3/\∀w∈T,w < cnt:=fun T hT=>by
  have m1:(f+1) % cnt < cnt:=Nat.mod_lt _ (by omega)
  have m2:(f+2) % cnt < cnt:=Nat.mod_lt _ (by omega)
  simp only[ch,List.mem_cons,List.not_mem_nil,or_false] at hT;rcases hT with rfl | rfl | rfl
  .exact⟨rfl,fun w hw=>by simp only[List.mem_cons,List.not_mem_nil,or_false] at hw;omega⟩
  .exact⟨rfl,fun w hw=>by simp only[List.mem_cons,List.not_mem_nil,or_false] at hw;omega⟩
  .exact⟨rfl,fun w hw=>by simp only[List.mem_cons,List.not_mem_nil,or_false] at hw;omega⟩
 have h3:r % 3 < 3:=Nat.mod_lt _ (by omega)
 obtain⟨U,hU⟩:∃U,ch[r % 3]? =some U:=⟨_,List.getElem?_eq_getElem (by show r % 3 < 3;exact h3)⟩
 have hUm:=zN U (List.mem_of_getElem? hU);refine bC <| cJ (by simp) <| eo (d:=Lr U) (aj (a:= .lst (ch.map Lr)) (b:=nI (r % 3)) (cq (t4 (ds:=ch.map Lr) (ao (bX (ds:=[nI f,nI f,nI f]) rfl (by simp;omega)) (ao (bX (ds:=[nI 0,nI 1,nI 2]) rfl (by simp;omega)) (ao (bX (ds:=[nI f,nI ((f+1) % cnt),nI ((f+2) % cnt)]) (ao rfl (ao (aj (a:=nI (f+1)) (b:=nI cnt) (aj (a:=nI f) (b:=nI 1) rfl rfl (mL _ _)) rfl (nu (by omega))) (ao (aj (a:=nI (f+2)) (b:=nI cnt) (aj (a:=nI f) (b:=nI 2) rfl rfl (mL _ _)) rfl (nu (by omega))) rfl))) (by simp;omega)) rfl))) (by show 3<=sizeLine;omega))) (aj (a:=nI r) (b:=nI 3) rfl rfl (nu (by omega))) (NT.jO (by rw[List.getElem?_map,hU];rfl))) ⟨_,rfl,?_⟩
 simp only[List.set];obtain⟨nm,hnm⟩:∃nm,∀δ:ak,ag 10 δ= .ok (nI k)->e2 cn (eC (.str "uv")) (ag 10) δ= .ok (.str nm):=by
  match k,hk with
  | 0,_=>exact⟨"u",fun δ h=>aj (a:= .str "uv") (b:= .int 0) rfl h (Bb (by rw[hz];decide) rfl)⟩
  | 1,_=>exact⟨"v",fun δ h=>aj (a:= .str "uv") (b:= .int 1) rfl h (Bb (by rw[hz];decide) rfl)⟩
 refine oS (k:=S.length) rfl ⟨_,aR _ _⟩ (eo (d:=AS (nm,U)) (bX (ao (hnm _ rfl) rfl) (by simp;omega)) ⟨_,_,rfl,aR _ _,by rw[List.length_map];omega,os++[(nm,U)],_,_,_,rfl,?_,by simp [Ey],fun x hx=>?_⟩)
 .rw [cL,List.map_append];rfl
 .rcases List.mem_append.mp hx with z | z
  .exact Fe x z
  .rw [List.mem_singleton.mp z];exact hUm
end
theorem GO{S:bc}{ns:List Int}(hS:Flat S){Q:V3->bc->Prop}(h:∀(m:Nat) (gs:List Gt) (os:Rq),1<=m->m<=2->lU (l_.take m) gs os->(∀x∈os,x.2.length=3)->Q (.d (bV (l_.take m) gs os)) S) :
 W3 (l9 [.d (.lst (ns.map .int))] S) Q:=by
 have hz:sizeLine=16777216:=sizeLine_eq;unfold l9;refine lV hS.Iu (AY rfl ?_);simp only[dr,jJ,List.map,List.length,List.replicate,List.cons_append,List.nil_append,Nat.reduceAdd,Nat.reduceSub];unfold nv;obtain⟨hd,hhd⟩:∃hd,ns.getD 0 0=hd:=⟨_,rfl⟩;refine bC <| cJ (by simp) <| eo (d:= .int hd) ((ax (ds:=[.lst (ns.map .int),nI 0]) rfl (DZ ns 0)).trans (by rw[hhd])) ⟨_,rfl,?_⟩
 simp only[List.set];obtain⟨m,hm⟩:∃m,1+stN hd 0 % 2=m:=⟨_,rfl⟩;have J1:1<=m:=by omega
 have Ez:m<=2:=by omega
 refine bC <| cJ (by simp) <| eo (d:=nI m) ((aj (a:=nI 1) (b:=nI (stN hd 0 % 2)) rfl (aj (a:=nI (stN hd 0)) (b:=nI 2) (ax (ds:=[.int hd,nI 0]) rfl (vn hd 0)) rfl (nu (by omega))) (mL _ _)).trans (by rw[hm])) ⟨_,rfl,?_⟩
 simp only[List.set];refine bC <| cJ (by simp) <| qb (ds:=([]:List Gt).map iX) rfl ⟨_,rfl,?_⟩
 simp only[List.set];refine bC <| iT <| kr (ds:=((ns.drop 1).take 8).map .int) (fW (B5 (d:= .lst (ns.map .int)) (lo:=some 1) (hi:=some 9) rfl (pR rfl) (pR rfl) (A1 ns))) ?_
 have hcl:((ns.drop 1).take 8).length<=8:=by rw[List.length_take];omega
 generalize (ns.drop 1).take 8=cs at hcl;refine(dG (fun i δ S2=>∃(G:List Gt) (a4 a5 a6 a7 a8:Option V3),δ=gE ns hd m (some (.loc S.length)) a4 a5 a6 a7 a8 none none none/\S2=S++[SO.lst (G.map iX)]/\G.length=i/\B4 m G)
  ⟨[],_,_,_,_,_,rfl,rfl,rfl,fun i x hx=>by cases hx⟩ ?_).mono fun o S2 ⟨dj,kl,G,a4,a5,a6,a7,a8,xh,xg,hGl,hG⟩=>⟨dj,kl,?_⟩
 .rintro i v δ S2 hv ⟨G,a4,a5,a6,a7,a8,rfl,rfl,hGl,hG⟩;obtain⟨c,hc,rfl⟩:=NT.i_ hv;have hi:=(List.getElem?_eq_some_iff.mp hc).1;refine⟨gE ns hd m (some (.loc S.length)) (some (.d (.int c))) a5 a6 a7 a8 none none none,rfl,?_⟩;exact(zA J1 Ez hG (by omega)).mono fun o S2 ⟨g,b5,b6,b7,b8,e1,e2,e3⟩=>⟨_,e1,G++[g],_,b5,b6,b7,b8,rfl,e2,by rw[List.length_append,hGl];rfl,hG.push e3⟩
 subst xh xg;rw[List.length_map,List.length_map] at hGl;refine AK (i:=3) rfl (aR _ _) ?_;rw[cL];simp only[List.set];refine bC <| cJ (by simp) <| qb (ds:=([]:Rq).map AS) rfl ⟨_,rfl,?_⟩
 simp only[List.set];generalize hU:S++[SO.jk]=U;refine bC <| cJ (by simp) <| eo (d:=nI (3*m+G.length)) (aj (a:=nI (3*m)) (b:=nI G.length) (aj (a:=nI 3) (b:=nI m) rfl rfl (BK (.inr (by omega)))) (ax (ds:=[.lst (G.map iX)]) rfl (by rw[kO,List.length_map])) (mL _ _)) ⟨_,rfl,?_⟩
 simp only[List.set];obtain⟨q,hq⟩:∃q,1+stN hd 1 % 2=q:=⟨_,rfl⟩;refine bC <| iT <| kr (lR (n:=q) ((aj (a:=nI 1) (b:=nI (stN hd 1 % 2)) rfl (aj (a:=nI (stN hd 1)) (b:=nI 2) (ax (ds:=[.int hd,nI 1]) rfl (vn hd 1)) rfl (nu (by omega))) (mL _ _)).trans (by rw[hq])) (by omega)) ?_
 refine(dG (fun i δ S2=>∃(os:Rq) (b5 b8 LN Fo:Option V3),δ=gE ns hd m (some (.d (.lst (G.map iX)))) a4 b5 a6 (some (.d (nI (3*m+G.length)))) b8 (some (.loc U.length)) LN Fo/\S2=U++[SO.lst (os.map AS)]/\os.length=i/\∀x∈os,x.2.length=3/\∀w∈x.2,w < 3*m+G.length)
  ⟨[],_,_,_,_,rfl,rfl,rfl,fun x hx=>by cases hx⟩ ?_).mono fun o S2 ⟨dj,kl,os,b5,b8,LN,Fo,xh,xg,Ey,Fe⟩=>⟨dj,kl,?_⟩
 .rintro i v δ S2 hv ⟨os,b5,b8,LN,Fo,rfl,rfl,Ey,Fe⟩;obtain⟨j',Fd,rfl⟩:=NT.i_ hv;obtain⟨hjl,ej⟩:=List.getElem?_eq_some_iff.mp Fd;rw[List.getElem_range] at ej;subst ej;rw[List.length_range] at hjl;refine⟨gE ns hd m (some (.d (.lst (G.map iX)))) a4 b5 a6 (some (.d (nI (3*m+G.length)))) b8 (some (.loc U.length)) (some (.d (nI i))) Fo,rfl,?_⟩;exact(Ag J1 Ez (by omega) (by omega) Ey Fe).mono fun o S2 ⟨Hy,b5,b8,Fo,e1,e2,e3,e4⟩=>⟨_,e1,Hy,b5,b8,_,Fo,rfl,e2,e3,e4⟩
 subst xh xg;rw[List.length_map,List.length_map,List.length_range] at Ey;refine AK (i:=9) rfl (aR _ _) ?_;rw[cL];simp only[List.set];have hil:(l_.take m).length=m:=by rw[List.length_take];exact Nat.min_eq_left Ez
 have hw:vf (l_.take m)=3*m:=by rw[JG nT,hil]
 have hsl:HJ (.lst (l_.map MT.inD)) none (some (m:Int))= .ok (.lst ((l_.take m).map MT.inD)):=by
  show R.ok (D.lst (L2.cutD (l_.map MT.inD) none (some (m:Int))))=_;unfold L2.cutD;rw[HT.sS,HT.Ca,List.length_map,List.map_take,Nat.min_eq_left (by show m<=2;exact Ez)]
  rfl
 refine il <| eo (d:=bV (l_.take m) G os) (bX (ao (B5 (d:= .lst (l_.map MT.inD)) (lo:=none) (hi:=some (m:Int)) (cq (t4 (ds:=l_.map MT.inD) (ao (bX (ds:=[.str "a", .int 3]) rfl (by simp;omega)) (ao (bX (ds:=[.str "b", .int 3]) rfl (by simp;omega)) rfl)) (by show 2<=sizeLine;omega))) rfl (pR rfl) hsl) rfl) (by simp;omega)) ⟨_,rfl,rfl,⟨[.jk, .jk],by rw[<-hU,List.append_assoc];rfl⟩,_,rfl,h m G os J1 Ez ⟨by omega,fun x hx=>by rw[nT x hx];omega,by omega,fun i x hx=>by rw[hw];exact hG i x hx,by omega,fun x hx=>⟨by rw[(Fe x hx).1];omega,fun w Pw=>by rw[hw];exact(Fe x hx).2 w Pw⟩⟩ fun x hx=>(Fe x hx).1⟩
theorem GA(r:Option (List Nat × List Nat × Nat)):∃ds,oP r= .tup ds/\i0 2 (oP r):=by
 have ft:∀l:List Nat,i0 1 (bp l):=fun l=>i0.tup fun d hd=>by obtain⟨n,_,rfl⟩:=List.mem_map.mp hd;exact i0.int _
 cases r with
 | none=>exact⟨_,rfl,(i0.tup fun d hd=>by rw[List.mem_singleton.mp hd];exact i0.str (by decide+kernel):i0 1 (.tup [.str "keeps"])).mono (by omega)⟩
 | some q=>
   obtain⟨B,T,p⟩:=q;refine⟨_,rfl,(i0.tup fun d hd=>?_:i0 2 (.tup [.str "loses",bp B,bp T,nI p]))⟩
   simp only[List.mem_cons,List.not_mem_nil,or_false] at hd;rcases hd with rfl | rfl | rfl | rfl
   .exact(i0.str (by decide+kernel)).mono (by omega)
   .exact ft B
   .exact ft T
   .exact(i0.int _).mono (by omega)
theorem yc(r:Option (List Nat × List Nat × Nat)):rm (oP r) (oP r)= .ok (.bl true)/\yW (oP r) (oP r)= .ok (.bl false):=by
 obtain⟨ds,e,f⟩:=GA r;rw[e] at f ⊢;have:=f.eqT (by omega)
 exact⟨by show(CC _ _).bind _=_;rw [this];rfl,by show(CC _ _).bind _=_;rw [this];rfl⟩
def r_(g:Gt):Gt:=(g.1,g.2.1,true)
theorem B9(ns:List Int)(hn:ns.length<=63):xy [.lst (ns.map D.int)]= .ok (.bl true):=by
 have hz:sizeLine=16777216:=sizeLine_eq;have f0:Flat ([]:bc):=Flat.nil;have key:W3 (rF mH pS [.d (.lst (ns.map .int))] []) fun v S1=>v= .d (.bl true)/\S1=[]:=by
  refine lV f0.Iu (AY rfl ?_);simp only[dr,mH,List.map,List.length,List.replicate,List.cons_append,List.nil_append,Nat.reduceAdd,Nat.reduceSub];unfold pS;refine bC <| cJ (by simp) <| g7 <| ba <| eo (d:= .lst (ns.map .int)) rfl <| eV <| GO f0 fun m gs os J1 Ez NO o3=>⟨_,rfl,?_⟩
  simp only[List.set];have hil:(l_.take m).length=m:=by rw[List.length_take];exact Nat.min_eq_left Ez
  have i3:∀x∈l_.take m,x.2=3:=nT;generalize l_.take m=ins at NO hil i3;have ue:ins.length=1\/ins.length=2:=by omega
  have hg:=NO.hg;have NS:lU ins (gs.map r_) os:=by
   refine⟨NO.hi,NO.hw,by rw[List.length_map];exact NO.hg,fun i x hx=>?_,NO.ho,fun x hx=>by rw[List.length_map];exact NO.o x hx⟩
   rw[List.getElem?_map] at hx;cases q:gs[i]? with
   | none=>rw [q] at hx;cases hx
   | some y=>rw [q] at hx;cases hx;exact NO.g i y q
  refine bC <| wq <| LF <| g7 <| ba <| eo (d:=bV ins gs os) rfl <| eV <| uE NO rfl (by omega) i3 o3 f0 <| g7 <| ba <| eo (d:=bV ins gs os) rfl <| eV <| AF NO rfl ue i3 o3 f0 ⟨_,_,false,rfl,rfl,(yc _).2,?_⟩
  rw[if_neg (by decide)]
  refine nJ ⟨_,rfl,?_⟩;refine bC <| cJ (by simp) <| eo (d:=bV ins (gs.map r_) os) (bX (ao (aj (a:=bV ins gs os) (b:= .int 0) rfl rfl rfl) (ao (cq (bQ (ds:=gs.map iX) (fW (aj (a:=bV ins gs os) (b:= .int 1) rfl rfl rfl)) (by rw[List.length_map];omega) ?_)) (ao (aj (a:=bV ins gs os) (b:= .int 2) rfl rfl rfl) rfl))) (by simp;omega)) ⟨_,rfl,?_⟩
  .rw [show(gs.map r_).map iX=gs.map fun g=>iX (r_ g) from List.map_map]
   exact NT.bw iX _ fun g hg=>⟨[.val (.str (kS g.1)), .val (.tup (g.2.1.map nI)), .val (.bl g.2.2)],rfl,rfl,bX rfl (by simp;omega)⟩
  simp only[List.set];exact il <| Nm <| g7 <| ba <| eo (d:=bV ins (gs.map r_) os) rfl <| eV <| uE NS rfl (by omega) i3 o3 f0 <| g7 <| ba <| eo (d:=bV ins (gs.map r_) os) rfl <| eV <| AF NS rfl ue i3 o3 f0 ⟨_,_, .bl true,rfl,rfl,(yc _).1,_,rfl,rfl,⟨_,rfl⟩,_,rfl,rfl,trivial⟩
 obtain⟨v,S1,e1,kl,e3⟩:=key;unfold xy J9;show(match rF mH pS ([D.lst (ns.map D.int)].map V3.d) [] with | .ok (.d d) []=>R.aU d.atom (R.ok d) | _=> .no)=_
 rw[show [D.lst (ns.map D.int)].map V3.d=[V3.d (.lst (ns.map .int))] from rfl,e1,kl,e3]
 rfl
end K33
end
open PySem PySem.W PyProof.Rows
set_option maxRecDepth 100000 in
set_option maxHeartbeats 0 in
theorem PySem.Challenge.cw_bearfaults_k33_any_nets_keep_or_lose_holds : PySem.Challenge.rw_bearfaults_k33_any_nets_keep_or_lose.Holds := by
 w_on;o_law;k_head;(case hw=>w_witness2)
 k_fill
 refine L2.IY (l:=PySem.Challenge.rw_bearfaults_k33_any_nets_keep_or_lose) (n:=63) (k:=11) (x:="script") (g:=K33.xy) rfl (by decide) rfl ⟨rfl,by decide,by decide⟩ (fun w h Y=>PySem.W.kIn_of Y) ?F K33.B9
 case F=>
  intro w mg fa h KX G J5
  have j5:L2.Def (L2.fN KX) mg "has_widths" K33.eU:=by
   dsimp only[L2.fN]
   refine' L2.ck KX G ?a ?l ?c ?k
   (case a=>k_is);(case l=>k_is);(case c=>k_is);(case k=>k_is)
  have om:L2.Def (L2.fN KX) mg "vote_of" K33.jz:=by
   dsimp only[L2.fN]
   refine' L2.ck KX G ?a ?l ?c ?k
   (case a=>k_is);(case l=>k_is);(case c=>k_is);(case k=>k_is)
  have lz:L2.Def (L2.fN KX) mg "gate_mask" K33.gA:=by
   dsimp only[L2.fN]
   refine' L2.ck KX G ?a ?l ?c ?k
   (case a=>k_is);(case l=>k_is);(case c=>k_is);(case k=>k_is)
  have gL:L2.Def (L2.fN KX) mg "in_wire_masks" K33.dv:=by
   dsimp only[L2.fN]
   refine' L2.ck KX G ?a ?l ?c ?k
   (case a=>k_is);(case l=>k_is);(case c=>k_is);(case k=>k_is)
  have mD:L2.Def (L2.fN KX) mg "masks_at" K33.ie:=by
   dsimp only[L2.fN]
   refine' L2.ck KX G ?a ?l ?c ?k
   (case a=>k_is);(case l=>k_is);(case c=>k_is);(case k=>k_is)
  have j_:L2.Def (L2.fN KX) mg "wire_masks" K33.fw:=by
   dsimp only[L2.fN]
   refine' L2.ck KX G ?a ?l ?c ?k
   (case a=>k_is);(case l=>k_is);(case c=>k_is);(case k=>k_is)
  have lx:L2.Def (L2.fN KX) mg "out_masks" K33.gq:=by
   dsimp only[L2.fN]
   refine' L2.ck KX G ?a ?l ?c ?k
   (case a=>k_is);(case l=>k_is);(case c=>k_is);(case k=>k_is)
  have qK:L2.Def (L2.fN KX) mg "bit_at" K33.k9:=by
   dsimp only[L2.fN]
   refine' L2.ck KX G ?a ?l ?c ?k
   (case a=>k_is);(case l=>k_is);(case c=>k_is);(case k=>k_is)
  have ke:L2.Def (L2.fN KX) mg "all_inputs" K33.fj:=by
   dsimp only[L2.fN]
   refine' L2.ck KX G ?a ?l ?c ?k
   (case a=>k_is);(case l=>k_is);(case c=>k_is);(case k=>k_is)
  have oq:L2.Def (L2.fN KX) mg "mask_of" K33.js:=by
   dsimp only[L2.fN]
   refine' L2.ck KX G ?a ?l ?c ?k
   (case a=>k_is);(case l=>k_is);(case c=>k_is);(case k=>k_is)
  have oi:L2.Def (L2.fN KX) mg "in_mask" K33.jE:=by
   dsimp only[L2.fN]
   refine' L2.ck KX G ?a ?l ?c ?k
   (case a=>k_is);(case l=>k_is);(case c=>k_is);(case k=>k_is)
  have lr:L2.Def (L2.fN KX) mg "unlike_at" K33.gx:=by
   dsimp only[L2.fN]
   refine' L2.ck KX G ?a ?l ?c ?k
   (case a=>k_is);(case l=>k_is);(case c=>k_is);(case k=>k_is)
  have og:L2.Def (L2.fN KX) mg "lost_at" K33.ju:=by
   dsimp only[L2.fN]
   refine' L2.ck KX G ?a ?l ?c ?k
   (case a=>k_is);(case l=>k_is);(case c=>k_is);(case k=>k_is)
  have mE:L2.Def (L2.fN KX) mg "bad_sets" K33.ij:=by
   dsimp only[L2.fN]
   refine' L2.ck KX G ?a ?l ?c ?k
   (case a=>k_is);(case l=>k_is);(case c=>k_is);(case k=>k_is)
  have f7:L2.Def (L2.fN KX) mg "keeping_faults" K33.di:=by
   dsimp only[L2.fN]
   refine' L2.ck KX G ?a ?l ?c ?k
   (case a=>k_is);(case l=>k_is);(case c=>k_is);(case k=>k_is)
  have uc:L2.Def (L2.fN KX) mg "keeps" K33.mU:=by
   dsimp only[L2.fN]
   refine' L2.ck KX G ?a ?l ?c ?k
   (case a=>k_is);(case l=>k_is);(case c=>k_is);(case k=>k_is)
  have jj:L2.Def (L2.fN KX) mg "_law_cell_at" K33.eE:=by
   dsimp only[L2.fN]
   refine' L2.ck KX G ?a ?l ?c ?k
   (case a=>k_is);(case l=>k_is);(case c=>k_is);(case k=>k_is)
  have mC:L2.Def (L2.fN KX) mg "_law_stir" K33.ip:=by
   dsimp only[L2.fN]
   refine' L2.ck KX G ?a ?l ?c ?k
   (case a=>k_is);(case l=>k_is);(case c=>k_is);(case k=>k_is)
  have oa:L2.Def (L2.fN KX) mg "_law_bit" K33.jr:=by
   dsimp only[L2.fN]
   refine' L2.ck KX G ?a ?l ?c ?k
   (case a=>k_is);(case l=>k_is);(case c=>k_is);(case k=>k_is)
  have ot:L2.Def (L2.fN KX) mg "_law_run" K33.jy:=by
   dsimp only[L2.fN]
   refine' L2.ck KX G ?a ?l ?c ?k
   (case a=>k_is);(case l=>k_is);(case c=>k_is);(case k=>k_is)
  have j9:L2.Def (L2.fN KX) mg "_law_inputs" K33.e6:=by
   dsimp only[L2.fN]
   refine' L2.ck KX G ?a ?l ?c ?k
   (case a=>k_is);(case l=>k_is);(case c=>k_is);(case k=>k_is)
  have fH:L2.Def (L2.fN KX) mg "_law_twice_wrong" K33.cV:=by
   dsimp only[L2.fN]
   refine' L2.ck KX G ?a ?l ?c ?k
   (case a=>k_is);(case l=>k_is);(case c=>k_is);(case k=>k_is)
  have iA:L2.Def (L2.fN KX) mg "_law_bad_sets" K33.dZ:=by
   dsimp only[L2.fN]
   refine' L2.ck KX G ?a ?l ?c ?k
   (case a=>k_is);(case l=>k_is);(case c=>k_is);(case k=>k_is)
  have oz:L2.Def (L2.fN KX) mg "_law_due" K33.jv:=by
   dsimp only[L2.fN]
   refine' L2.ck KX G ?a ?l ?c ?k
   (case a=>k_is);(case l=>k_is);(case c=>k_is);(case k=>k_is)
  have oh:L2.Def (L2.fN KX) mg "_law_net" K33.jt:=by
   dsimp only[L2.fN]
   refine' L2.ck KX G ?a ?l ?c ?k
   (case a=>k_is);(case l=>k_is);(case c=>k_is);(case k=>k_is)
  have D_law:L2.Def (L2.fN KX) mg "law" K33.xr:=by
   dsimp only[L2.fN]
   refine' L2.ck KX G ?a ?l ?c ?k
   (case a=>k_is);(case l=>k_is);(case c=>k_is);(case k=>k_is)
  obtain⟨cl,CF⟩:∃cl,K33.Cf (L2.fN KX) mg cl:=by
   dsimp only[L2.fN]
   refine' K33.ID KX G ?LW ?Mg ?Ml ?LQ ?Mi ?L4 ?Md ?xi ?iz ?t8 ?lq ?f_ ?f9 ?fY ?dg ?f6 ?ji ?jg ?je ?eA ?gn ?fB ?fE ?fI ?cS ?dQ
   (case LW=>k_is)
   (case Mg=>k_is)
   (case Ml=>k_is)
   (case LQ=>k_is)
   (case Mi=>k_is)
   (case L4=>k_is)
   (case Md=>k_is)
   (case xi=>k_is)
   (case iz=>k_is)
   (case t8=>k_is)
   (case lq=>k_is)
   (case f_=>k_is)
   (case f9=>k_is)
   (case fY=>k_is)
   (case dg=>k_is)
   (case f6=>k_is)
   (case ji=>k_is)
   (case jg=>k_is)
   (case je=>k_is)
   (case eA=>k_is)
   (case gn=>k_is)
   (case fB=>k_is)
   (case fE=>k_is)
   (case fI=>k_is)
   (case cS=>k_is)
   (case dQ=>k_is)
  have dk:=CF.dk
  have eG:=CF.eG
  have cW:=CF.cW
  have T:K33.Tp (L2.fN KX) mg cl:=by
   dsimp only[L2.fN]
   refine' ⟨PySem.W.mg_none_of KX G ?z_all,PySem.W.mg_none_of KX G ?z_len,PySem.W.mg_none_of KX G ?z_enumerate,PySem.W.mg_none_of KX G ?z_range,PySem.W.mg_none_of KX G ?z_tuple,PySem.W.mg_none_of KX G ?z_reversed,PySem.W.mg_none_of KX G ?z_zip,PySem.W.mg_none_of KX G ?z_min,PySem.W.mg_none_of KX G ?z_max,PySem.W.mg_none_of KX G ?z_sum,PySem.W.mg_none_of KX G ?z_int,PySem.W.mg_none_of KX G ?z_sorted,CF.C_Bench,CF.N_Bench_net,CF.N_Bench_many_inputs,CF.N_Bench_full,CF.N_Bench_in_masks,CF.M_Bench⟩
   (case z_all=>k_is);(case z_len=>k_is);(case z_enumerate=>k_is);(case z_range=>k_is);(case z_tuple=>k_is);(case z_reversed=>k_is);(case z_zip=>k_is);(case z_min=>k_is);(case z_max=>k_is);(case z_sum=>k_is);(case z_int=>k_is);(case z_sorted=>k_is)
  obtain⟨fl,fd,Fl,hl⟩:=D_law
  have e0:=J5.symm.trans hl
  cases e0
  refine' ⟨fd,?b,fun base kb nb=>K33.GG T j5 om lz gL mD j_ lx qK ke oq oi lr og mE f7 dk eG cW uc jj mC oa ot j9 fH iA oz oh Fl⟩
  obtain⟨_,_,_,_,_,_,_,_,_,e,_,_⟩:=Fl.ex
  subst e
  exact fun s u=> .of_eq rfl
