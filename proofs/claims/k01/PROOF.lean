import PyProof.Rows.All
import Wide.All
import OpenK.AllK
import Wide.FinOn
import Lean
import PyProof.EqAt
import PyProof.EqKinds
import PyProof.TupleCall
import PyProof.Rows.StrJoin2
import PyProof.TupleOfGen
import PyProof.ListRange
import PyProof.Draws
import PyProof.Rows.StrClose3
import KE.KSortedM
import PyProof.Rows.SortWalk
import PyProof.WalkInts
import PyProof.Rows.Range3
import PyProof.ZipIter
import PyProof.ConsumeWalk
import PyProof.Rows.SeqMore
import KE.KRevIter
import KE.KRevSl
import KE.KUnpack
import KE.KDictSum
import KE.KTupSum
import KE.KSortTup
import KE.KDictOf
import OpenK.KRaise
import KE.KTryMore
import PyProof.ExcArgs
import PyProof.ExcBaseAll.ValueError
import PyProof.NsDelKeeps
import PyProof.AttrMissSeq
import PyProof.FString4
import PyProof.StrLawsRepr
import PyProof.Rows.StrSplitAre
import PyProof.Rows.StrNews2
import PyProof.StrLawsChain
import PyProof.StrLawsTight
import PyProof.Rows.StrJoinRep
import PyProof.Rows.StrMul
import PySem.Challenge.RW_bearfaults_k01_words_known
noncomputable section
set_option bootstrap.genMatcherCode false
section
open PySem
abbrev X9:=List (Addr×Obj)
abbrev X_:=Value->Shared->Prop
abbrev Ya:=List (Str×Nat)
abbrev Yb:=List (Str×List Nat)
abbrev Yc:=List (List Nat)
abbrev Yd:=Str->Option Value
abbrev Ye:=Nat->Addr
end
def PySem.W.Fast.tw6236219918915680556:=0
def PySem.W.Fast.tw11388505364103008672:=0
def PySem.W.Fast.tw11490331701235802493:=0
def PySem.W.Fast.tw14257915251385194213:=0
def PySem.W.Fast.tw15020195369507781544:=0
def PySem.W.Fast.tw12269746012959798519:=0
def PySem.W.Fast.tw745381316097939144:=0
def PySem.W.Fast.tw9932574802858637105:=0
def PySem.W.Fast.tw13136541102055332067:=0
def PySem.W.Fast.tw10458561461789823871:=0
def PySem.W.Fast.tw8041321182971754546:=0
def PySem.W.Fast.tw8530121885882264496:=0
def PySem.W.Fast.tw10064012861158871834:=0
def PySem.W.Fast.tw11759915564005758975:=0
def PySem.W.Fast.tw2567465354942411835:=0
def PySem.W.Fast.tw1805247887658068042:=0
def PySem.W.Fast.tw4134578974959916412:=0
def PySem.W.Fast.tw12170895435105854637:=0
def PySem.W.Fast.tw17259571030435104546:=0
def PySem.W.Fast.tw12728928188315299774:=0
def PySem.W.Fast.tw18360372265275456318:=0
def PySem.W.Fast.tw974551031233501107:=0
def PySem.W.Fast.tw15524683416010562553:=0
def PySem.W.Fast.tw125195627546995726:=0
def PySem.W.Fast.tw11331056387392136683:=0
def PySem.W.Fast.tw9153520045249359194:=0
def PySem.W.Fast.tw13513547971072528076:=0
def PySem.W.Fast.tw1217131489831101997:=0
def PySem.W.Fast.tw7625887266566806752:=0
def PySem.W.Fast.tw190100628590879503:=0
def PySem.W.Fast.tw4437050737824728881:=0
def PySem.W.Fast.tw3779364578434596940:=0
def PySem.W.Fast.tw15039591703023099678:=0
def PySem.W.Fast.tw14271596697370127879:=0
def PySem.W.Fast.tw4591876580087263264:=0
def PySem.W.Fast.tw5331234540997224472:=0
def PySem.W.Fast.tw17495548829098760148:=0
def PySem.W.Fast.tw8677952088361822789:=0
def PySem.W.Fast.tw1597547550001298409:=0
def PySem.W.Fast.tw1847373063333525399:=0
set_option Elab.async false
set_option linter.all false
set_option maxRecDepth 100000
set_option maxHeartbeats 4000000
section
namespace L2
open PySem PySem.Spec PyProof.Rows
abbrev Key:=Sum Int Str
def t5:Key->Value->Bool
 | .inl k,v=>Value.isInt k v
 | .inr x,v=>Value.isStrOf x v
def OM(w:World):Key->Int
 | .inl k=>hashInt k
 | .inr x=>hashStr w x
theorem cQ:∀{k:Key} {v:Value},t5 k v=true->(∃i t,k=Sum.inl i/\v=Value.int i t)\/(∃x t,k=Sum.inr x/\v=Value.str x t)
 | .inl i,v,h=>by
   obtain⟨t,e⟩:=Value.isInt_shape (k:=i) (v:=v) h;exact .inl ⟨i,t,rfl,e⟩
 | .inr x,v,h=>by
   obtain⟨t,e⟩:=Value.isStrOf_shape (x:=x) (v:=v) h;exact .inr ⟨x,t,rfl,e⟩
theorem AI(i:Int)(t:Tok):t5 (.inl i) (.int i t)=true:=by simp [t5,Value.isInt]
theorem Ap(x:Str)(t:Tok):t5 (.inr x) (.str x t)=true:=by simp [t5,Value.isStrOf]
theorem HS(a b:Int):decide ((Sum.inl a:Key)=Sum.inl b)=(a==b):=by
 by_cases e:a=b
 .subst e;simp
 .have h:¬(Sum.inl a:Key)=Sum.inl b:=fun q=>e (Sum.inl.inj q)
  rw[decide_eq_false h];exact(beq_eq_false_iff_ne.mpr e).symm
theorem Jb(a b:Str):decide ((Sum.inr a:Key)=Sum.inr b)=decide (a=b):=by
 by_cases e:a=b
 .subst e;simp
 .have h:¬(Sum.inr a:Key)=Sum.inr b:=fun q=>e (Sum.inr.inj q)
  rw[decide_eq_false h,decide_eq_false e]
theorem Hu(a:Int)(b:Str):decide ((Sum.inl a:Key)=Sum.inr b)=false:=decide_eq_false (fun q=>nomatch q)
theorem Ie(a:Str)(b:Int):decide ((Sum.inr a:Key)=Sum.inl b)=false:=decide_eq_false (fun q=>nomatch q)
def dE(prog:Program)(w:World):PySem.KeyKind prog w Key where
 is:=t5
 hash:=OM w
 inj:=fun v a b ha hb=>by
  rcases cQ ha with⟨i,t,rfl,rfl⟩ | ⟨x,t,rfl,rfl⟩
  .rcases cQ hb with⟨j,u,rfl,e⟩ | ⟨y,u,rfl,e⟩
   .injection e with e1 _;rw [e1]
   .exact nomatch e
  .rcases cQ hb with⟨j,u,rfl,e⟩ | ⟨y,u,rfl,e⟩
   .exact nomatch e
   .injection e with e1 _;rw [e1]
 byValue:=fun k v h=>by
  rcases cQ h with⟨i,t,rfl,rfl⟩ | ⟨x,t,rfl,rfl⟩ <;> rfl
 pyHash:=fun hv h=>by
  rcases cQ hv with⟨i,t,rfl,rfl⟩ | ⟨x,t,rfl,rfl⟩
  .exact wpAny_pyHash_int h
  .exact wpAny_pyHash_str h
 eqBool:=fun hu hv h=>by
  rcases cQ hu with⟨i,t,rfl,rfl⟩ | ⟨x,t,rfl,rfl⟩
  .rcases cQ hv with⟨j,u,rfl,rfl⟩ | ⟨y,u,rfl,rfl⟩
   .rw [HS] at h;exact wpAny_eqBool_int h
   .rw [Hu] at h;exact SeqAt.EqAt.int_str i t y u _ _ _ _ h
  .rcases cQ hv with⟨j,u,rfl,rfl⟩ | ⟨y,u,rfl,rfl⟩
   .rw [Ie] at h;exact SeqAt.EqAt.str_int x t j u _ _ _ _ h
   .rw [Jb] at h;exact wpAny_eqBool_str h
 «strs»:=fun k x t v h=>by
  rcases cQ h with⟨i,u,rfl,e⟩ | ⟨y,u,rfl,e⟩
  .exact nomatch e
  .injection e with e1 _
   subst e1;cases v <;> rfl
theorem vF(prog:Program)(w:World)(i:Int)(t:Tok):(dE prog w).is (.inl i) (.int i t)=true:=AI i t
theorem ng(prog:Program)(w:World)(x:Str)(t:Tok):(dE prog w).is (.inr x) (.str x t)=true:=Ap x t
inductive V where
 | cu | bl (b:Bool) | int (i:Int) | str (x:Str) | byt (b:Array UInt8) | flt (b:UInt64) | ref (a:Addr) | ty (n:String)
 deriving DecidableEq
def RelV:V->Value->Prop
 | .cu,u=>u=Value.none
 | .bl b,u=>u=Value.bool b
 | .int i,u=>∃t,u=Value.int i t
 | .str x,u=>∃t,u=Value.str x t
 | .byt b,u=>∃t,u=Value.bytes b t
 | .flt b,u=>∃t,u=Value.float b t
 | .ref a,u=>u=Value.ref a
 | .ty n,u=>u=Value.type n
abbrev Vals:List V->List Value->Prop:=Paired RelV
theorem Vals.length{xs:List V}{us:List Value}(r:Vals xs us):xs.length=us.length:=Paired.length r
theorem Vals.get:∀{xs:List V} {us:List Value} {i:Nat} {x:V},Vals xs us->xs[i]? =some x->∃u,us[i]? =some u/\RelV x u
 | _,_,_,_, .nil,e=>by simp at e
 | _,_,0,_, .cons r _,e=>by simp at e;subst e;exact⟨_,rfl,r⟩
 | _,_,i+1,x, .cons _ t,e=>by
   obtain⟨u,h1,h2⟩:=Vals.get (i:=i) (x:=x) t (by simpa using e)
   exact⟨u,by simpa using h1,h2⟩
theorem Vals.append:∀{xs ys:List V} {us ws:List Value},Vals xs us->Vals ys ws->Vals (xs++ys) (us++ws)
 | _,_,_,_, .nil,s=>s
 | _,_,_,_, .cons r t,s=> .cons r (Vals.append t s)
theorem Vals.take:∀{xs:List V} {us:List Value} (n:Nat),Vals xs us->Vals (xs.take n) (us.take n)
 | _,_,0,_=> .nil
 | _,_,_+1, .nil=> .nil
 | _,_,n+1, .cons r t=> .cons r (Vals.take n t)
theorem Vals.drop:∀{xs:List V} {us:List Value} (n:Nat),Vals xs us->Vals (xs.drop n) (us.drop n)
 | _,_,0,r=>r
 | _,_,_+1, .nil=> .nil
 | _,_,n+1, .cons _ t=>Vals.drop n t
def m4:Option V->Option Value->Prop
 | some v,some u=>RelV v u
 | none,none=>True
 | _,_=>False
def KV{κ:Type}:List (κ × V)->List (κ × Value)->Prop:=Paired fun(p:κ × V) (q:κ × Value)=>p.1=q.1/\RelV p.2 q.2
def kV:Key->V
 | .inl i=> .int i
 | .inr x=> .str x
inductive HO where
 | lst (xs:List V)
 | tup (xs:List V)
 | dK (aA:List (Key × V)) | dT (aA:List (List Key × V))
 | set (S:Int->Bool) (n:Nat)
 | ins (C dx:Addr) (fs:List (Str × V))
 | own (x:Addr)
 | xd (fs:List (Str × V))
 | met (f x:Addr)
 | rng (lo hi:Int)
 | pO (o:Obj) (u:HO)
 | tbl (ps:Array Value)
 | ext (φ:Heap->Prop)
abbrev Hp:=Addr->Option HO
def upd(H:Hp)(a:Addr)(o:HO):Hp:=fun b=>if b=a then some o else H b
theorem a_{a:Addr}{o:HO}:upd H a o a=some o:=by unfold upd;rw [if_pos rfl]
theorem aW{H:Hp}{a b:Addr}{o:HO}(h:b≠a):upd H a o b=H b:=by unfold upd;rw [if_neg h]
theorem KS{H:Hp}{a b:Addr}{o u:HO}(h:H a=some o)(h':H b=some u)(d:o≠u):a≠b:=by
 intro e;subst e;rw [h] at h';exact d (Option.some.inj h')
theorem bf{H:Hp}{a b:Addr}{o:HO}(h:H a=some o)(h':H b=none):a≠b:=by
 intro e;subst e;rw [h] at h';cases h'
section
variable (P:Program) (w:World)
def cR(H:Hp)(h:Heap)(a:Addr):HO->Prop
 | .lst xs=>xs.length<=sizeLine/\∃(its:List Value) (n:Nat),Vals xs its/\h.get? a=some {cls:= .type "list",data:= .seq its.toArray n}
 | .tup xs=>xs.length<=sizeLine/\∃its:List Value,Vals xs its/\IsTup h a its.toArray
 | .dK aA=>aA.length<=sizeLine/\(a==sysModules)=false/\∃vs,KV aA vs/\h.DictOf (dE P w) a vs
 | .dT aA=>aA.length<=sizeLine/\(a==sysModules)=false/\∃xs:List (List Key × Addr × Value),
    Paired (fun(p:List Key × V) (q:List Key × Addr × Value)=>p.1=q.1/\H q.2.1=some (.tup (p.1.map kV))/\RelV p.2 q.2.2) aA xs/\
    ∃o es ep,h.get? a=some o/\o.ExactDict/\o.data= .dict es ep/\es.toList=xs.map (entryOfKey (tupleKind (dE P w)))/\(xs.map (·.1)).Nodup
 | .set S n=>h.SetOf (intKind P w) a S n
 | .ins C dx fs=>H dx=some (.own a)/\fs.length<=1000/\dx≠a/\h.get? a=some (PySem.W.instObj C dx)/\
    ∃mA,h.Ns1 dx mA/\(∀f,m4 (fs.lookup f) (mA f))/\PySem.Within mA (fs.map (·.1))
 | .own _=>∃o,h.get? a=some o
 | .xd fs=>∃mA,h.Ns1 a mA/\∀f,m4 (fs.lookup f) (mA f)
 | .rng lo hi=>∃t u v,h.get? a=some {cls:= .type "range",data:= .fields #[.int lo t, .int hi u, .int 1 v]}
 | .pO o u=>h.get? a=some o/\cR H h a u
 | .tbl ps=>h.get? a=some {cls:= .none,data:= .fields ps}
 | .met f x=>h.get? a=some (PySem.W.methodObj (.ref f) (.ref x))
 | .ext φ=>φ h/\(∃o,h.get? a=some o)/\∀h1 h2:Heap,φ h1->(∀o,h1.get? a=some o->h2.get? a=some o)->φ h2
def mO(H:Hp)(h:Heap):Prop:=∀a o,H a=some o->cR P w H h a o
end
section
variable {P:Program} {w:World} {H H':Hp} {h h':Heap} {a:Addr} {o:HO}
theorem cR.lt(x:cR P w H h a o):a < h.objs.size:=by
 cases o with
 | lst xs=>obtain⟨_,_,_,_,e⟩:=x;exact Heap.lt_size e
 | tup xs=>obtain⟨_,_,_,p⟩:=x;exact p.lt
 | dK aA=>obtain⟨_,_,_,_,o,_,_,e,_⟩:=x;exact Heap.lt_size e
 | dT aA=>obtain⟨_,_,_,_,o,_,_,e,_⟩:=x;exact Heap.lt_size e
 | set S n=>obtain⟨o,_,_,_,e,_⟩:=x;exact Heap.lt_size e
 | ins C dx fs=>obtain⟨_,_,_,e,_⟩:=x;exact Heap.lt_size e
 | own y=>obtain⟨_,e⟩:=x;exact Heap.lt_size e
 | xd fs=>obtain⟨_,⟨_,_,_,e,_⟩,_⟩:=x;exact Heap.lt_size e
 | rng lo hi=>obtain⟨_,_,_,e⟩:=x;exact Heap.lt_size e
 | pO ob u=>obtain⟨e,_⟩:=x;exact Heap.lt_size e
 | tbl ps=>exact Heap.lt_size (show h.get? a=some _ from x)
 | met f y=>exact Heap.lt_size (show h.get? a=some _ from x)
 | ext φ=>obtain⟨_,⟨_,e⟩,_⟩:=x;exact Heap.lt_size e
theorem Paired.IT{α β:Type}{F G:α->β->Prop}:∀{MF:List α} {MG:List β},Paired F MF MG->(∀a b,F a b->G a b)->Paired G MF MG
 | _,_, .nil,_=> .nil
 | _,_, .cons r t,f=> .cons (f _ _ r) (Paired.IT t f)
theorem cR.wC(x:cR P w H h a o)(k:∀b u,(b=a\/H b=some (.own a))->h.get? b=some u->h'.get? b=some u)
 (ho:∀b,H b=some (.own a)->H' b=some (.own a)) (ht:∀b xs,H b=some (.tup xs)->H' b=some (.tup xs)):cR P w H' h' a o:=by
 induction o with
 | lst xs=>obtain⟨z,its,n,r,e⟩:=x;exact⟨z,its,n,r,k _ _ (.inl rfl) e⟩
 | tup xs=>obtain⟨z,its,r,ob,e,c⟩:=x;exact⟨z,its,r,ob,k _ _ (.inl rfl) e,c⟩
 | dK aA=>obtain⟨z,y,vs,r,ob,es,ep,e,c⟩:=x;exact⟨z,y,vs,r,ob,es,ep,k _ _ (.inl rfl) e,c⟩
 | dT aA=>
   obtain⟨z,y,xs,r,ob,es,ep,e,c⟩:=x;exact⟨z,y,xs,Paired.IT r fun p q z=>⟨z.1,ht _ _ z.2.1,z.2.2⟩,ob,es,ep,k _ _ (.inl rfl) e,c⟩
 | set S n=>obtain⟨ob,es,ep,t,e,c⟩:=x;exact⟨ob,es,ep,t,k _ _ (.inl rfl) e,c⟩
 | ins C dx fs=>
   obtain⟨d,z,ne,e,mA,⟨od,es,ep,e2,c⟩,r⟩:=x;exact⟨ho _ d,z,ne,k _ _ (.inl rfl) e,mA,⟨od,es,ep,k _ _ (.inr d) e2,c⟩,r⟩
 | own y=>obtain⟨ob,e⟩:=x;exact⟨ob,k _ _ (.inl rfl) e⟩
 | xd fs=>obtain⟨mA,⟨od,es,ep,e,c⟩,r⟩:=x;exact⟨mA,⟨od,es,ep,k _ _ (.inl rfl) e,c⟩,r⟩
 | rng lo hi=>obtain⟨t,u,v,e⟩:=x;exact⟨t,u,v,k _ _ (.inl rfl) e⟩
 | pO ob u ih=>obtain⟨e,q⟩:=x;exact⟨k _ _ (.inl rfl) e,ih q⟩
 | tbl ps=>
   have e:h.get? a=some {cls:= .none,data:= .fields ps}:=x;show h'.get? a=some {cls:= .none,data:= .fields ps};exact k a _ (.inl rfl) e
 | met f y=>
   have e:h.get? a=some (PySem.W.methodObj (.ref f) (.ref y)):=x;show h'.get? a=some (PySem.W.methodObj (.ref f) (.ref y));exact k a _ (.inl rfl) e
 | ext φ=>obtain⟨p,⟨o,e⟩,st⟩:=x;exact⟨st _ _ p fun o q=>k _ _ (.inl rfl) q,⟨o,k _ _ (.inl rfl) e⟩,st⟩
theorem mO.lt(x:mO P w H h)(e:H a=some o):a < h.objs.size:=(x a o e).lt
theorem mO.fresh(x:mO P w H h)(e:h.objs.size<=a):H a=none:=by
 cases q:H a with
 | none=>rfl
 | some u=>exact absurd (Nat.lt_of_lt_of_le (x.lt q) e) (Nat.lt_irrefl _)
theorem mO.kept(x:mO P w H h)(k:∀b u,h.get? b=some u->h'.get? b=some u):mO P w H h':=fun a o e=>
 (x a o e).wC (fun b u _ q=>k b u q) (fun _ q=>q) fun _ _ q=>q
theorem mO.laid(x:mO P w H h)(k:∀b u,h.get? b=some u->h'.get? b=some u)(hp:h.objs.size<=a)(new:cR P w (upd H a o) h' a o):mO P w (upd H a o) h':=fun b u e=>by
 have hn:=x.fresh hp;by_cases hb:b=a
 .subst hb;rw [a_] at e;cases e;exact new
 .rw [aW hb] at e;exact(x b u e).wC (fun c v _ q=>k c v q) (fun c q=>by rw[aW (bf q hn)];exact q) fun c xs q=>by rw[aW (bf q hn)];exact q
end
def Rd(H:Hp)(a:Addr)(u:HO):Prop:=H a=some u\/∃o,H a=some (.pO o u)
theorem Rd.ok{a:Addr}{u:HO}(r:Rd H a u)(x:mO P w H h):cR P w H h a u:=by
 rcases r with r | ⟨o,r⟩
 .exact x a u r
 .obtain⟨_,q⟩:=x a _ r;exact q
def Mi:Option HO->Prop
 | some (.lst _)=>True
 | some (.dK _)=>True
 | some (.dT _)=>True
 | some (.set _ _)=>True
 | some (.ins _ _ _)=>True
 | some (.ext _)=>True
 | _=>False
section
variable {P:Program} {w:World} {H:Hp} {h h':Heap} {x e:Addr} {o':HO}
theorem mO.write(ok:mO P w H h)(mu:Mi (H x))(he:e=x\/H e=some (.own x))(k:∀b u,b≠e->h.get? b=some u->h'.get? b=some u)(KD:∃u,h'.get? e=some u)
 (new:cR P w (upd H x o') h' x o'):mO P w (upd H x o') h':=fun b u q=>by
 have nown:∀c y,H c=some (.own y)->c≠x:=fun c y r z=>by subst z;rw [r] at mu;exact mu
 have ntup:∀c xs,H c=some (.tup xs)->c≠x:=fun c xs r z=>by subst z;rw [r] at mu;exact mu
 by_cases hb:b=x
 .subst hb;rw [a_] at q;cases q;exact new
 .rw [aW hb] at q;by_cases hbe:b=e
  .have q':H b=some (.own x):=by
    rcases he with z | z
    .exact absurd (hbe.trans z) hb
    .rw [hbe];exact z
   rw[q] at q';cases q';obtain⟨v,hv⟩:=KD;exact⟨v,by rw[hbe];exact hv⟩
  .refine(ok b u q).wC (fun c v hc r=>k c v ?_ r) (fun c r=>by rw[aW (nown c b r)];exact r) fun c xs r=>by rw[aW (ntup c xs r)];exact r
   rcases hc with rfl | hc
   .exact hbe
   .rintro rfl;rcases he with z | z
    .exact nown c b hc z
    .rw [hc] at z;cases z;exact hb rfl
end
structure Un (fs ex:List Addr) (H H':Hp) (h h':Heap):Prop where
 keep:∀b o,h.get? b=some o->H b=none->b ∉ fs->b ∉ ex->h'.get? b=some o
 slot:∀b o,h.get? b=some o->H b=none->b∈fs->b ∉ ex->∃sl,h'.get? b=some {o with slots:=sl}
 free:∀b o,h.get? b=some o->H b=none->b ∉ ex->H' b=none
 there:∀b o,h.get? b=some o->b ∉ ex->∃o',h'.get? b=some o'
 tups:∀b xs,H b=some (.tup xs)->H' b=some (.tup xs)
 frzs:∀b o u,H b=some (.pO o u)->H' b=some (.pO o u)
 tbls:∀b ps,H b=some (.tbl ps)->∃more,H' b=some (.tbl (ps++more))
section
variable {fs KA ex XZ:List Addr} {H H1 H2:Hp} {h h1 h2 h':Heap} {a x e:Addr} {o:HO}
theorem Un.any(u:Un fs ex H H1 h h1){b:Addr}{ob:Obj}(q:h.get? b=some ob)(n:H b=none)(hx:b ∉ ex):∃sl,h1.get? b=some {ob with slots:=sl}:=by
 by_cases hb:b∈fs
 .exact u.slot b ob q n hb hx
 .exact⟨ob.slots,u.keep b ob q n hb hx⟩
theorem Un.kept(k:∀b u,h.get? b=some u->h'.get? b=some u):Un fs ex H H h h':=
 ⟨fun b ob q _ _ _=>k b ob q,fun b ob q _ _ _=>⟨ob.slots,k b ob q⟩,fun _ _ _ n _=>n,fun b ob q _=>⟨ob,k b ob q⟩,fun _ _ q=>q,fun _ _ _ q=>q,fun _ ps q=>⟨#[],by rw[q];simp⟩⟩
theorem Un.refl:Un fs ex H H h h:=Un.kept fun _ _ q=>q
theorem Un.laid(k:∀b u,h.get? b=some u->h'.get? b=some u)(hp:h.objs.size<=a)(hn:H a=none):Un fs ex H (upd H a o) h h' where
 keep:=fun b u q _ _ _=>k b u q
 slot:=fun b u q _ _ _=>⟨u.slots,k b u q⟩
 free:=fun b u q n _=>by rw[aW (Nat.ne_of_lt (Nat.lt_of_lt_of_le (Heap.lt_size q) hp))];exact n
 there:=fun b u q _=>⟨u,k b u q⟩
 tups:=fun b xs q=>by rw[aW (bf q hn)];exact q
 frzs:=fun b u xs q=>by rw[aW (bf q hn)];exact q
 tbls:=fun b ps q=>⟨#[],by rw[aW (bf q hn),q];simp⟩
theorem Un.write(mu:Mi (H x))(he:e=x\/H e=some (.own x))(k:∀b u,b≠e->h.get? b=some u->h'.get? b=some u)(KD:∃u,h'.get? e=some u):Un fs ex H (upd H x o) h h':=by
 have hx:∀b,H b=none->b≠x:=fun b n z=>by subst z;rw [n] at mu;exact mu
 have hb:∀b,H b=none->b≠e:=fun b n z=>by
  subst z;rcases he with r | r
  .exact hx b n r
  .rw [n] at r;cases r
 have hm:∀b u,H b=some u->¬Mi (some u)->b≠x:=fun b u q nm z=>by subst z;rw [q] at mu;exact nm mu
 refine⟨fun b u q n _ _=>k b u (hb b n) q,fun b u q n _ _=>⟨u.slots,k b u (hb b n) q⟩,fun b u q n _=>by rw[aW (hx b n)];exact n,fun b u q _=>?_,
  fun b xs q=>by rw[aW (hm b _ q fun z=>z)];exact q,fun b u xs q=>by rw[aW (hm b _ q fun z=>z)];exact q,fun b ps q=>⟨#[],by rw[aW (hm b _ q fun z=>z),q];simp⟩⟩
 by_cases hbe:b=e
 .subst hbe;exact KD
 .exact⟨u,k b u hbe q⟩
end
def Eb(h:Heap)(H:Hp):List Addr:=(List.range h.objs.size).filter fun a=>(H a).isSome
def uJ(h:Heap)(H:Hp):Heap:=PySem.W.hideAll h (Eb h H)
theorem Ac(h:Heap)(H:Hp):(uJ h H).objs.size=h.objs.size:=PySem.W.hideAll_size _ _
theorem Bu{h:Heap}{H:Hp}{b:Addr}{o:Obj}(e:h.get? b=some o)(n:H b=none):(uJ h H).get? b=some o:=
 PySem.W.hideAll_get _ e fun hm=>by
  have q:(H b).isSome=true:=(List.mem_filter.mp hm).2;rw[n] at q;simp at q
theorem EE{h:Heap}{H:Hp}{b:Addr}{o:Obj}(e:(uJ h H).get? b=some o):h.get? b=some o/\H b=none:=by
 have e':h.get? b=some o:=PySem.W.of_hideAll (Eb h H) e;refine⟨e',?_⟩;cases q:H b with
 | none=>rfl
 | some x=>
   have hm:b∈Eb h H:=List.mem_filter.mpr ⟨List.mem_range.mpr (Heap.lt_size e'),by simp [q]⟩
   have z:(uJ h H).get? b=none:=PySem.W.hideAll_none (Eb h H) hm;rw[z] at e;cases e
def Gs(g h:Heap)(L:Addr):X9:=(List.range h.objs.size).filterMap fun a=>if a=L\/(g.get? a).isSome=true then none else(h.get? a).map fun o=>(a,o)
def rest(g h:Heap)(L d:Addr):X9:=(Gs g h L).filter fun p=>decide (p.1≠d)
structure Mod (K:W.Frag) (mg:Yd) (base:Heap):Prop where
 kin:K.In base
 glob:base.Ns mainGlobals mg
 blt:∃mb,base.Ns builtinsNs mb/\∀x:Str,x≠"__name__"->mb x=bootBuiltins x
 nolimit:base.NoLimit
structure Cx where
 prog:Program
 w:World
 K:W.Frag
 mg:Yd
 base:Heap
 A:Around
 N:List Str
 s₀:Shared
 H₀:Hp
 env:Env
 outer:List Env
 stack:List Env
 ex:List Addr
 fn:Str->Bool
 calm:Bool
 pn:X9
 xe:X_
def oP(l:List Env):List Addr:=l.filterMap (·.frame)
abbrev Cx.fs(X:Cx):List Addr:=oP X.outer
def Lu(sc:Scope)(x:Str):Prop:=sc.names.lookup x=some .local\/sc.names.lookup x=some .cell\/sc.names.lookup x=some .free
def Loc(sc:Scope)(x:Str):Prop:=sc.names.lookup x=some .local\/sc.names.lookup x=some .cell
def Look(env:Env)(h:Heap)(m:Yd)(x:Str)(u:Value):Prop:=
 (env.kindOf x=some .local/\m x=some u)\/((env.kindOf x=some .cell\/env.kindOf x=some .free)/\∃c,env.cells.lookup x=some c/\h.IsCell c (some u))
structure Cx.Ok (X:Cx):Prop where
 mod:Mod X.K X.mg X.base
 kind:X.env.scope.kind= .function
 glob:X.env.globals=mainGlobals
 blt:X.env.builtins=builtinsNs
 above:X.s₀.heap.objs.size<=X.env.locals
 inj:∀x y c,X.env.cells.lookup x=some c->X.env.cells.lookup y=some c->x=y
 has:∀x,(X.env.kindOf x=some .cell\/X.env.kindOf x=some .free)->∃c,X.env.cells.lookup x=some c
 cab:∀x c,X.fn x=true->X.env.cells.lookup x=some c->X.s₀.heap.objs.size<=c
 hd:X.calm=true->X.A.handled=none
 frames:X.A.frames=some X.stack
 stk:X.stack=X.outer\/(X.stack=X.env ::X.outer/\X.env.frame=some X.env.locals)
 exf:∀b∈X.ex,b≠X.env.locals/\∀x c,X.env.cells.lookup x=some c->c≠b
 bs:∀b o,X.base.get? b=some o->X.s₀.heap.get? b=some o/\X.H₀ b=none
 bsz:X.base.objs.size<=X.s₀.heap.objs.size
 noex:∀b o,X.base.get? b=some o->b ∉ X.ex
 exfs:∀b∈X.ex,b ∉ X.fs
 pf:X.s₀.heap.FunFrames X.base X.outer
 frf:∀b∈X.fs,X.H₀ b=none
structure Inv (X:Cx) (pins:X9) (σ:List (Option V)) (H:Hp) (s:Shared):Prop where
 ok:X.Ok
 os:s.os=X.s₀.os
 bare:AllBare s.gens
 base:Un X.fs X.ex X.H₀ H X.s₀.heap s.heap
 loc:∃m,s.heap.Ns X.env.locals m/\∀(i:Nat) (x:Str) (v:V),X.N[i]? =some x->σ[i]? =some (some v)->Lu X.env.scope x->∃u,RelV v u/\Look X.env s.heap m x u
 cell:∀x c,X.env.cells.lookup x=some c->∃v,s.heap.IsCell c v
 free:H X.env.locals=none
 freeC:∀x c,X.env.cells.lookup x=some c->H c=none
 pin:∀p∈X.pn++pins,s.heap.get? p.1=some p.2/\H p.1=none/\p.1≠X.env.locals/\p.1 ∉ X.fs/\∀v,p.2.data≠ .cell v
 hok:mO X.prog X.w H s.heap
 len:σ.length=X.N.length
section
variable {X:Cx} {pins:X9} {σ:List (Option V)} {H H':Hp} {s:Shared} {h':Heap}
theorem Cx.Ok.NU(ok:X.Ok){b:Addr}{o:Obj}(e:X.base.get? b=some o):b ∉ X.fs:=fun hb=>by
 have:=(ok.pf.mem hb).1;rw[e] at this;cases this
theorem Inv.bs(I:Inv X pins σ H s):∀b o,X.base.get? b=some o->s.heap.get? b=some o/\H b=none:=fun b o e=>
 ⟨I.base.keep b o (I.ok.bs b o e).1 (I.ok.bs b o e).2 (I.ok.NU e) (I.ok.noex b o e),I.base.free b o (I.ok.bs b o e).1 (I.ok.bs b o e).2 (I.ok.noex b o e)⟩
theorem Inv.bk(I:Inv X pins σ H s):∀b o,X.base.get? b=some o->s.heap.get? b=some o:=fun b o e=>(I.bs b o e).1
theorem Inv.mod(I:Inv X pins σ H s):Mod X.K X.mg X.base:=I.ok.mod
theorem Inv.nZ(I:Inv X pins σ H s):X.K.In s.heap:=I.ok.mod.kin.keeps I.bk
theorem Inv.lt(I:Inv X pins σ H s):X.env.locals < s.heap.objs.size:=let⟨_,hn,_⟩:=I.loc;hn.lt
theorem Inv.sz(I:Inv X pins σ H s):X.s₀.heap.objs.size<=s.heap.objs.size:=Nat.le_trans I.ok.above (Nat.le_of_lt I.lt)
theorem Inv.OY(I:Inv X pins σ H s){a:Addr}(h:s.heap.objs.size<=a):a ∉ X.fs:=fun hb=>by
 obtain⟨_,o,ho,_⟩:=I.ok.pf.mem hb;exact absurd (Nat.lt_of_lt_of_le (Heap.lt_size ho) (Nat.le_trans I.sz h)) (Nat.lt_irrefl _)
theorem Inv.Dh(I:Inv X pins σ H s):∀x c,X.env.cells.lookup x=some c->c≠X.env.locals:=fun x c e z=>by
 obtain⟨v,o,ho,hd⟩:=I.cell x c e;obtain⟨m,⟨o',es,ep,qy,Ql,_⟩,_⟩:=I.loc;rw[z,qy] at ho;cases ho;rw [Ql] at hd;cases hd
theorem Inv.pf(I:Inv X pins σ H s):s.heap.FunFrames X.base X.outer:=by
 have all:∀(l:List Env),(∀b∈oP l,b∈X.fs)->X.s₀.heap.FunFrames X.base l->s.heap.FunFrames X.base l:=by
  intro l
  induction l with
  | nil=>intro _ _;trivial
  | cons env r ih=>
    intro hs hl;obtain⟨hk,⟨L,o,hf,hn,ho,hd⟩,hr⟩:=hl;have hL:L∈X.fs:=hs L (by unfold oP;rw [List.filterMap_cons,hf];exact List.mem_cons_self)
    obtain⟨sl,e⟩:=I.base.slot L o ho (I.ok.frf L hL) hL fun z=>I.ok.exfs L z hL
    exact⟨hk,⟨L,_,hf,hn,e,hd⟩,ih (fun b hb=>hs b (by unfold oP;rw [List.filterMap_cons,hf];exact List.mem_cons_of_mem _ hb)) hr⟩
 exact all X.outer (fun _ hb=>hb) I.ok.pf
theorem Inv.stack(I:Inv X pins σ H s):s.heap.FunFrames X.base X.stack:=by
 rcases I.ok.stk with e | ⟨e,hf⟩
 .rw [e];exact I.pf
 .rw [e];obtain⟨m,hn,_⟩:=I.loc;refine .cons (by rw[I.ok.kind];decide) hf hn ?_ I.pf
  exact Heap.get?_none_of_le (Nat.le_trans I.ok.bsz I.ok.above)
theorem Inv.xw(I:Inv X pins σ H s):∀b∈oP X.stack,b∈X.env.locals ::X.fs:=fun b hb=>by
 rcases I.ok.stk with e | ⟨e,hf⟩
 .rw [e] at hb;exact List.mem_cons_of_mem _ hb
 .rw [e] at hb;unfold oP at hb;rw[List.filterMap_cons,hf] at hb;exact hb
theorem Inv.nS(I:Inv X pins σ H s):∀b∈oP X.stack,H b=none:=fun b hb=>by
 rcases List.mem_cons.mp (I.xw b hb) with e | hb
 .rw [e];exact I.free
 .obtain⟨_,o,ho,_⟩:=I.ok.pf.mem hb;exact I.base.free b o ho (I.ok.frf b hb) fun z=>I.ok.exfs b z hb
theorem Inv.step{g':Array GenState}{t':Nat}{d':Drawn}{ch:List Addr}(I:Inv X pins σ H s)
 (El:∀b∈ch,(b∈X.ex\/X.s₀.heap.objs.size<=b)/\b≠X.env.locals/\(∀x c,X.env.cells.lookup x=some c->c≠b)/\∀p∈X.pn++pins,p.1≠b)
 (keep:∀b o,b≠X.env.locals->b ∉ X.fs->b ∉ ch->s.heap.get? b=some o->H b=none->h'.get? b=some o)
 (slot:∀b o,b≠X.env.locals->b∈X.fs->b ∉ ch->s.heap.get? b=some o->H b=none->∃sl,h'.get? b=some {o with slots:=sl}) (free:∀b o,b ∉ ch->s.heap.get? b=some o->H b=none->H' b=none)
 (there:∀b o,b ∉ ch->s.heap.get? b=some o->∃o',h'.get? b=some o')
 (tups:∀b xs,H b=some (.tup xs)->H' b=some (.tup xs)) (frzs:∀b o u,H b=some (.pO o u)->H' b=some (.pO o u)) (tbls:∀b ps,H b=some (.tbl ps)->∃more,H' b=some (.tbl (ps++more)))
 (ns:∀m,s.heap.Ns X.env.locals m->h'.Ns X.env.locals m) (hok:mO X.prog X.w H' h') (hg:AllBare g') :
 Inv X pins σ H' {s with heap:=h',gens:=g',drawn:=d',toks:=t'}:=by
 have neL:∀b o,X.s₀.heap.get? b=some o->b≠X.env.locals:=fun b o e=>Nat.ne_of_lt (Nat.lt_of_lt_of_le (Heap.lt_size e) I.ok.above)
 have neC:∀b o,X.s₀.heap.get? b=some o->b ∉ X.ex->b ∉ ch:=fun b o e hx hb=>by
  rcases(El b hb).1 with z | z
  .exact hx z
  .exact absurd (Nat.lt_of_lt_of_le (Heap.lt_size e) z) (Nat.lt_irrefl _)
 have cellK:∀x c,X.env.cells.lookup x=some c->∀v,s.heap.IsCell c v->h'.IsCell c v:=fun x c e v ⟨o,ho,hd⟩=>by
  have nch:c ∉ ch:=fun z=>(El c z).2.2.1 x c e rfl
  by_cases hc:c∈X.fs
  .obtain⟨sl,q⟩:=slot c o (I.Dh x c e) hc nch ho (I.freeC x c e);exact⟨_,q,hd⟩
  .exact⟨o,keep c o (I.Dh x c e) hc nch ho (I.freeC x c e),hd⟩
 refine⟨I.ok,I.os,hg,⟨fun b o e n hb hx=>?_,fun b o e n hb hx=>?_,fun b o e n hx=>?_,fun b o e hx=>?_,fun b xs e=>tups b xs (I.base.tups b xs e),fun b o xs e=>frzs b o xs (I.base.frzs b o xs e),fun b ps e=>?_⟩,?_,fun x c e=>?_,?_,fun x c e=>?_,fun p hp=>?_,hok,I.len⟩
 .exact keep b o (neL b o e) hb (neC b o e hx) (I.base.keep b o e n hb hx) (I.base.free b o e n hx)
 .obtain⟨sl,e1⟩:=I.base.slot b o e n hb hx;obtain⟨V9,e2⟩:=slot b _ (neL b o e) hb (neC b o e hx) e1 (I.base.free b o e n hx);exact⟨V9,e2⟩
 .obtain⟨o',e1⟩:=I.base.there b o e hx;exact free b o' (neC b o e hx) e1 (I.base.free b o e n hx)
 .obtain⟨o',e1⟩:=I.base.there b o e hx;exact there b o' (neC b o e hx) e1
 .obtain⟨m1,e1⟩:=I.base.tbls b ps e;obtain⟨m2,e2⟩:=tbls b _ e1;exact⟨m1++m2,by rw[e2,Array.append_assoc]⟩
 .obtain⟨m,hn,hl⟩:=I.loc;refine⟨m,ns m hn,fun i x v e1 e2 e3=>?_⟩
  obtain⟨u,r,l⟩:=hl i x v e1 e2 e3;refine⟨u,r,?_⟩;rcases l with l | ⟨k,c,e,z⟩
  .exact .inl l
  .exact .inr ⟨k,c,e,cellK x c e _ z⟩
 .obtain⟨v,z⟩:=I.cell x c e;exact⟨v,cellK x c e v z⟩
 .obtain⟨m,⟨o,_,_,ho,_⟩,_⟩:=I.loc;exact free _ o (fun z=>(El _ z).2.1 rfl) ho I.free
 .obtain⟨v,o,ho,hd⟩:=I.cell x c e;exact free c o (fun z=>(El c z).2.2.1 x c e rfl) ho (I.freeC x c e)
 .obtain⟨e,n,ne,nf,d⟩:=I.pin p hp;have nch:p.1 ∉ ch:=fun z=>(El p.1 z).2.2.2 p hp rfl
  exact⟨keep p.1 p.2 ne nf nch e n,free p.1 p.2 nch e n,ne,nf,d⟩
theorem Inv.un{t':Nat}(I:Inv X pins σ H s)(u:Un X.fs [] H H' s.heap h')(hok:mO X.prog X.w H' h'):Inv X pins σ H' {s with heap:=h',toks:=t'}:=by
 obtain⟨m,⟨o,es,ep,ho,r⟩,_⟩:=id I.loc;obtain⟨sl,hL⟩:=u.any ho I.free (by simp)
 exact I.step (g':=s.gens) (d':=s.drawn) (ch:=[]) (fun _ z=>nomatch z) (fun b o _ hb _ e n=>u.keep b o e n hb (by simp)) (fun b o _ hb _ e n=>u.slot b o e n hb (by simp)) (fun b o _ e n=>u.free b o e n (by simp)) (fun b o _ e=>u.there b o e (by simp)) u.tups u.frzs u.tbls (fun m' hm=>by
  obtain⟨o',Pa,Ph,qy,r'⟩:=hm;rw[ho] at qy;cases qy;exact⟨_,Pa,Ph,hL,r'⟩) hok I.bare
theorem Inv.call{g':Array GenState}{t':Nat}{d':Drawn}{ch:List Addr}(I:Inv X pins σ H s)(u:Un (oP X.stack) ch H H' s.heap h')(hok:mO X.prog X.w H' h')(hg:AllBare g')
 (El:∀b∈ch,(b∈X.ex\/X.s₀.heap.objs.size<=b)/\b≠X.env.locals/\(∀x c,X.env.cells.lookup x=some c->c≠b)/\∀p∈X.pn++pins,p.1≠b) :
 Inv X pins σ H' {s with heap:=h',gens:=g',drawn:=d',toks:=t'}:=by
 obtain⟨m,⟨o,es,ep,ho,r⟩,_⟩:=id I.loc;obtain⟨sl,hL⟩:=u.any ho I.free fun z=>(El _ z).2.1 rfl
 exact I.step (ch:=ch) El (fun b o hL hb hc e n=>u.keep b o e n (fun z=>(List.mem_cons.mp (I.xw b z)).elim hL hb) hc) (fun b o _ _ hc e n=>u.any e n hc) (fun b o hc e n=>u.free b o e n hc) (fun b o hc e=>u.there b o e hc) u.tups u.frzs u.tbls (fun m' hm=>by
  obtain⟨o',Pa,Ph,qy,r'⟩:=hm;rw[ho] at qy;cases qy;exact⟨_,Pa,Ph,hL,r'⟩) hok hg
theorem Inv.turned{t':Nat}{it:Addr}(I:Inv X pins σ H s)(k:∀b o,b≠it->s.heap.get? b=some o->h'.get? b=some o)(hn:H it=none)(hL:it≠X.env.locals)
 (h1:it∈X.ex\/X.s₀.heap.objs.size<=it) (h2:∀x c,X.env.cells.lookup x=some c->c≠it) (h3:∀p∈X.pn++pins,p.1≠it):Inv X pins σ H {s with heap:=h',toks:=t'}:=by
 have nit:∀b u,H b=some u->b≠it:=fun b u e z=>by rw[z,hn] at e;cases e
 refine I.step (g':=s.gens) (d':=s.drawn) (ch:=[it]) (fun b hb=>?_) (fun b o _ _ hc e _=>k b o (fun z=>hc (by simp [z])) e) (fun b o _ _ hc e _=>⟨o.slots,k b o (fun z=>hc (by simp [z])) e⟩) (fun _ _ _ _ n=>n)
  (fun b o hc e=>⟨o,k b o (fun z=>hc (by simp [z])) e⟩) (fun _ _ e=>e) (fun _ _ _ e=>e) (fun b ps e=>⟨#[],by rw[e];simp⟩) (fun m hm=>?_) (fun b u e=>?_) I.bare
 .have e:b=it:=by simpa using hb
  subst e;exact⟨h1,hL,h2,h3⟩
 .obtain⟨o,es,ep,ho,r⟩:=hm;exact⟨o,es,ep,k _ o (Ne.symm hL) ho,r⟩
 .refine(I.hok b u e).wC (fun c v hc q=>k c v ?_ q) (fun _ q=>q) fun _ _ q=>q
  rcases hc with z | z
  .rw [z];exact nit b u e
  .exact nit c _ z
theorem Inv.tok(I:Inv X pins σ H s)(t:Nat):Inv X pins σ H {s with toks:=t}:=I.un (h':=s.heap) (t':=t) Un.refl I.hok
theorem Inv.kept{t':Nat}(I:Inv X pins σ H s)(k:∀b u,s.heap.get? b=some u->h'.get? b=some u):Inv X pins σ H {s with heap:=h',toks:=t'}:=I.un (Un.kept k) (I.hok.kept k)
theorem Inv.laid{a:Addr}{o:HO}{t':Nat}(I:Inv X pins σ H s)(k:∀b u,s.heap.get? b=some u->h'.get? b=some u)(hp:s.heap.objs.size<=a)(new:cR X.prog X.w (upd H a o) h' a o) :
 Inv X pins σ (upd H a o) {s with heap:=h',toks:=t'}:=I.un (Un.laid k hp (I.hok.fresh hp)) (I.hok.laid k hp new)
theorem Inv.write{x e:Addr}{o:HO}{t':Nat}(I:Inv X pins σ H s)(mu:Mi (H x))(he:e=x\/H e=some (.own x))(k:∀b u,b≠e->s.heap.get? b=some u->h'.get? b=some u)(KD:∃u,h'.get? e=some u)
 (new:cR X.prog X.w (upd H x o) h' x o):Inv X pins σ (upd H x o) {s with heap:=h',toks:=t'}:=I.un (Un.write mu he k KD) (I.hok.write mu he k KD new)
theorem Inv.zp{lO:X9}(I:Inv X pins σ H s)(h:∀p∈lO,s.heap.get? p.1=some p.2/\H p.1=none/\p.1≠X.env.locals/\p.1 ∉ X.fs/\∀v,p.2.data≠ .cell v):Inv X lO σ H s:=
 ⟨I.ok,I.os,I.bare,I.base,I.loc,I.cell,I.free,I.freeC,fun p hp=>(List.mem_append.mp hp).elim (fun z=>I.pin p (List.mem_append_left _ z)) (h p),I.hok,I.len⟩
theorem mZ{N:List Str}(hN:N.Nodup){i j:Nat}(a:N[i]? =some x)(b:N[j]? =some x):i=j:=by
 obtain⟨h1,e1⟩:=List.getElem?_eq_some_iff.mp a;obtain⟨h2,e2⟩:=List.getElem?_eq_some_iff.mp b;exact(List.getElem_inj hN).mp (e1.trans e2.symm)
theorem ud{M:Model}{A:Around}{E:X_}{i:Nat}{x:Str}{v:V}{u:Value}{Q:Unit->Shared->Prop}(I:Inv X pins σ H s)(hN:X.N.Nodup)(hi:X.N[i]? =some x)(hx:Loc X.env.scope x)(r:RelV v u)
 (h:∀s',Inv X pins (σ.set i (some v)) H s'->(∃a,Heap.SameBut a s.heap s'.heap/\(a=X.env.locals\/X.env.cells.lookup x=some a))->Q () s') (hf:X.fn x=true\/X.env.scope.names.lookup x=some .local:=by first | exact .inl rfl | exact .inr rfl | assumption):wpAny M A (storeName X.env x u) Q E s:=by
 obtain⟨m,hn,hl⟩:=id I.loc;have hcls:(X.env.scope.kind== .class || (X.env.scope.kind== .module && X.env.locals !=X.env.globals))=false:=by rw[I.ok.kind];rfl
 have hiσ:i < σ.length:=by rw[I.len];exact(List.getElem?_eq_some_iff.mp hi).1
 have Dh:=I.Dh;have tracked:∀{a:Addr} {h':Heap},(∃o,s.heap.get? a=some o/\H a=none)->Heap.SameBut a s.heap h'->mO X.prog X.w H h':=fun {a h'} ha hs b ob e=>by
  obtain⟨_,_,hfree⟩:=ha;refine(I.hok b ob e).wC (fun c w' hc q=>(hs.2 c ?_).trans q) (fun _ q=>q) fun _ _ q=>q
  rintro rfl;rcases hc with rfl | hc
  .rw [hfree] at e;cases e
  .rw [hfree] at hc;cases hc
 rcases hx with hk | hk
 .refine wpAny_storeName_local hk hn (fun h' MN hs=>?_) hcls
  obtain⟨oL,_,_,hoL,_⟩:=id hn;refine h _ ⟨I.ok,I.os,I.bare,⟨fun b o e n hb hx=>?_,fun b o e n hb hx=>?_,I.base.free,fun b o e hx=>?_,I.base.tups,I.base.frzs,I.base.tbls⟩,⟨_,MN,fun j y v' e1 e2 e3=>?_⟩,fun y c e=>?_,I.free,I.freeC,fun p hp=>?_,tracked ⟨oL,hoL,I.free⟩ hs,by simpa using I.len⟩ ⟨_,hs, .inl rfl⟩
  .exact(hs.2 b (Nat.ne_of_lt (Nat.lt_of_lt_of_le (Heap.lt_size e) I.ok.above))).trans (I.base.keep b o e n hb hx)
  .obtain⟨sl,e1⟩:=I.base.slot b o e n hb hx;exact⟨sl,(hs.2 b (Nat.ne_of_lt (Nat.lt_of_lt_of_le (Heap.lt_size e) I.ok.above))).trans e1⟩
  .obtain⟨o',e1⟩:=I.base.there b o e hx;exact⟨o',(hs.2 b (Nat.ne_of_lt (Nat.lt_of_lt_of_le (Heap.lt_size e) I.ok.above))).trans e1⟩
  .by_cases hj:j=i
   .subst hj;rw[hi] at e1;cases e1;rw[List.getElem?_set_self hiσ] at e2;cases e2;exact⟨u,r, .inl ⟨hk,by simp⟩⟩
   .rw [List.getElem?_set_ne (Ne.symm hj)] at e2;obtain⟨u',r',q⟩:=hl j y v' e1 e2 e3;refine⟨u',r',?_⟩;rcases q with⟨k,e⟩ | ⟨k,c,e,z⟩
    .refine .inl ⟨k,?_⟩;have:y≠x:=fun e=>hj (mZ hN e1 (e▸hi))
     simp [this,e]
    .exact .inr ⟨k,c,e,z.sameBut hs (Dh y c e)⟩
  .obtain⟨w',z⟩:=I.cell y c e;exact⟨w',z.sameBut hs (Dh y c e)⟩
  .obtain⟨e,n,ne,nf,d⟩:=I.pin p hp;exact⟨(hs.2 p.1 ne).trans e,n,ne,nf,d⟩
 .have hfn:X.fn x=true:=by
   rcases hf with z | z
   .exact z
   .rw [z] at hk;cases hk
  obtain⟨c,hc⟩:=I.ok.has x (.inl hk);obtain⟨w',z⟩:=I.cell x c hc;refine wpAny_storeName_cell I.ok.kind hk hc z (fun h' yC hs=>?_)
  obtain⟨oc,hoc,hocd⟩:=id z;refine h {s with heap:=h'} ⟨I.ok,I.os,I.bare,⟨fun b o e n hb hx=>?_,fun b o e n hb hx=>?_,I.base.free,fun b o e hx=>?_,I.base.tups,I.base.frzs,I.base.tbls⟩,⟨m,hn.sameBut hs (Ne.symm (Dh x c hc)),fun j y v' e1 e2 e3=>?_⟩,fun y c' e=>?_,I.free,I.freeC,fun p hp=>?_,tracked ⟨oc,hoc,I.freeC x c hc⟩ hs,by simpa using I.len⟩ ⟨c,hs, .inr hc⟩
  .exact(hs.2 b (Nat.ne_of_lt (Nat.lt_of_lt_of_le (Heap.lt_size e) (I.ok.cab x c hfn hc)))).trans (I.base.keep b o e n hb hx)
  .obtain⟨sl,e1⟩:=I.base.slot b o e n hb hx;exact⟨sl,(hs.2 b (Nat.ne_of_lt (Nat.lt_of_lt_of_le (Heap.lt_size e) (I.ok.cab x c hfn hc)))).trans e1⟩
  .obtain⟨o',e1⟩:=I.base.there b o e hx;exact⟨o',(hs.2 b (Nat.ne_of_lt (Nat.lt_of_lt_of_le (Heap.lt_size e) (I.ok.cab x c hfn hc)))).trans e1⟩
  .by_cases hj:j=i
   .subst hj;rw[hi] at e1;cases e1;rw[List.getElem?_set_self hiσ] at e2;cases e2;exact⟨u,r, .inr ⟨.inl hk,c,hc,yC⟩⟩
   .rw [List.getElem?_set_ne (Ne.symm hj)] at e2;obtain⟨u',r',q⟩:=hl j y v' e1 e2 e3;refine⟨u',r',?_⟩;rcases q with q | ⟨k,c',e,z'⟩
    .exact .inl q
    .refine .inr ⟨k,c',e,z'.sameBut hs ?_⟩;rintro rfl;exact hj (mZ hN e1 (I.ok.inj _ _ _ e hc▸hi))
  .by_cases hcc:c'=c
   .subst hcc;exact⟨_,yC⟩
   .obtain⟨w2,z2⟩:=I.cell y c' e;exact⟨w2,z2.sameBut hs hcc⟩
  .obtain⟨e,n,ne,nf,d⟩:=I.pin p hp;refine⟨(hs.2 p.1 ?_).trans e,n,ne,nf,d⟩;intro q;rw[q,hoc] at e;have q':oc=p.2:=Option.some.inj e;exact d w' (by rw[<-q'];exact hocd)
theorem sT{M:Model}{A:Around}{E:X_}{i:Nat}{x:Str}{v:V}{u:Value}{Q:Unit->Shared->Prop}(I:Inv X pins σ H s)(hN:X.N.Nodup)(hi:X.N[i]? =some x)(hx:Loc X.env.scope x)(r:RelV v u)
 (h:∀s',Inv X pins (σ.set i (some v)) H s'->Q () s') (hf:X.fn x=true\/X.env.scope.names.lookup x=some .local:=by first | exact .inl rfl | exact .inr rfl | assumption):wpAny M A (storeName X.env x u) Q E s:=
 ud I hN hi hx r (fun s' I' _=>h s' I') hf
theorem Inv.G9{s':Shared}{ch:List Addr}(I:Inv X pins σ H s)(ho:s'.os=s.os)(u:Un (oP X.stack) ch H H' s.heap s'.heap)(hok:mO X.prog X.w H' s'.heap)(hg:AllBare s'.gens)
 (El:∀b∈ch,(b∈X.ex\/X.s₀.heap.objs.size<=b)/\b≠X.env.locals/\(∀x c,X.env.cells.lookup x=some c->c≠b)/\∀p∈X.pn++pins,p.1≠b):Inv X pins σ H' s':=by
 obtain⟨h',g',d',t',o'⟩:=s';have e:o'=s.os:=ho;subst e;exact I.call (g':=g') (t':=t') (d':=d') u hok hg El
end
abbrev XK:=Value->Option Addr->Hp->Prop
abbrev St:=List (Option V)
abbrev VK:=V->Hp->Prop
abbrev TE:=St->Hp->VK->Prop
abbrev TT:=St->Hp->(Bool->Hp->Prop)->Prop
abbrev TA:=St->Hp->(List V->Hp->Prop)->Prop
structure Ends where
 nx:St->Hp->Prop
 rt:VK
 bk:St->Hp->Prop:=fun _ _=>False
 ct:St->Hp->Prop:=fun _ _=>False
abbrev TS:=Ends->St->Hp->Prop
def EP(X:Cx)(pins:X9)(σ:St)(Q:VK)(u:Value)(s':Shared):Prop:=∃v H',Inv X pins σ H' s'/\RelV v u/\Q v H'
def TP(X:Cx)(pins:X9)(σ:St)(Q:Bool->Hp->Prop)(b:Bool)(s':Shared):Prop:=∃H',Inv X pins σ H' s'/\Q b H'
def AP(X:Cx)(pins:X9)(σ:St)(Q:List V->Hp->Prop)(us:List Value)(s':Shared):Prop:=∃vs H',Inv X pins σ H' s'/\Vals vs us/\Q vs H'
def SP(X:Cx)(pins:X9)(D:Ends)(f:Flow)(s':Shared):Prop:=
 match f with
 | .next=>∃cj H',Inv X pins cj H' s'/\D.nx cj H'
 | .brk=>∃cj H',Inv X pins cj H' s'/\D.bk cj H'
 | .cont=>∃cj H',Inv X pins cj H' s'/\D.ct cj H'
 | .ret u=>∃v cj H',Inv X pins cj H' s'/\RelV v u/\D.rt v H'
def PE(X:Cx)(e:Expr)(t:TE):Prop:=
 ∀(pins:X9) (s:Shared) (σ:St) (H:Hp) (Q:VK),Inv X pins σ H s->t σ H Q->wpAny (model X.prog X.w) X.A (eval e X.env) (EP X pins σ Q) X.xe s
def PT(X:Cx)(e:Expr)(t:TT):Prop:=
 ∀(pins:X9) (s:Shared) (σ:St) (H:Hp) (Q:Bool->Hp->Prop),Inv X pins σ H s->t σ H Q->wpAny (model X.prog X.w) X.A (isTrue e X.env (eval e X.env)) (TP X pins σ Q) X.xe s
def PW(X:Cx)(e:Expr)(t:TT):Prop:=
 ∀(whole:Sem Value) (pins:X9) (s:Shared) (σ:St) (H:Hp) (Q:Bool->Hp->Prop),Inv X pins σ H s->t σ H Q->wpAny (model X.prog X.w) X.A (isTrue e X.env whole) (TP X pins σ Q) X.xe s
theorem PW.pt{X:Cx}{t:TT}(h:PW X e t):PT X e t:=h _
def PA(X:Cx)(es:List Expr)(t:TA):Prop:=
 ∀(pos:Pos) (pins:X9) (s:Shared) (σ:St) (H:Hp) (Q:List V->Hp->Prop),Inv X pins σ H s->t σ H Q->wpAny (model X.prog X.w) X.A (spliced (backTo pos (starEach es X.env))) (AP X pins σ Q) X.xe s
def PS(X:Cx)(st:Stmt)(t:TS):Prop:=
 ∀(pins:X9) (s:Shared) (σ:St) (H:Hp) (D:Ends),Inv X pins σ H s->t D σ H->wpAny (model X.prog X.w) X.A (exec st X.env) (SP X pins D) X.xe s
def uZ(X:Cx)(st:List Stmt)(t:TS):Prop:=
 ∀(pins:X9) (s:Shared) (σ:St) (H:Hp) (D:Ends),Inv X pins σ H s->t D σ H->wpAny (model X.prog X.w) X.A (execs st X.env) (SP X pins D) X.xe s
theorem cU{α:Type}{t:Sem α}{Q Q':α->Shared->Prop}{M:Model}{E:X_}{s:Shared}(h:wpAny M A t Q E s)(hQ:∀a s,Q a s->Q' a s):wpAny M A t Q' E s:=wpAny_mono h hQ fun _ _ x=>x
section
variable {X:Cx}
def Oc(i:Nat):TE:=fun σ H Q=>∃v,σ[i]? =some (some v)/\Q v H
def tC(v:V):TE:=fun _ H Q=>Q v H
theorem Dl{i:Nat}{pos:Pos}(hN:X.N[i]? =some x)(hv:Lu X.env.scope x)(hd:(x==("__debug__":Str))=false:=by decide)(xf:(x==("__classdict__":Str))=false:=by decide):PE X (.Name x pos) (Oc i):=by
 intro pins s σ H Q I h;obtain⟨v,e,h⟩:=h;obtain⟨m,hn,hl⟩:=I.loc;obtain⟨u,r,l⟩:=hl i x v hN e hv;have fin:EP X pins σ Q u s:=⟨v,H,I,r,h⟩;rcases l with⟨hk,hm⟩ | ⟨hk,c,hc,hcell⟩
 .exact wpAny_Name (wpAny_loadName_local I.ok.kind hk hn hm fin) hd
 .rcases hk with hk | hk
  .exact wpAny_Name (wpAny_loadName_cell I.ok.kind hk hc hcell fin) hd
  .exact wpAny_Name (wpAny_loadName_free I.ok.kind hk hc hcell fin xf) hd
theorem IC{i j pos}:PE X (.Constant (.int i) j pos) (tC (.int i)):=fun _ _ _ H _ I h=>wpAny_Constant_int ⟨.int i,H,I.tok _,⟨_,rfl⟩,h⟩
theorem Lq{b j pos}:PE X (.Constant (.bool b) j pos) (tC (.bl b)):=fun _ _ _ H _ I h=>Constant_bool ⟨.bl b,H,I,rfl,h⟩
theorem Hn{x j pos}:PE X (.Constant (.str x) j pos) (tC (.str x)):=fun _ _ _ H _ I h=>Calls.Constant_str ⟨.str x,H,I.tok _,⟨_,rfl⟩,h⟩
def Gl(X:Cx)(x:Str):Prop:=X.env.kindOf x=some .globalImplicit
theorem pF{E:X_}{pins:X9}{s:Shared}{σ:St}{H:Hp}{x:Str}{u:Value}{pos:Pos}{Q:X_}(I:Inv X pins σ H s)(hg:Gl X x)(hm:X.mg x=some u)(h:Q u s)
 (hd:(x==("__debug__":Str))=false:=by decide):wpAny (model X.prog X.w) X.A (eval (.Name x pos) X.env) Q E s:=
 Calls.Name_function_global I.ok.kind hg (Calls.loadGlobal_global (by rw[I.ok.glob];exact I.mod.glob.keeps I.bk) hm h) hd
theorem vp{E:X_}{pins:X9}{s:Shared}{σ:St}{H:Hp}{x:Str}{u:Value}{pos:Pos}{Q:X_}(I:Inv X pins σ H s)(hg:Gl X x)(hm:X.mg x=none)(hv:bootBuiltins x=some u)(h:Q u s)
 (hn:x≠"__name__":=by decide) (hd:(x==("__debug__":Str))=false:=by decide):wpAny (model X.prog X.w) X.A (eval (.Name x pos) X.env) Q E s:=by
 obtain⟨mb,h1,h2⟩:=I.mod.blt;exact Calls.Name_function_global I.ok.kind hg (Calls.loadGlobal_builtin (by rw[I.ok.glob];exact I.mod.glob.keeps I.bk) hm (by rw[I.ok.blt];exact h1.keeps I.bk) ((h2 x hn).trans hv) h) hd
theorem dk{v:V}{u:Value}{pos:Pos}(hg:Gl X x)(hm:X.mg x=some u)(r:RelV v u)(hd:(x==("__debug__":Str))=false:=by decide):PE X (.Name x pos) (tC v):=
 fun _ _ _ H _ I h=>pF I hg hm ⟨v,H,I,r,h⟩ hd
theorem zQ{v:V}{u:Value}{pos:Pos}(hg:Gl X x)(hm:X.mg x=none)(hv:bootBuiltins x=some u)(r:RelV v u)(hn:x≠"__name__":=by decide)(hd:(x==("__debug__":Str))=false:=by decide):PE X (.Name x pos) (tC v):=
 fun _ _ _ H _ I h=>vp I hg hm hv ⟨v,H,I,r,h⟩ hn hd
def M6(ta tb:TE)(k:Int->Int->Hp->Prop):St->Hp->Prop:=fun σ H=>ta σ H fun x H1=>tb σ H1 fun y H2=>∃i j,x= .int i/\y= .int j/\k i j H2
def Uv(ta tb:TE):TE:=fun σ H Q=>M6 ta tb (fun i j H2=>Q (.int (i+j)) H2) σ H
def Vl(ta tb:TE):TE:=fun σ H Q=>M6 ta tb (fun i j H2=>Q (.int (i - j)) H2) σ H
def Vj(ta tb:TE):TE:=fun σ H Q=>M6 ta tb (fun i j H2=>(-(2 ^ 64) < i/\i < 2 ^ 64)/\Q (.int (i*j)) H2) σ H
variable {a b:Expr} {ta tb:TE} {pos:Pos}
def PC(X:Cx)(op:CmpOp)(a b:Expr)(t:TE):Prop:=
 ∀(pins:X9) (s:Shared) (σ:St) (H:Hp) (Q:VK),Inv X pins σ H s->t σ H Q->
  wpAny (model X.prog X.w) X.A (eval a X.env) (fun v s₁=>wpAny (model X.prog X.w) X.A (eval b X.env) (fun u tR=>wpAny (model X.prog X.w) X.A (compareOp op v u) (EP X pins σ Q) X.xe tR) X.xe s₁) X.xe s
def AK(p:Int->Int->Bool)(ta tb:TE):TE:=fun σ H Q=>M6 ta tb (fun i j H2=>Q (.bl (p i j)) H2) σ H
abbrev Xq:TE->TE->TE:=AK fun i j=>decide (i < j)
abbrev XD:TE->TE->TE:=AK fun i j=>decide (i<=j)
abbrev XG:TE->TE->TE:=AK fun i j=>decide (j < i)
abbrev Xx:TE->TE->TE:=AK fun i j=>decide (j<=i)
abbrev Vf:TE->TE->TE:=AK fun i j=>decide (i=j)
abbrev U_:TE->TE->TE:=AK fun i j=>!decide (i=j)
def U4(ta:TE):TE:=fun σ H Q=>ta σ H fun x H1=>Q (.bl (decide (x= .cu))) H1
def Ry(ta:TE):TE:=fun σ H Q=>ta σ H fun x H1=>Q (.bl (!decide (x= .cu))) H1
def tB(t:TE):TT:=fun σ H Q=>t σ H fun x H1=>∃c,x= .bl c/\Q c H1
theorem JA{op:CmpOp}{t:TE}(h:PC X op a b t)(h1:behindInMarks op b=false:=by first | exact nobehind _ (by decide) (by decide) | rfl):PE X (.Compare a [op] [b] pos) t:=fun pins s σ H Q I hw=>wpAny_Compare1 (h pins s σ H Q I hw) h1
theorem xU{op:CmpOp}{t:TE}(h:PC X op a b t)(h1:behindInMarks op b=false:=by first | exact nobehind _ (by decide) (by decide) | rfl):PT X (.Compare a [op] [b] pos) (tB t):=by
 intro pins s σ H Q I hw;refine wpAny_isTrue_Compare1 (cU (h pins s σ H _ I hw) fun v s1 h1=>cU h1 fun u s2 h2=>cU h2 fun c s3 ⟨x,H1,I1,r1,q1⟩=>?_) h1
 obtain⟨d,rfl,q⟩:=q1;cases r1;exact wpAny_truthy_bool ⟨H1,I1,q⟩
variable {tA Nk:TT} {rest:List Expr}
def OH(t u:TT):TT:=fun σ H Q=>t σ H fun c H1=>if c=true then u σ H1 Q else Q false H1
def S8(t u:TT):TT:=fun σ H Q=>t σ H fun c H1=>if c=true then Q true H1 else u σ H1 Q
def OP(t:TT):TT:=fun σ H Q=>t σ H fun c H1=>Q (!c) H1
theorem Fu(ha:PT X a tA):PW X (.BoolOp .And [a] pos) tA:=by
 intro wh pins s σ H Q I h;refine isTrue_and (cU (ha pins s σ H Q I h) fun c s1 e=>?_)
 cases c with
 | true=>exact isTrue_and_nil e
 | false=>exact e
theorem BM(ha:PT X a tA):PW X (.BoolOp .Or [a] pos) tA:=by
 intro wh pins s σ H Q I h;refine isTrue_or (cU (ha pins s σ H Q I h) fun c s1 e=>?_)
 cases c with
 | false=>exact isTrue_or_nil e
 | true=>exact e
theorem Iy(ha:PT X a tA)(hb:PW X (.BoolOp .And (b ::rest) pos) Nk):PW X (.BoolOp .And (a ::b ::rest) pos) (OH tA Nk):=by
 intro wh pins s σ H Q I h;refine isTrue_and (cU (ha pins s σ H _ I h) fun c s1 ⟨H1,I1,q1⟩=>?_)
 cases c with
 | true=>exact hb wh pins s1 σ H1 Q I1 q1
 | false=>exact⟨H1,I1,q1⟩
theorem GI(ha:PT X a tA)(hb:PW X (.BoolOp .Or (b ::rest) pos) Nk):PW X (.BoolOp .Or (a ::b ::rest) pos) (S8 tA Nk):=by
 intro wh pins s σ H Q I h;refine isTrue_or (cU (ha pins s σ H _ I h) fun c s1 ⟨H1,I1,q1⟩=>?_)
 cases c with
 | true=>exact⟨H1,I1,q1⟩
 | false=>exact hb wh pins s1 σ H1 Q I1 q1
theorem BI(ha:PT X a tA):PT X (.UnaryOp .Not a pos) (OP tA):=by
 intro pins s σ H Q I h;exact isTrue_not (ha pins s σ H (fun c H1=>Q (!c) H1) I h)
def L6(ta tb:TE):TE:=fun σ H Q=>ta σ H fun x H1=>∃c,x= .bl c/\if c=true then tb σ H1 Q else Q (.bl false) H1
def N6(ta tb:TE):TE:=fun σ H Q=>ta σ H fun x H1=>∃c,x= .bl c/\if c=true then Q (.bl true) H1 else tb σ H1 Q
def Lr(ta:TE):TE:=fun σ H Q=>ta σ H fun x H1=>∃c,x= .bl c/\Q (.bl (!c)) H1
theorem HR{op}{t:TE}(h:PE X a t):PE X (.BoolOp op [a] pos) t:=fun pins s σ H Q I hw=>BoolOp_one (h pins s σ H Q I hw)
theorem HH(ha:PE X a ta)(hb:PE X (.BoolOp .And (b ::rest) pos) tb):PE X (.BoolOp .And (a ::b ::rest) pos) (L6 ta tb):=by
 intro pins s σ H Q I h;refine BoolOp_and (cU (ha pins s σ H _ I h) fun v s1 ⟨x,H1,I1,r1,q1⟩=>?_)
 obtain⟨c,rfl,q1⟩:=q1;cases r1;refine wpAny_truthy_bool ?_;cases c with
 | true=>exact hb pins s1 σ H1 Q I1 q1
 | false=>exact⟨.bl false,H1,I1,rfl,q1⟩
theorem Mv(ha:PE X a ta)(hb:PE X (.BoolOp .Or (b ::rest) pos) tb):PE X (.BoolOp .Or (a ::b ::rest) pos) (N6 ta tb):=by
 intro pins s σ H Q I h;refine BoolOp_or (cU (ha pins s σ H _ I h) fun v s1 ⟨x,H1,I1,r1,q1⟩=>?_)
 obtain⟨c,rfl,q1⟩:=q1;cases r1;refine wpAny_truthy_bool ?_;cases c with
 | false=>exact hb pins s1 σ H1 Q I1 q1
 | true=>exact⟨.bl true,H1,I1,rfl,q1⟩
theorem Cz(ha:PE X a ta):PE X (.UnaryOp .Not a pos) (Lr ta):=by
 intro pins s σ H Q I h;refine UnaryOp_ (cU (ha pins s σ H _ I h) fun v s1 ⟨x,H1,I1,r1,q1⟩=>?_)
 obtain⟨c,rfl,q1⟩:=q1;cases r1;exact not_of (wpAny_truthy_bool ⟨.bl (!c),H1,I1,rfl,q1⟩)
def Xa(t:TT)(ta tb:TE):TE:=fun σ H Q=>t σ H fun c H1=>if c=true then ta σ H1 Q else tb σ H1 Q
end
def nX(K:W.Frag)(H:Hp)(a:Addr)(xs:List V):Prop:=
 Rd H a (.lst xs)\/
  ∃(o:Obj) (its:Array Value) (n:Nat),K.lookup a=some o/\o.cls= .type "list"/\o.dict=none/\o.data= .seq its n/\its.size<=sizeLine/\Vals xs its.toList
def qp(K:W.Frag)(H:Hp)(a:Addr)(xs:List V):Prop:=
 Rd H a (.tup xs)\/
  ∃(o:Obj) (its:Array Value) (n:Nat),K.lookup a=some o/\o.cls= .type "tuple"/\o.data= .seq its n/\its.size<=sizeLine/\Vals xs its.toList
def Nv:Value->Option V
 | .none=>some .cu
 | .bool b=>some (.bl b)
 | .int i _=>some (.int i)
 | .str x _=>some (.str x)
 | .bytes b _=>some (.byt b)
 | .float b _=>some (.flt b)
 | .ref a=>some (.ref a)
 | .type n=>some (.ty n)
 | _=>none
theorem RelV.abs{x:V}{u:Value}(r:RelV x u):Nv u=some x:=by
 cases x with
 | cu=>cases r;rfl
 | bl _=>cases r;rfl
 | int _=>obtain⟨t,rfl⟩:=r;rfl
 | str _=>obtain⟨t,rfl⟩:=r;rfl
 | byt _=>obtain⟨t,rfl⟩:=r;rfl
 | flt _=>obtain⟨t,rfl⟩:=r;rfl
 | ref _=>cases r;rfl
 | ty _=>cases r;rfl
theorem RelV.inj{x y:V}{u:Value}(r:RelV x u)(q:RelV y u):x=y:=Option.some.inj (r.abs.symm.trans q.abs)
theorem Vals.inj:∀{xs ys:List V} {us:List Value},Vals xs us->Vals ys us->xs=ys
 | _,_,_, .nil, .nil=>rfl
 | _,_,_, .cons r t, .cons r' t'=>by rw[r.inj r',Vals.inj t t']
section
variable {X:Cx} {pins:X9} {σ:St} {H:Hp} {s:Shared} {a:Addr} {xs ys:List V}
theorem nX.of{K:W.Frag}(h:H a=some (.lst xs)):nX K H a xs:= .inl (.inl h)
theorem Inv.list(I:Inv X pins σ H s)(h:nX X.K H a xs):∃its:List Value,Vals xs its/\PlainL s.heap a its.toArray/\xs.length<=sizeLine:=by
 rcases h with h | ⟨o,its,n,hk,hc,hd,hs,hz,r⟩
 .obtain⟨z,its,n,r,e⟩:=h.ok I.hok;exact⟨its,r,⟨_,n,e,rfl,rfl,rfl⟩,z⟩
 .refine⟨its.toList,r,⟨o,n,I.nZ a o hk,hc,hd,by simpa using hs⟩,?_⟩
  have e:=r.length;simp only[Array.length_toList] at e;omega
theorem Inv.tuple(I:Inv X pins σ H s)(h:qp X.K H a xs):∃its:List Value,Vals xs its/\IsTup s.heap a its.toArray/\xs.length<=sizeLine:=by
 rcases h with h | ⟨o,its,n,hk,hc,hs,hz,r⟩
 .obtain⟨z,its,r,p⟩:=h.ok I.hok;exact⟨its,r,p,z⟩
 .refine⟨its.toList,r,⟨o,I.nZ a o hk,hc,n,by simpa using hs⟩,?_⟩
  have e:=r.length;simp only[Array.length_toList] at e;omega
theorem Inv.DG(I:Inv X pins σ H s)(h:nX X.K H a xs)(h':nX X.K H a ys):xs=ys:=by
 obtain⟨its,r,⟨o,n,e,_,_,d⟩,_⟩:=I.list h;obtain⟨its',r',⟨o',n',e',_,_,d'⟩,_⟩:=I.list h';rw[e] at e';cases e';rw[d] at d';injection d' with d1 _
 have:its=its':=by simpa using congrArg Array.toList d1
 subst this;exact r.inj r'
theorem Inv.A0(I:Inv X pins σ H s)(h:qp X.K H a xs)(h':qp X.K H a ys):xs=ys:=by
 obtain⟨its,r,⟨o,e,_,n,d⟩,_⟩:=I.tuple h;obtain⟨its',r',⟨o',e',_,n',d'⟩,_⟩:=I.tuple h';rw[e] at e';cases e';rw[d] at d';injection d' with d1 _
 have:its=its':=by simpa using congrArg Array.toList d1
 subst this;exact r.inj r'
end
abbrev Cx.tJ(X:Cx)(E:X_):Cx:={X with xe:=E}
abbrev Cx.E_(X:Cx):Cx:=X.tJ fun _ _=>False
theorem Cx.Ok.tJ{X:Cx}(ok:X.Ok)(E:X_):(X.tJ E).Ok:=
 ⟨ok.mod,ok.kind,ok.glob,ok.blt,ok.above,ok.inj,ok.has,ok.cab,ok.hd,ok.frames,ok.stk,ok.exf,ok.bs,ok.bsz,ok.noex,ok.exfs,ok.pf,ok.frf⟩
theorem Cx.Ok.ni{X:Cx}{E:X_}(ok:(X.tJ E).Ok):X.Ok:=
 ⟨ok.mod,ok.kind,ok.glob,ok.blt,ok.above,ok.inj,ok.has,ok.cab,ok.hd,ok.frames,ok.stk,ok.exf,ok.bs,ok.bsz,ok.noex,ok.exfs,ok.pf,ok.frf⟩
section
variable {X:Cx} {pins:X9} {σ:St} {H:Hp} {s:Shared} {E:X_}
theorem Inv.tJ(I:Inv X pins σ H s)(E:X_):Inv (X.tJ E) pins σ H s:=⟨I.ok.tJ E,I.os,I.bare,I.base,I.loc,I.cell,I.free,I.freeC,I.pin,I.hok,I.len⟩
theorem Inv.ni(I:Inv (X.tJ E) pins σ H s):Inv X pins σ H s:=⟨I.ok.ni,I.os,I.bare,I.base,I.loc,I.cell,I.free,I.freeC,I.pin,I.hok,I.len⟩
theorem SP.ni{D:Ends}{f:Flow}{s':Shared}(h:SP (X.tJ E) pins D f s'):SP X pins D f s':=by
 cases f with
 | next=>obtain⟨cj,H',I,q⟩:=h;exact⟨cj,H',I.ni,q⟩
 | brk=>obtain⟨cj,H',I,q⟩:=h;exact⟨cj,H',I.ni,q⟩
 | cont=>obtain⟨cj,H',I,q⟩:=h;exact⟨cj,H',I.ni,q⟩
 | ret u=>obtain⟨v,cj,H',I,r,q⟩:=h;exact⟨v,cj,H',I.ni,r,q⟩
theorem uZ.E_{st:List Stmt}{t:TS}(h:uZ X.E_ st t):uZ X st t:=fun pins s σ H D I hw=>
 wpAny_mono (h pins s σ H D (I.tJ _) hw) (fun _ _ q=>q.ni) fun _ _ z=>False.elim z
end
section
variable {X:Cx} {st:Stmt} {rest:List Stmt} {t u:TS} {e:Expr} {te:TE} {pos:Pos}
def LC:TS:=fun D σ H=>D.nx σ H
def Lj(t u:TS):TS:=fun D σ H=>t {D with nx:=u D} σ H
theorem ur:uZ X [] LC:=fun _ _ σ H _ I h=>wpAny_execs_nil ⟨σ,H,I,h⟩
theorem rB(h1:PS X st t)(h2:uZ X rest u):uZ X (st ::rest) (Lj t u):=by
 intro pins s σ H D I h;refine wpAny_execs_cons (cU (h1 pins s σ H {D with nx:=u D} I h) fun f s1 q=>?_)
 cases f with
 | next=>
   obtain⟨cj,H',I',q⟩:=q;exact h2 pins s1 cj H' D I' q
 | ret v=>exact q
 | brk=>exact q
 | cont=>exact q
theorem uE(h1:PS X st t):uZ X [st] t:=by
 intro pins s σ H D I h;refine wpAny_execs_cons (cU (h1 pins s σ H D I h) fun f s1 q=>?_)
 cases f with
 | next=>exact wpAny_execs_nil q
 | ret v=>exact q
 | brk=>exact q
 | cont=>exact q
def Ov:TS:=fun D σ H=>D.bk σ H
def R7:TS:=fun D σ H=>D.ct σ H
theorem Inv.quiet{pins:X9}{s:Shared}(I:Inv X pins σ H s):interactive X.env=false:=by simp [interactive,I.ok.kind]
def K_(te:TE):TS:=fun D σ H=>te σ H fun _ H1=>D.nx σ H1
theorem uK(he:PE X e te)(hs:swapsWith e none pos.line X.env=pure false:=by rfl):PS X (.Expr e pos) (K_ te):=by
 intro pins s σ H D I h;exact wpAny_Expr_any (cU (he pins s σ H _ I h) fun v s1 ⟨x,H1,I1,r1,q1⟩=>⟨σ,H1,I1,q1⟩) I.quiet hs
def NY(te:TE):TS:=fun D σ H=>te σ H D.rt
theorem Cj(he:PE X e te):PS X (.Return (some e) pos) (NY te):=by
 intro pins s σ H D I h;exact wpAny_Return_some (cU (he pins s σ H _ I h) fun v s1 ⟨x,H1,I1,r1,q1⟩=>⟨x,σ,H1,I1,r1,q1⟩)
def RS:TS:=fun D _ H=>D.rt .cu H
def K8(c:TT)(t u:TS):TS:=fun D σ H=>c σ H fun b H1=>if b=true then t D σ H1 else u D σ H1
theorem Di{tc:TT}(hc:PT X c tc)(ha:uZ X a t)(hb:uZ X b u):PS X (.If c a b pos) (K8 tc t u):=by
 intro pins s σ H D I h;refine wpAny_If (cU (hc pins s σ H _ I h) fun d s1 ⟨H1,I1,q1⟩=>?_)
 cases d with
 | true=>exact ha pins s1 σ H1 D I1 q1
 | false=>exact hb pins s1 σ H1 D I1 q1
def Ny:TS:=fun _ _ _=>False
end
abbrev TG:=V->St->Hp->(St->Hp->Prop)->Prop
abbrev GV:=List V->St->Hp->(St->Hp->Prop)->Prop
def PG(X:Cx)(target:Expr)(t:TG):Prop:=
 ∀(pins:X9) (s:Shared) (σ:St) (H:Hp) (v:V) (u:Value) (Q:St->Hp->Prop),Inv X pins σ H s->RelV v u->t v σ H Q->
  wpAny (model X.prog X.w) X.A (assign target X.env u) (fun _ s'=>∃cj H',Inv X pins cj H' s'/\Q cj H') X.xe s
def RJ(X:Cx)(ts:List Expr)(t:GV):Prop:=
 ∀(pins:X9) (s:Shared) (σ:St) (H:Hp) (vs:List V) (us:List Value) (Q:St->Hp->Prop),Inv X pins σ H s->Vals vs us->t vs σ H Q->
  wpAny (model X.prog X.w) X.A (assignInOrder ((assignEach ts X.env).map (·.2)) us) (fun _ s'=>∃cj H',Inv X pins cj H' s'/\Q cj H') X.xe s
abbrev IV:=V->V->V->Hp->(Hp->Prop)->Prop
def UU(X:Cx)(t:IV):Prop:=
 ∀(pins:X9) (s:Shared) (σ:St) (H:Hp) (o i v:V) (ov iv u:Value) (Q:Hp->Prop),Inv X pins σ H s->RelV o ov->RelV i iv->RelV v u->t o i v H Q->
  wpAny (model X.prog X.w) X.A (setItem ov iv u) (fun _ s'=>∃H',Inv X pins σ H' s'/\Q H') X.xe s
abbrev M_:=V->V->Hp->VK->Prop
def WZ(X:Cx)(op:Operator)(t:M_):Prop:=
 ∀(pins:X9) (s:Shared) (σ:St) (H:Hp) (x y:V) (v u:Value) (Q:VK),Inv X pins σ H s->RelV x v->RelV y u->t x y H Q->
  wpAny (model X.prog X.w) X.A (inplaceOp op v u) (EP X pins σ Q) X.xe s
section
variable {X:Cx} {pos:Pos}
def wL(i:Nat):TG:=fun v σ H Q=>Q (σ.set i (some v)) H
theorem zL{i:Nat}(hN:X.N.Nodup)(hi:X.N[i]? =some x)(hx:Loc X.env.scope x)(hf:X.fn x=true\/X.env.scope.names.lookup x=some .local:=by first | exact .inl rfl | exact .inr rfl | assumption):PG X (.Name x pos) (wL i):=by
 intro pins s σ H v u Q I r h;exact wpAny_assign_Name (sT I hN hi hx r (fun s' I'=>⟨_,H,I',h⟩) hf)
def Uk:GV:=fun vs σ H Q=>vs=[]/\Q σ H
def Rv(t:TG)(u:GV):GV:=fun vs σ H Q=>∃v r,vs=v ::r/\t v σ H fun cj H'=>u r cj H' Q
def UI(K:W.Frag)(n:Nat)(t:GV):TG:=fun v σ H Q=>∃a xs,v= .ref a/\qp K H a xs/\xs.length=n/\t xs σ H Q
def Vn(to ti:TE)(t:IV):TG:=fun v σ H Q=>to σ H fun o H1=>ti σ H1 fun i H2=>t o i v H2 fun H3=>Q σ H3
def JC(te:TE)(g:TG):TS:=fun D σ H=>te σ H fun x H1=>g x σ H1 D.nx
theorem Df{i:Nat}{te:TE}(hN:X.N.Nodup)(hi:X.N[i]? =some x)(hx:Loc X.env.scope x)(he:PE X e te)(hs:swapsWith e (some (.Name x pos')) pos.line X.env=pure false:=by rfl)(hf:X.fn x=true\/X.env.scope.names.lookup x=some .local:=by first | exact .inl rfl | exact .inr rfl | assumption) :
 PS X (.Assign [.Name x pos'] e pos) (JC te (wL i)):=by
 intro pins s σ H D I h;refine wpAny_Assign_Name (cU (he pins s σ H _ I h) fun v s1 ⟨y,H1,I1,r1,q1⟩=>?_) hs
 exact sT I1 hN hi hx r1 (fun s2 I2=>⟨_,H1,I2,q1⟩) hf
def Vu(i j:Nat)(ta:TA):TS:=fun D σ H=>ta σ H fun vs H1=>∃v w,vs=[v,w]/\D.nx ((σ.set i (some v)).set j (some w)) H1
def Vw(i:Nat)(te:TE)(ti:M_):TS:=fun D σ H=>∃x,σ[i]? =some (some x)/\te σ H fun y H1=>ti x y H1 fun z H2=>D.nx (σ.set i (some z)) H2
def R6(to ti te:TE)(Qw:V->V->Hp->VK->Prop)(We:M_)(QU:IV):TS:=fun D σ H=>to σ H fun o H1=>ti σ H1 fun i H2=>Qw o i H2 fun x H3=>te σ H3 fun y H4=>We x y H4 fun z H5=>QU o i z H5 fun H6=>D.nx σ H6
def Vy(X:Cx)(t:V->V->Hp->VK->Prop):Prop:=
 ∀(pins:X9) (s:Shared) (σ:St) (H:Hp) (o i:V) (ov iv:Value) (Q:VK),Inv X pins σ H s->RelV o ov->RelV i iv->t o i H Q->
  wpAny (model X.prog X.w) X.A (getItem ov iv) (EP X pins σ Q) X.xe s
def WY(f:Int->Int->Int):M_:=fun x y H Q=>∃i j,x= .int i/\y= .int j/\Q (.int (f i j)) H
end
section
variable {X:Cx} {pos:Pos}
def NO(c:TT)(tb:TS):TS:=fun D σ H=>∃W:Nat->St->Hp->Prop,(∃m,W m σ H)/\∀m σ H,W m σ H->
 c σ H fun b H1=>if b=true then ∃N:St->Hp->Prop,(∀cj H',N cj H'->∃m',m' < m/\W m' cj H')/\tb {D with nx:=N,ct:=N,bk:=D.nx} σ H1 else D.nx σ H1
end
structure It where
 go:Nat->Hp->Prop
 yld:Nat->Hp->V->Hp->Prop
 stop:Nat->Hp->Prop
def qY(X:Cx)(pins:X9)(H:Hp)(b:Addr):Prop:=
 H b=none/\b≠X.env.locals/\b ∉ X.fs/\(b∈X.ex\/X.s₀.heap.objs.size<=b)/\(∀x c,X.env.cells.lookup x=some c->c≠b)/\∀p∈X.pn++pins,p.1≠b
theorem Inv.Ag{X:Cx}{pins:X9}{H H':Hp}{s:Shared}{b:Addr}(I:Inv X pins σ H s)(hb:s.heap.objs.size<=b)(hn:H' b=none):qY X pins H' b:=by
 refine⟨hn,Nat.ne_of_gt (Nat.lt_of_lt_of_le I.lt hb),I.OY hb, .inr (Nat.le_trans I.sz hb),fun x c e z=>?_,fun p hp z=>?_⟩
 .obtain⟨v,q⟩:=I.cell x c e;exact absurd (Nat.lt_of_lt_of_le q.lt (by rw[z];exact hb)) (Nat.lt_irrefl _)
 .exact absurd (Nat.lt_of_lt_of_le (Heap.lt_size (I.pin p hp).1) (by rw[z];exact hb)) (Nat.lt_irrefl _)
structure Turn (P:Program) (w:World) (K:W.Frag) (tg:Expr) (J:It) (fp:List Addr) (it:Addr) (tn:Nat->Heap->Prop):Prop where
 mem:it∈fp
 obj:∀i h,tn i h->∀b∈fp,∃o,h.get? b=some o/\∀v,o.data≠ .cell v
 keep:∀i h h',tn i h->(∀b∈fp,∀o,h.get? b=some o->h'.get? b=some o)->tn i h'
 item:∀(X:Cx),X.prog=P->X.w=w->X.K=K->X.calm=true->∀(i:Nat) (pins:X9) (s:Shared) (σ:St) (H:Hp) (E:X_),Inv X pins σ H s->(∀b∈fp,qY X pins H b)->tn i s.heap->J.go i H->
  wpAny (model P w) X.A (pyNext (.ref it)) (fun r s1=>∃u,r=some u/\
   wpAny (model P w) X.A (letOwnedTupleGo tg (.ref it) u) (fun _ s2=>∃x H',Inv X pins σ H' s2/\RelV x u/\J.yld i H x H'/\tn (i+1) s2.heap/\∀b∈fp,H' b=none) E s1) E s
 done:∀(X:Cx),X.prog=P->X.w=w->X.K=K->X.calm=true->∀(i:Nat) (pins:X9) (s:Shared) (σ:St) (H:Hp) (E:X_),Inv X pins σ H s->(∀b∈fp,qY X pins H b)->tn i s.heap->J.stop i H->
  wpAny (model P w) X.A (pyNext (.ref it)) (fun r s1=>r=none/\Inv X pins σ H s1) E s
 self:∀(A:Around) (i:Nat) (s:Shared) (Q:X_) (E:X_),tn i s.heap->Q (.ref it) s->wpAny (model P w) A (pyIter (.ref it)) Q E s
abbrev TI:=St->Hp->(It->Hp->Prop)->Prop
def RC(X:Cx)(pins:X9)(σ:St)(tg:Expr)(R:It->Hp->Prop)(Nl:Value)(s2:Shared):Prop:=
 ∃(it:Addr) (fp:List Addr) (tn:Nat->Heap->Prop) (J:It) (H':Hp),Nl= .ref it/\Inv X pins σ H' s2/\Turn X.prog X.w X.K tg J fp it tn/\tn 0 s2.heap/\(∀b∈fp,qY X pins H' b)/\R J H'
def PI(X:Cx)(tg iter:Expr)(wi:TI):Prop:=
 ∀(pins:X9) (s:Shared) (σ:St) (H:Hp) (R:It->Hp->Prop),Inv X pins σ H s->wi σ H R->
  wpAny (model X.prog X.w) X.A (eval iter X.env) (fun v s1=>wpAny (model X.prog X.w) X.A (pyIter v) (RC X pins σ tg R) X.xe s1) X.xe s
theorem zB{M:Model}{A:Around}{E:X_}{s:Shared}{tg:Expr}{it:Addr}{u:Value}{o:Obj}{n:String}{vs:Array Value}{Q:Unit->Shared->Prop}(ho:s.heap.get? it=some o)(hc:o.cls= .type n)(hd:o.data= .fields vs)
 (hn:["enumerate","zip","dict_itemiterator","dict_reverseitemiterator","odict_iterator","itertools.zip_longest","itertools.pairwise"].contains n=false) (hQ:Q () s):wpAny M A (letOwnedTupleGo tg (.ref it) u) Q E s:=by
 unfold letOwnedTupleGo;cases tg <;> first
  | exact wpAny_pure hQ
  | (cases u <;> first
      | exact wpAny_pure hQ
      | (refine wpAny_bind (wpAny_load ho ?_)
         rw[hc,hd];show wpAny M A (if(["enumerate","zip","dict_itemiterator","dict_reverseitemiterator","odict_iterator","itertools.zip_longest","itertools.pairwise"].contains n && vs[0]? ==some (rawInt _))=true then _ else _) Q E s
         rw[if_neg (by intro h;rw [hn,Bool.false_and] at h;cases h)]
         exact wpAny_pure hQ))
def Ri(K:W.Frag)(a:Addr):It:=
 ⟨fun i H=>∃xs x,nX K H a xs/\xs[i]? =some x,fun i H x H'=>H'=H/\∀xs,nX K H a xs->xs[i]? =some x,fun i H=>∃xs,nX K H a xs/\xs.length<=i⟩
def Q5(K:W.Frag)(a:Addr):It:=
 ⟨fun i H=>∃xs x,qp K H a xs/\xs[i]? =some x,fun i H x H'=>H'=H/\∀xs,qp K H a xs->xs[i]? =some x,fun i H=>∃xs,qp K H a xs/\xs.length<=i⟩
def L9(lo:Int)(n:Nat):It:=⟨fun i _=>i < n,fun i H x H'=>H'=H/\x= .int (lo+i),fun i _=>n<=i⟩
theorem AM{K:W.Frag}(a it:Addr):Turn P w K tg (Ri K a) [it] it (fun i h=>h.IsListIter it a i) where
 mem:=by simp
 obj:=fun i h st b hb=>by
  have e:b=it:=by simpa using hb
  subst e;obtain⟨o,e,c,d⟩:=st;exact⟨o,e,fun v z=>by rw[d] at z;cases z⟩
 keep:=fun i h h' st k=>st.at fun o e=>k it (by simp) o e
 item:=by
  intro X hP hw hK hc i pins s σ H E I hf st hg;subst hP hw hK;obtain⟨xs,x,hq,hx⟩:=hg;obtain⟨its,rv,p,hz⟩:=I.list hq;obtain⟨u,hu,ru⟩:=rv.get hx;obtain⟨f0,f1,f2,f3,f4,f5⟩:=hf it (by simp)
  refine wpAny_pyNext_list_item st p.isList (x:=u) (by simpa using hu) fun h' D7 sb=>?_
  have I1:Inv X pins σ H {s with heap:=h'}:=I.turned (t':=s.toks) (fun b o hb e=>(sb.2 b hb).trans e) f0 f1 f3 f4 f5
  obtain⟨o,e,c,d⟩:=id D7;exact⟨u,rfl,zB (s:={s with heap:=h'}) e c d (by decide) ⟨x,H,I1,ru,⟨rfl,fun ys hy=>by rw[I.DG hy hq];exact hx⟩,D7,fun b hb=>(hf b hb).1⟩⟩
 done:=by
  intro X hP hw hK hc i pins s σ H E I hf st hg;subst hP hw hK;obtain⟨xs,hq,hx⟩:=hg;obtain⟨its,rv,p,hz⟩:=I.list hq;obtain⟨f0,f1,f2,f3,f4,f5⟩:=hf it (by simp)
  have hl:=rv.length;exact wpAny_pyNext_list_end (I.ok.hd hc) st p.isList (by simp;omega) fun h' eb=>⟨rfl,I.turned (t':=s.toks) (fun b o hb e=>eb b o hb e) f0 f1 f3 f4 f5⟩
 self:=fun _ _ _ _ _ st h=>wpAny_pyIter_listiter st h
theorem yj{K:W.Frag}(a it:Addr):Turn P w K tg (Q5 K a) [it] it (fun i h=>h.IsTupleIter it a i) where
 mem:=by simp
 obj:=fun i h st b hb=>by
  have e:b=it:=by simpa using hb
  subst e;obtain⟨o,e,c,d⟩:=st;exact⟨o,e,fun v z=>by rw[d] at z;cases z⟩
 keep:=fun i h h' st k=>st.at fun o e=>k it (by simp) o e
 item:=by
  intro X hP hw hK hc i pins s σ H E I hf st hg;subst hP hw hK;obtain⟨xs,x,hq,hx⟩:=hg;obtain⟨its,rv,p,hz⟩:=I.tuple hq;obtain⟨u,hu,ru⟩:=rv.get hx;obtain⟨f0,f1,f2,f3,f4,f5⟩:=hf it (by simp)
  refine wpAny_pyNext_tuple_item st (show s.heap.IsTuple a its.toArray from p) (x:=u) (by simpa using hu) fun h' D7 sb=>?_
  have I1:Inv X pins σ H {s with heap:=h'}:=I.turned (t':=s.toks) (fun b o hb e=>(sb.2 b hb).trans e) f0 f1 f3 f4 f5
  obtain⟨o,e,c,d⟩:=id D7;exact⟨u,rfl,zB (s:={s with heap:=h'}) e c d (by decide) ⟨x,H,I1,ru,⟨rfl,fun ys hy=>by rw[I.A0 hy hq];exact hx⟩,D7,fun b hb=>(hf b hb).1⟩⟩
 done:=by
  intro X hP hw hK hc i pins s σ H E I hf st hg;subst hP hw hK;obtain⟨xs,hq,hx⟩:=hg;obtain⟨its,rv,p,hz⟩:=I.tuple hq;obtain⟨f0,f1,f2,f3,f4,f5⟩:=hf it (by simp)
  have hl:=rv.length;exact wpAny_pyNext_tuple_end (I.ok.hd hc) st (show s.heap.IsTuple a its.toArray from p) (by simp;omega) fun h' eb=>⟨rfl,I.turned (t':=s.toks) (fun b o hb e=>eb b o hb e) f0 f1 f3 f4 f5⟩
 self:=fun _ _ _ _ _ st h=>wpAny_pyIter_tupleiter st h
theorem xY{K:W.Frag}(it:Addr)(lo:Int)(n:Nat):Turn P w K tg (L9 lo n) [it] it (fun i h=>IsRangeIter h it (lo+(i:Nat)*1) ((n:Int) - (i:Nat)) 1) where
 mem:=by simp
 obj:=fun i h st b hb=>by
  have e:b=it:=by simpa using hb
  subst e;exact⟨_,st,fun v z=>by
   have z':Data.fields _=Data.cell v:=z;cases z'⟩
 keep:=fun i h h' st k=>k it (by simp) _ st
 item:=by
  intro X hP hw hK hc i pins s σ H E I hf st hg;subst hP hw hK;obtain⟨f0,f1,f2,f3,f4,f5⟩:=hf it (by simp)
  have W:=Walks.range (prog:=X.prog) (w:=X.w) (I.ok.hd hc) it lo 1 n;refine W.item i s _ _ hg st fun v h' tk hv D7 kk=>?_
  obtain⟨t,rfl⟩:=hv;have I1:Inv X pins σ H {s with heap:=h',toks:=tk}:=I.turned (fun b o hb e=>kk b o (by simpa using hb) e) f0 f1 f3 f4 f5
  refine⟨_,rfl,zB (s:={s with heap:=h',toks:=tk}) (n:="range_iterator") D7 rfl rfl (by decide) ⟨.int (lo+i),H,I1,⟨t,?_⟩,⟨rfl,rfl⟩,D7,fun b hb=>(hf b hb).1⟩⟩
  rw[Int.mul_one]
 done:=by
  intro X hP hw hK hc i pins s σ H E I hf st hg;subst hP hw hK;obtain⟨f0,f1,f2,f3,f4,f5⟩:=hf it (by simp)
  exact wpAny_pyNext_range_end (I.ok.hd hc) st (by have:n<=i:=hg;omega) fun h' eb=>⟨rfl,I.turned (t':=s.toks) (fun b o hb e=>eb b o hb e) f0 f1 f3 f4 f5⟩
 self:=fun _ _ _ _ _ st h=>wpAny_pyIter_rangeiter st h
section
variable {X:Cx} {tg:Expr}
def Q9(K:W.Frag)(tl:TE):TI:=fun σ H R=>tl σ H fun x H1=>∃a,x= .ref a/\(∃xs,nX K H1 a xs)/\R (Ri K a) H1
def Od(K:W.Frag)(tl:TE):TI:=fun σ H R=>tl σ H fun x H1=>∃a,x= .ref a/\(∃xs,qp K H1 a xs)/\R (Q5 K a) H1
theorem DS{pins:X9}{σ:St}{H:Hp}{s:Shared}{R:It->Hp->Prop}{E:X_}{lo hi:Int}{t u v:Tok}{tk:Nat}(I:Inv X pins σ H s)(h1: -(2 ^ 62)<=lo)(h2:lo < 2 ^ 62)(h3: -(2 ^ 62)<=hi)(h4:hi < 2 ^ 62)
 (q:R (L9 lo (hi - lo).toNat) H):wpAny (model X.prog X.w) X.A (pyIter (.ref s.heap.objs.size)) (RC X pins σ tg R) E {s with heap:=s.heap.push {cls:= .type "range",data:= .fields #[.int lo t, .int hi u, .int 1 v]},toks:=tk}:=by
 refine wpAny_pyIter_range (IsRange.new ..) (small_one h1 h2 h3 h4) ?_;have I1:Inv X pins σ H {s with heap:=s.heap.push {cls:= .type "range",data:= .fields #[.int lo t, .int hi u, .int 1 v]},toks:=tk}:=I.kept fun b o e=>Heap.get?_push_of_some _ e
 refine⟨(s.heap.push {cls:= .type "range",data:= .fields #[.int lo t, .int hi u, .int 1 v]}).objs.size,[(s.heap.push {cls:= .type "range",data:= .fields #[.int lo t, .int hi u, .int 1 v]}).objs.size],_,_,H,rfl,
  I1.kept (t':=tk) fun b o e=>Heap.get?_push_of_some _ e,xY _ lo (hi - lo).toNat,?_,fun b hb=>?_,q⟩
 .have e1:lo+((0:Nat):Int)*1=lo:=by simp
  have e2:(((hi - lo).toNat:Nat):Int) - ((0:Nat):Int)=Builtin.Range.rangeSize lo hi 1:=by rw[rangeSize_one];split <;> omega
  show IsRangeIter _ _ (lo+((0:Nat):Int)*1) ((((hi - lo).toNat:Nat):Int) - ((0:Nat):Int)) 1;rw[e1,e2];exact Heap.get?_push_size _ rfl
 .have e:b=(s.heap.push {cls:= .type "range",data:= .fields #[.int lo t, .int hi u, .int 1 v]}).objs.size:=by simpa using hb
  subst e;exact I1.Ag (Nat.le_refl _) (I1.hok.fresh (Nat.le_refl _))
def GS(ta:TA):TI:=fun σ H R=>ta σ H fun vs H1=>∃j:Int,vs=[.int j]/\ -(2 ^ 62)<=j/\j < 2 ^ 62/\R (L9 0 j.toNat) H1
def RU(ta:TA):TI:=fun σ H R=>ta σ H fun vs H1=>∃i j:Int,vs=[.int i, .int j]/\(-(2 ^ 62)<=i/\i < 2 ^ 62/\ -(2 ^ 62)<=j/\j < 2 ^ 62)/\R (L9 i (j - i).toNat) H1
theorem z0{ta:TA}{p pos:Pos}(hg:Gl X "range")(hm:X.mg "range"=none)(ha:PA X [a] ta)(hs:starEach [a] X.env=[(false,eval a X.env)]:=by rfl):PI X tg (.Call (.Name "range" p) [a] [] pos) (GS ta):=by
 intro pins s σ H R I h;refine Call_ (vp I hg hm boot_range (PyProof.Rows.callWith_type1 (cU (ha pos pins s σ H _ I h) fun us s1 ⟨vs,H1,I1,r1,q1⟩=>?_) hs rfl))
 obtain⟨j,e,q1,q2,q⟩:=q1;subst e;cases r1 with
 | cons r rr=>
   cases rr;obtain⟨t,rfl⟩:=r;exact call_range_1 (DS I1 (by omega) (by omega) q1 q2 (by simpa using q))
def OC(wi:TI)(g:TG)(tb:TS):TS:=fun D σ H=>wi σ H fun J H1=>∃W:Nat->Nat->St->Hp->Prop,(∃m,W 0 m σ H1)/\∀i m σ H,W i m σ H->
 (J.stop i H/\D.nx σ H)\/(J.go i H/\∃N:St->Hp->Prop,(∀cj H',N cj H'->∃m',m' < m/\W (i+1) m' cj H')/\∀x H',J.yld i H x H'->g x σ H' fun yE H2=>tb {D with nx:=N,ct:=N,bk:=D.nx} yE H2)
def oQ(fp:List Addr)(h:Heap):X9:=fp.filterMap fun b=>(h.get? b).map fun o=>(b,o)
theorem lX{fp:List Addr}{h:Heap}{b:Addr}{o:Obj}(hb:b∈fp)(e:h.get? b=some o):(b,o)∈oQ fp h:=List.mem_filterMap.mpr ⟨b,hb,by rw[e];rfl⟩
theorem AW{fp:List Addr}{h:Heap}{p:Addr × Obj}(hp:p∈oQ fp h):p.1∈fp/\h.get? p.1=some p.2:=by
 obtain⟨b,hb,e⟩:=List.mem_filterMap.mp hp;cases q:h.get? b with
 | none=>rw [q] at e;cases e
 | some o=>
   rw[q] at e;have e':(b,o)=p:=Option.some.inj e;subst e';exact⟨hb,q⟩
theorem Inv.pinned{pins:X9}{s:Shared}{fp:List Addr}(I:Inv X pins σ H s)(hf:∀b∈fp,qY X pins H b)(ho:∀b∈fp,∃o,s.heap.get? b=some o/\∀v,o.data≠ .cell v):Inv X (pins++oQ fp s.heap) σ H s:=
 I.zp fun p hp=>(List.mem_append.mp hp).elim (fun z=>I.pin p (List.mem_append_right _ z)) fun z=>by
  obtain⟨hb,e⟩:=AW z;obtain⟨f0,f1,f2,_⟩:=hf p.1 hb;obtain⟨o,e',d⟩:=ho p.1 hb;rw[e] at e';cases e';exact⟨e,f0,f1,f2,d⟩
theorem Inv.pR{pins pl:X9}{s:Shared}(I:Inv X (pins++pl) σ H s):Inv X pins σ H s:=I.zp fun p hp=>I.pin p (List.mem_append_right _ (List.mem_append_left _ hp))
theorem Bj{iter:Expr}{body:List Stmt}{wi:TI}{g:TG}{tb:TS}{pos:Pos}(hp:PassesOwn (model X.prog X.w) X.A X.env X.xe)(hc:X.calm=true)(hi:PI X tg iter wi)(hg:PG X tg g)(hb:uZ X body tb)
 (hs:∀x,foldedSetIterable iter X.env x=pure x:=by intro _;rfl):PS X (.For tg iter body [] pos) (OC wi g tb):=by
 intro pins s σ H D I h;refine wpAny_For (cU (hi pins s σ H _ I h) fun v s1 h1=>cU h1 fun Nl s2 h2=>?_) hs
 obtain⟨it,fp,tn,J,H2,e,I2,T,Ke,f2,W,⟨m0,w0⟩,turn⟩:=h2;subst e;have stat:∀{H':Hp},(∀b∈fp,H' b=none)->∀b∈fp,qY X pins H' b:=fun hn b hb=>⟨hn b hb,(f2 b hb).2⟩
 refine codeAny_forLoop_any (fun n s'=>∃i cj H',Inv X pins cj H' s'/\tn i s'.heap/\(∀b∈fp,H' b=none)/\W i n cj H') ?_ m0 ⟨0,σ,H2,I2,Ke,fun b hb=>(f2 b hb).1,w0⟩
 rintro n s3 ⟨i,GG,H3,I3,GD,ML,w3⟩;rcases turn i n GG H3 w3 with⟨stop,qn⟩ | ⟨go,N,hN,step⟩
 .refine wpAny_passesOwn hp (cU (T.done X rfl rfl rfl hc i pins s3 GG H3 X.xe I3 (stat ML) GD stop) fun r s4 ⟨hr,I4⟩=>?_)
  subst hr;exact wpAny_execs_nil ⟨GG,H3,I4,qn⟩
 .refine wpAny_passesOwn hp (cU (T.item X rfl rfl rfl hc i pins s3 GG H3 X.xe I3 (stat ML) GD go) fun r s4 ⟨u,hr,h4⟩=>?_)
  subst hr;refine wpAny_passesOwn hp (cU h4 fun _ s5 ⟨x,H5,I5,r5,y5,Kb,O2⟩=>?_)
  have I5':=I5.pinned (stat O2) (T.obj _ _ Kb);refine wpAny_passesOwn hp (cU (hg _ s5 GG H5 x u _ I5' r5 (step x H5 y5)) fun _ s6 ⟨MK,H6,I6,q6⟩=>?_)
  refine wpAny_passesOwn hp (cU (hb _ s6 MK H6 _ I6 q6) fun f s7 q7=>?_)
  have again:∀{xg:St} {H7:Hp},Inv X (pins++oQ fp s5.heap) xg H7 s7->N xg H7->∃m,m < n/\∃i cj H',Inv X pins cj H' s7/\tn i s7.heap/\(∀b∈fp,H' b=none)/\W i m cj H':=fun {xg H7} I7 n7=>by
   obtain⟨m',hm,w7⟩:=hN xg H7 n7;refine⟨m',hm,i+1,xg,H7,I7.pR,T.keep _ _ _ Kb fun b hb o e=>(I7.pin (b,o) (List.mem_append_right _ (List.mem_append_right _ (lX hb e)))).1,fun b hb=>?_,w7⟩
   obtain⟨o,e,d⟩:=T.obj _ _ Kb b hb;exact(I7.pin (b,o) (List.mem_append_right _ (List.mem_append_right _ (lX hb e)))).2.1
  cases f with
  | next=>obtain⟨xg,H7,I7,n7⟩:=q7;exact again I7 n7
  | cont=>obtain⟨xg,H7,I7,n7⟩:=q7;exact again I7 n7
  | brk=>obtain⟨xg,H7,I7,q7⟩:=q7;exact⟨xg,H7,I7.pR,q7⟩
  | ret v=>obtain⟨x7,xg,H7,I7,r7,q7⟩:=q7;exact⟨x7,xg,H7,I7.pR,r7,q7⟩
end
abbrev R2:=V->V->Hp->VK->Prop
def m3(X:Cx)(f:Value->Value->Sem Value)(r:R2):Prop:=
 ∀(pins:X9) (s:Shared) (σ:St) (H:Hp) (x y:V) (v u:Value) (Q:VK),Inv X pins σ H s->RelV x v->RelV y u->r x y H Q->
  wpAny (model X.prog X.w) X.A (f v u) (EP X pins σ Q) X.xe s
def W7(X:Cx)(f:Value->Sem Value)(r:V->Hp->VK->Prop):Prop:=
 ∀(pins:X9) (s:Shared) (σ:St) (H:Hp) (x:V) (v:Value) (Q:VK),Inv X pins σ H s->RelV x v->r x H Q->
  wpAny (model X.prog X.w) X.A (f v) (EP X pins σ Q) X.xe s
def jS(X:Cx)(f:Value)(r:List V->Hp->VK->Prop):Prop:=
 ∀(pins:X9) (s:Shared) (σ:St) (H:Hp) (xs:List V) (us:List Value) (Q:VK),Inv X pins σ H s->Vals xs us->r xs H Q->
  wpAny (model X.prog X.w) X.A (call f us) (EP X pins σ Q) X.xe s
def Ox(X:Cx)(r:V->Hp->(Bool->Hp->Prop)->Prop):Prop:=
 ∀(pins:X9) (s:Shared) (σ:St) (H:Hp) (x:V) (v:Value) (Q:Bool->Hp->Prop),Inv X pins σ H s->RelV x v->r x H Q->
  wpAny (model X.prog X.w) X.A (truthy v) (TP X pins σ Q) X.xe s
def Km(r:R2)(ta tb:TE):TE:=fun σ H Q=>ta σ H fun x H1=>tb σ H1 fun y H2=>r x y H2 Q
def Xu(r:V->Hp->VK->Prop)(ta:TE):TE:=fun σ H Q=>ta σ H fun x H1=>r x H1 Q
def rI(C:Int->Int->Prop)(g:Int->Int->V):R2:=fun x y H Q=>∃i j,x= .int i/\y= .int j/\C i j/\Q (g i j) H
def Ef(g:Int->Int->V):R2:=fun x y H Q=>∃i j,x= .int i/\y= .int j/\Q (g i j) H
def rU(g:Int->V):V->Hp->VK->Prop:=fun x H Q=>∃i,x= .int i/\Q (g i) H
section
variable {X:Cx} {a b c:Expr} {ta tb tc:TE} {pos:Pos}
theorem Ij(ha:PE X a ta)(hb:PE X b tb){pins:X9}{s:Shared}{σ:St}{H:Hp}{R:V->V->Hp->Prop}(I:Inv X pins σ H s)
 (h:ta σ H fun x H1=>tb σ H1 fun y H2=>R x y H2) {Q:X_} {f:Value->Value->Sem Value}
 (hf:∀v u s2 x y H2,Inv X pins σ H2 s2->RelV x v->RelV y u->R x y H2->wpAny (model X.prog X.w) X.A (f v u) Q X.xe s2) :
 wpAny (model X.prog X.w) X.A (eval a X.env) (fun v s₁=>wpAny (model X.prog X.w) X.A (eval b X.env) (fun u tR=>wpAny (model X.prog X.w) X.A (f v u) Q X.xe tR) X.xe s₁) X.xe s:=by
 refine cU (ha pins s σ H _ I h) fun v s1 ⟨x,H1,I1,r1,q1⟩=>?_
 refine cU (hb pins s1 σ H1 _ I1 q1) fun u s2 ⟨y,H2,I2,r2,q2⟩=>?_
 exact hf v u s2 x y H2 I2 r1 r2 q2
theorem G6{op:Operator}{r:R2}(ho:m3 X (binaryOp op) r)(ha:PE X a ta)(hb:PE X b tb):PE X (.BinOp a op b pos) (Km r ta tb):=by
 intro pins s σ H Q I h;exact wpAny_BinOp (Ij ha hb I h fun v u s2 x y H2 I2 rx ry q=>ho pins s2 σ H2 x y v u Q I2 rx ry q)
theorem LW{f:Value->Value->Sem Value}{C:Int->Int->Prop}{g:Int->Int->Int}
 (rule:∀(i j:Int) (t u:Tok) (s:Shared) (Q:X_) (E:X_),C i j->Q (.int (g i j) s.toks) {s with toks:=s.toks+1}->wpAny (model X.prog X.w) X.A (f (.int i t) (.int j u)) Q E s) :
 m3 X f (rI C fun i j=> .int (g i j)):=by
 intro pins s σ H x y v u Q I rx ry h;obtain⟨i,j,rfl,rfl,hc,q⟩:=h;obtain⟨t,rfl⟩:=rx;obtain⟨t',rfl⟩:=ry;exact rule i j t t' s _ _ hc ⟨.int (g i j),H,I.tok _,⟨_,rfl⟩,q⟩
theorem Mx{f:Value->Value->Sem Value}{g:Int->Int->Int}
 (rule:∀(i j:Int) (t u:Tok) (s:Shared) (Q:X_) (E:X_),Q (.int (g i j) s.toks) {s with toks:=s.toks+1}->wpAny (model X.prog X.w) X.A (f (.int i t) (.int j u)) Q E s) :
 m3 X f (Ef fun i j=> .int (g i j)):=by
 intro pins s σ H x y v u Q I rx ry h;obtain⟨i,j,rfl,rfl,q⟩:=h;obtain⟨t,rfl⟩:=rx;obtain⟨t',rfl⟩:=ry;exact rule i j t t' s _ _ ⟨.int (g i j),H,I.tok _,⟨_,rfl⟩,q⟩
theorem Ew{f:Value->Value->Sem Value}{g:Int->Int->Bool}
 (rule:∀(i j:Int) (t u:Tok) (s:Shared) (Q:X_) (E:X_),Q (.bool (g i j)) s->wpAny (model X.prog X.w) X.A (f (.int i t) (.int j u)) Q E s) :
 m3 X f (Ef fun i j=> .bl (g i j)):=by
 intro pins s σ H x y v u Q I rx ry h;obtain⟨i,j,rfl,rfl,q⟩:=h;obtain⟨t,rfl⟩:=rx;obtain⟨t',rfl⟩:=ry;exact rule i j t t' s _ _ ⟨.bl (g i j),H,I,rfl,q⟩
def NR(i j:Int):Prop:=0 < j/\j < 1073741824
def RA(i j:Int):Prop:=j≠0/\j.natAbs < 1073741824
def OA(i j:Int):Prop:=0<=j/\j<=1000000/\i.natAbs < 2 ^ 64
def IZ(i j:Int):Prop:=(-(2 ^ 64) < i/\i < 2 ^ 64)\/(-(2 ^ 64) < j/\j < 2 ^ 64)
theorem IZ.ok{i j:Int}(h:IZ i j):IntMulOk i j:=by
 rcases h with⟨h1,h2⟩ | ⟨h1,h2⟩
 .exact .of_left (intBits_le_64 h1 h2)
 .exact .of_right (intBits_le_64 h1 h2)
theorem yy(k:Nat):(0:Int)<=2 ^ k:=by
 rw[two_pow_cast];exact Int.natCast_nonneg _
theorem Ia:m3 X (binaryOp .Add) (Ef fun i j=> .int (i+j)):=Mx fun _ _ _ _ _ _ _ q=>add_int q
theorem HC:m3 X (binaryOp .Sub) (Ef fun i j=> .int (i - j)):=Mx fun _ _ _ _ _ _ _ q=>sub_int q
theorem IJ:m3 X (binaryOp .Mult) (rI IZ fun i j=> .int (i*j)):=LW fun _ _ _ _ _ _ _ hc q=>mul_int q hc.ok
theorem FK:m3 X (binaryOp .FloorDiv) (rI NR fun i j=> .int (i / j)):=LW fun i j _ _ _ _ _ hc q=>by
 have h1:(0:Int) < j:=hc.1;have h2:j < 1073741824:=hc.2;exact floordiv_int (by omega) (by rw[Int.fdiv_eq_ediv_of_nonneg i (by omega)];exact q) (.inl (PyProof.noPylong_small (by omega)))
theorem Jg:m3 X (binaryOp .Mod) (rI (fun _ j=>0 < j) fun i j=> .int (i % j)):=LW fun i j _ _ _ _ _ hc q=>by
 have h1:(0:Int) < j:=hc;exact mod_int' (by omega) (by rw[Int.fmod_eq_emod_of_nonneg i (by omega)];exact q)
theorem IP:m3 X (binaryOp .Pow) (rI OA fun i j=> .int (i ^ j.toNat)):=LW fun _ _ _ _ _ _ _ hc q=>pow_int_small hc.1 hc.2.1 hc.2.2 q
theorem Jq:m3 X (binaryOp .RShift) (rI (fun _ j=>0<=j) fun i j=> .int (i / 2 ^ j.toNat)):=LW fun i j _ _ _ _ _ hc q=>
 rshift_int hc (by rw[Int.fdiv_eq_ediv_of_nonneg i (yy _)];exact q)
end
def Mn:V->V->Bool
 | .cu, .cu=>true | .cu, .int _=>true | .int _, .cu=>true | .cu, .bl _=>true | .bl _, .cu=>true | .cu, .str _=>true | .str _, .cu=>true
 | .int _, .int _=>true | .bl _, .bl _=>true | .str _, .str _=>true | .byt _, .byt _=>true
 | .int _, .str _=>true | .str _, .int _=>true | .bl _, .str _=>true | .str _, .bl _=>true
 | _,_=>false
def UX:R2:=fun x y H Q=>Mn x y=true/\Q (.bl (decide (x=y))) H
def Vm:R2:=fun x y H Q=>Mn x y=true/\Q (.bl (!decide (x=y))) H
theorem zJ{i j:Int}:decide (V.int i=V.int j)=(i==j):=by
 rw[Bool.eq_iff_iff];simp
theorem BO{i j:Bool}:decide (V.bl i=V.bl j)=(i==j):=by
 rw[Bool.eq_iff_iff];simp
theorem yS:decide (V.str i=V.str j)=(i==j):=by
 rw[Bool.eq_iff_iff];simp
theorem yN{i j:Array UInt8}:decide (V.byt i=V.byt j)=(i.toList==j.toList):=by
 rw[Bool.eq_iff_iff];cases i;cases j;simp
section
variable {X:Cx} {a b c:Expr} {ta tb tc:TE} {pos:Pos}
theorem bH{pins:X9}{s:Shared}{Q:VK}{k k':Bool}(I:Inv X pins σ H s)(q:Q (.bl k) H)(e:k=k'):EP X pins σ Q (.bool k') s:=by
 subst e;exact⟨.bl k,H,I,rfl,q⟩
theorem DU:m3 X (compareOp .Eq) UX:=by
 intro pins s σ H x y v u Q I rx ry h;obtain⟨hs,q⟩:=h;cases x with
 | cu=>
   cases rx;cases y with
   | cu=>cases ry;exact PySem.EqNone.eq_none_none (bH I q (by simp))
   | bl j=>cases ry;exact PySem.EqNone.eq_none_bool (bH I q (by simp))
   | int j=>obtain⟨t',rfl⟩:=ry;exact PySem.EqNone.eq_none_int (bH I q (by simp))
   | str j=>obtain⟨t',rfl⟩:=ry;exact PySem.EqNone.eq_none_str (bH I q (by simp))
   | _=>exact absurd (show false=true from hs) Bool.false_ne_true
 | bl i=>
   cases rx;cases y with
   | cu=>cases ry;exact PySem.EqNone.eq_bool_none (bH I q (by simp))
   | bl j=>cases ry;exact eq_bool (bH I q BO)
   | str j=>obtain⟨t',rfl⟩:=ry;exact PySem.EqMixed.eq_bool_str (bH I q (by simp))
   | _=>exact absurd (show false=true from hs) Bool.false_ne_true
 | int i=>
   obtain⟨t,rfl⟩:=rx;cases y with
   | cu=>cases ry;exact PySem.EqNone.eq_int_none (bH I q (by simp))
   | int j=>obtain⟨t',rfl⟩:=ry;exact eq_int (bH I q zJ)
   | str j=>obtain⟨t',rfl⟩:=ry;exact PySem.EqMixed.eq_int_str (bH I q (by simp))
   | _=>exact absurd (show false=true from hs) Bool.false_ne_true
 | str i=>
   obtain⟨t,rfl⟩:=rx;cases y with
   | cu=>cases ry;exact PySem.EqNone.eq_str_none (bH I q (by simp))
   | bl j=>cases ry;exact PySem.EqMixed.eq_str_bool (bH I q (by simp))
   | int j=>obtain⟨t',rfl⟩:=ry;exact PySem.EqMixed.eq_str_int (bH I q (by simp))
   | str j=>obtain⟨t',rfl⟩:=ry;exact eq_str (bH I q yS)
   | _=>exact absurd (show false=true from hs) Bool.false_ne_true
 | byt i=>
   obtain⟨t,rfl⟩:=rx;cases y with
   | byt j=>obtain⟨t',rfl⟩:=ry;exact PySem.W.eq_bytes (bH I q yN)
   | _=>exact absurd (show false=true from hs) Bool.false_ne_true
 | _=>cases y <;> exact absurd (show false=true from hs) Bool.false_ne_true
theorem Ce:m3 X (compareOp .NotEq) Vm:=by
 intro pins s σ H x y v u Q I rx ry h;obtain⟨hs,q⟩:=h;cases x with
 | cu=>
   cases rx;cases y with
   | cu=>cases ry;exact PySem.EqNone.ne_none_none (bH I q (by simp))
   | bl j=>cases ry;exact PySem.EqNone.ne_none_bool (bH I q (by simp))
   | int j=>obtain⟨t',rfl⟩:=ry;exact PySem.EqNone.ne_none_int (bH I q (by simp))
   | str j=>obtain⟨t',rfl⟩:=ry;exact PySem.EqNone.ne_none_str (bH I q (by simp))
   | _=>exact absurd (show false=true from hs) Bool.false_ne_true
 | bl i=>
   cases rx;cases y with
   | cu=>cases ry;exact PySem.EqNone.ne_bool_none (bH I q (by simp))
   | bl j=>cases ry;exact ne_bool (bH I q (congrArg not BO))
   | str j=>obtain⟨t',rfl⟩:=ry;exact PySem.EqMixed.ne_bool_str (bH I q (by simp))
   | _=>exact absurd (show false=true from hs) Bool.false_ne_true
 | int i=>
   obtain⟨t,rfl⟩:=rx;cases y with
   | cu=>cases ry;exact PySem.EqNone.ne_int_none (bH I q (by simp))
   | int j=>obtain⟨t',rfl⟩:=ry;exact ne_int (bH I q (congrArg not zJ))
   | str j=>obtain⟨t',rfl⟩:=ry;exact PySem.EqMixed.ne_int_str (bH I q (by simp))
   | _=>exact absurd (show false=true from hs) Bool.false_ne_true
 | str i=>
   obtain⟨t,rfl⟩:=rx;cases y with
   | cu=>cases ry;exact PySem.EqNone.ne_str_none (bH I q (by simp))
   | bl j=>cases ry;exact PySem.EqMixed.ne_str_bool (bH I q (by simp))
   | int j=>obtain⟨t',rfl⟩:=ry;exact PySem.EqMixed.ne_str_int (bH I q (by simp))
   | str j=>obtain⟨t',rfl⟩:=ry;exact ne_str (bH I q (congrArg not yS))
   | _=>exact absurd (show false=true from hs) Bool.false_ne_true
 | byt i=>
   obtain⟨t,rfl⟩:=rx;cases y with
   | byt j=>obtain⟨t',rfl⟩:=ry;exact PySem.W.ne_bytes (bH I q (congrArg not yN))
   | _=>exact absurd (show false=true from hs) Bool.false_ne_true
 | _=>cases y <;> exact absurd (show false=true from hs) Bool.false_ne_true
theorem LD:m3 X (compareOp .Lt) (Ef fun i j=> .bl (decide (i < j))):=Ew fun _ _ _ _ _ _ _ q=>lt_int q
theorem Mz:m3 X (compareOp .LtE) (Ef fun i j=> .bl (decide (i<=j))):=Ew fun _ _ _ _ _ _ _ q=>le_int q
theorem L7:m3 X (compareOp .Gt) (Ef fun i j=> .bl (decide (j < i))):=Ew fun _ _ _ _ _ _ _ q=>gt_int q
theorem Mc:m3 X (compareOp .GtE) (Ef fun i j=> .bl (decide (j<=i))):=Ew fun _ _ _ _ _ _ _ q=>ge_int q
theorem z_:m3 X (compareOp .In) (fun x y H Q=>∃i j,x= .str i/\y= .str j/\Q (.bl (!(Builtin.Str.occurrences j i 0 j.length 1).isEmpty)) H):=by
 intro pins s σ H x y v u Q I rx ry h;obtain⟨i,j,rfl,rfl,q⟩:=h;obtain⟨t,rfl⟩:=rx;obtain⟨t',rfl⟩:=ry;exact in_str (bH I q rfl)
theorem uD:m3 X (compareOp .NotIn) (fun x y H Q=>∃i j,x= .str i/\y= .str j/\Q (.bl (!(!(Builtin.Str.occurrences j i 0 j.length 1).isEmpty))) H):=by
 intro pins s σ H x y v u Q I rx ry h;obtain⟨i,j,rfl,rfl,q⟩:=h;obtain⟨t,rfl⟩:=rx;obtain⟨t',rfl⟩:=ry;exact notIn_str (bH I q rfl)
def isObj:HO->Bool
 | .lst _=>true
 | .ins _ _ _=>true
 | _=>false
theorem bR(b:Expr){op:CmpOp}(h:op≠ .In:=by decide)(h2:op≠ .NotIn:=by decide):behindInMarks op b=false:=by
 have e1:(op==CmpOp.In)=false:=by cases op <;> first | rfl | exact absurd rfl h
 have e2:(op==CmpOp.NotIn)=false:=by cases op <;> first | rfl | exact absurd rfl h2
 cases b <;> simp [behindInMarks,e1,e2]
theorem EH{op:CmpOp}{r:R2}(ho:m3 X (compareOp op) r)(ha:PE X a ta)(hb:PE X b tb)(hm:behindInMarks op b=false):PE X (.Compare a [op] [b] pos) (Km r ta tb):=by
 intro pins s σ H Q I h;exact wpAny_Compare1 (Ij ha hb I h fun v u s2 x y H2 I2 rx ry q=>ho pins s2 σ H2 x y v u Q I2 rx ry q) hm
def Mo(t:TE):TT:=fun σ H Q=>t σ H fun x H'=>∃k,x= .bl k/\Q k H'
theorem yI{op:CmpOp}{r:R2}(ho:m3 X (compareOp op) r)(ha:PE X a ta)(hb:PE X b tb)(hm:behindInMarks op b=false):PT X (.Compare a [op] [b] pos) (Mo (Km r ta tb)):=by
 intro pins s σ H Q I h;refine wpAny_isTrue_Compare1 (cU (ha pins s σ H _ I h) fun v s1 ⟨x,H1,I1,r1,q1⟩=>cU (hb pins s1 σ H1 _ I1 q1) fun u s2 ⟨y,H2,I2,r2,q2⟩=>
  cU (ho pins s2 σ H2 x y v u _ I2 r1 r2 q2) fun c s3 ⟨z,H3,I3,r3,k,e,q3⟩=>?_) hm
 subst e;cases r3;exact wpAny_truthy_bool ⟨H3,I3,q3⟩
def Dq(r r':R2)(ta tb tc:TE):TE:=fun σ H Q=>ta σ H fun x H1=>tb σ H1 fun y H2=>r x y H2 fun z H3=>∃k,z= .bl k/\
 (if k=true then tc σ H3 fun w' H4=>r' y w' H4 Q else Q (.bl false) H3)
theorem CT{op D2:CmpOp}{r r':R2}(ho:m3 X (compareOp op) r)(qy:m3 X (compareOp D2) r')(ha:PE X a ta)(hb:PE X b tb)(hc:PE X c tc)
 (hm:lastMarks [op,D2] [b,c]=false:=by with_unfolding_all rfl):PE X (.Compare a [op,D2] [b,c] pos) (Dq r r' ta tb tc):=by
 intro pins s σ H Q I h;refine Compare_chain (cU (ha pins s σ H _ I h) fun v s1 ⟨x,H1,I1,r1,q1⟩=>chain_link (cU (hb pins s1 σ H1 _ I1 q1) fun u s2 ⟨y,H2,I2,r2,q2⟩=>
  cU (ho pins s2 σ H2 x y v u _ I2 r1 r2 q2) fun d s3 ⟨z,H3,I3,r3,k,e,q3⟩=>?_)) hm
 subst e;cases r3;refine wpAny_truthy_bool ?_;cases k with
 | false=>exact ite_ff ⟨.bl false,H3,I3,rfl,q3⟩
 | true=>exact ite_tt (chain_last (cU (hc pins s3 σ H3 _ I3 q3) fun w' s4 ⟨z',H4,I4,r4,q4⟩=>qy pins s4 σ H4 y z' u w' Q I4 r2 r4 q4))
def IQ(K:W.Frag)(x:V)(H:Hp)(k:Bool):Prop:=
 match x with
 | .cu=>k=false
 | .bl b=>k=b
 | .int i=>k=(i !=0)
 | .str y=>y.length<=sizeLine/\k=((y.length:Int) !=0)
 | .byt y=>y.size<=sizeLine/\k=((y.size:Int) !=0)
 | .ref p=>(∃xs,nX K H p xs/\k=!xs.isEmpty)\/(∃xs,qp K H p xs/\k=!xs.isEmpty)\/∃aA,H p=some (.dK aA)/\k=!aA.isEmpty
 | _=>False
theorem yh{κ:Type}{aA:List (κ × V)}{vs:List (κ × Value)}(r:KV aA vs):(!vs.isEmpty)=!aA.isEmpty:=by
 cases r <;> rfl
theorem sE{xs:List V}{its:List Value}(r:Vals xs its):(!its.toArray.isEmpty)=!xs.isEmpty:=by
 cases r <;> simp
theorem p9:(sizeLine:Nat) < 2 ^ 63:=by rw[sizeLine_eq];decide
theorem JH:Ox X (fun x H Q=>∃k,IQ X.K x H k/\Q k H):=by
 intro pins s σ H x v Q I rx h;obtain⟨k,e,q⟩:=h;have hl:=p9;have hs:sizeLine=16777216:=sizeLine_eq;cases x with
 | cu=>
   cases rx;have e':k=false:=e;subst e';exact truthy_none ⟨H,I,q⟩
 | bl b=>
   cases rx;have e':k=b:=e;subst e';exact wpAny_truthy_bool ⟨H,I,q⟩
 | int i=>
   obtain⟨t,rfl⟩:=rx;have e':k=(i !=0):=e;subst e';exact PySem.P.truthy_int ⟨H,I,q⟩
 | str y=>
   obtain⟨t,rfl⟩:=rx;obtain⟨hy,e'⟩:y.length<=sizeLine/\k=((y.length:Int) !=0):=e;subst e';exact PySem.P.truthy_str (by omega) ⟨H,I.tok _,q⟩
 | byt y=>
   obtain⟨t,rfl⟩:=rx;obtain⟨hy,e'⟩:y.size<=sizeLine/\k=((y.size:Int) !=0):=e;subst e';exact PySem.W.truthy_bytes (by omega) ⟨H,I.tok _,q⟩
 | ref p=>
   cases rx;have e':(∃xs,nX X.K H p xs/\k=!xs.isEmpty)\/(∃xs,qp X.K H p xs/\k=!xs.isEmpty)\/∃aA,H p=some (.dK aA)/\k=!aA.isEmpty:=e;rcases e' with⟨xs,hx,e'⟩ | ⟨xs,hx,e'⟩ | ⟨aA,hx,e'⟩
   .subst e';obtain⟨its,r,pl,hz⟩:=I.list hx;have hlen:=r.length;exact wpAny_truthy_list pl.isList (by simp only[List.size_toArray];omega) ⟨H,I.tok _,by rw[sE r];exact q⟩
   .subst e';obtain⟨its,r,pl,hz⟩:=I.tuple hx;have hlen:=r.length;exact truthy_tuple pl (by simp only[List.size_toArray];omega) ⟨H,I.tok _,by rw[sE r];exact q⟩
   .subst e';obtain⟨hz,hS,vs,r,m⟩:aA.length<=sizeLine/\(p==sysModules)=false/\∃vs,KV aA vs/\s.heap.DictOf (dE X.prog X.w) p vs:=I.hok p _ hx;have hlen:aA.length=vs.length:=Paired.length r;exact wpAny_truthy_dict hS m (by omega) ⟨H,I.tok _,by rw[yh r];exact q⟩
 | _=>exact(show False from e).elim
theorem wZ(ha:PE X a ta)(he:∀whole,isTrue a X.env whole=(do let v <-whole;standAt a.pos;holding [v] (truthy v))) :
 PT X a (fun σ H Q=>ta σ H fun x H'=>∃k,IQ X.K x H' k/\Q k H'):=by
 intro pins s σ H Q I h;exact isTrue_plain (cU (ha pins s σ H _ I h) fun v s1 ⟨x,H1,I1,r1,q1⟩=>JH pins s1 σ H1 x v Q I1 r1 q1) (he _)
theorem xN:m3 X (binaryOp .Add) (fun x y H Q=>∃i j,x= .str i/\y= .str j/\i.length+j.length<=sizeLine/\Q (.str (i++j)) H):=by
 intro pins s σ H x y v u Q I rx ry h;obtain⟨i,j,rfl,rfl,hz,q⟩:=h;obtain⟨t,rfl⟩:=rx;obtain⟨t',rfl⟩:=ry;exact add_str (fun t' tk=>⟨.str (i++j),H,I.tok _,⟨_,rfl⟩,q⟩) hz
def K1(b:Expr):Prop:=∀o i,subscripted b false o i=operate [o,i] (getItem o i)
theorem vals1{x:V}{us:List Value}(r:Vals [x] us):∃u,us=[u]/\RelV x u:=by
 cases r with
 | cons r1 r2=>cases r2;exact⟨_,rfl,r1⟩
theorem vals2{x y:V}{us:List Value}(r:Vals [x,y] us):∃u w',us=[u,w']/\RelV x u/\RelV y w':=by
 cases r with
 | cons r1 r2=>
   cases r2 with
   | cons r3 r4=>cases r4;exact⟨_,_,rfl,r1,r3⟩
theorem Ay:jS X (.type "int") (fun xs H Q=>(∃i,xs=[.int i]/\Q (.int i) H)\/∃k,xs=[.bl k]/\Q (.int (if k then 1 else 0)) H):=by
 intro pins s σ H xs us Q I r h;rcases h with⟨i,rfl,q⟩ | ⟨k,rfl,q⟩
 .obtain⟨u,rfl,t,rfl⟩:=vals1 r;exact call_int_int ⟨.int i,H,I,⟨_,rfl⟩,q⟩
 .obtain⟨u,rfl,r1⟩:=vals1 r;cases r1;exact call_int_bool ⟨.int (if k then 1 else 0),H,I.tok _,⟨_,rfl⟩,q⟩
def Nt(K:W.Frag)(x:V)(H:Hp)(n:Nat):Prop:=
 match x with
 | .str y=>y.length<=sizeLine/\n=y.length
 | .byt y=>y.size<=sizeLine/\n=y.size
 | .ref p=>(∃xs,nX K H p xs/\n=xs.length)\/∃xs,qp K H p xs/\n=xs.length
 | _=>False
theorem Dn:jS X (.builtin "len") (fun xs H Q=>∃x n,xs=[x]/\Nt X.K x H n/\Q (.int n) H):=by
 intro pins s σ H xs us Q I r h;obtain⟨x,n,rfl,e,q⟩:=h;obtain⟨u,rfl,rx⟩:=vals1 r;have hl:=p9;have hs:sizeLine=16777216:=sizeLine_eq;cases x with
 | str y=>
   obtain⟨t,rfl⟩:=rx;obtain⟨hy,e'⟩:y.length<=sizeLine/\n=y.length:=e;subst e';exact len_str (by omega) ⟨.int _,H,I.tok _,⟨_,rfl⟩,q⟩
 | byt y=>
   obtain⟨t,rfl⟩:=rx;obtain⟨hy,e'⟩:y.size<=sizeLine/\n=y.size:=e;subst e';exact PySem.W.len_bytes (by omega) ⟨.int _,H,I.tok _,⟨_,rfl⟩,q⟩
 | ref p=>
   cases rx;have e':(∃xs,nX X.K H p xs/\n=xs.length)\/∃xs,qp X.K H p xs/\n=xs.length:=e;rcases e' with⟨xs,hx,e'⟩ | ⟨xs,hx,e'⟩
   .subst e';obtain⟨its,r',pl,hz⟩:=I.list hx;have hlen:=r'.length;exact Calls.call_len_list pl.isList (by simp only[List.size_toArray];omega) ⟨.int xs.length,H,I.tok _,⟨_,by simp only[List.size_toArray];rw [hlen]⟩,q⟩
   .subst e';obtain⟨its,r',pl,hz⟩:=I.tuple hx;have hlen:=r'.length;exact len_tuple pl (by simp only[List.size_toArray];omega) ⟨.int xs.length,H,I.tok _,⟨_,by simp only[List.size_toArray];rw [hlen]⟩,q⟩
 | _=>exact(show False from e).elim
end
structure yt (h:Heap) (x dx C:Addr) (mA:Yd):Prop where
 obj:h.get? x=some (PySem.W.instObj C dx)
 ns:h.Ns1 dx mA
 ne:dx≠x
theorem Aj{h:Heap}{dx:Addr}{mA:Yd}(n:h.Ns1 dx mA):∃od,h.get? dx=some od/\∀name,PySem.W.lookIn name od=some (mA name):=by
 obtain⟨o,es,ep,ho,hd,hk,_,hm⟩:=n;refine⟨o,ho,fun name=>?_⟩
 have e:=hm name;unfold nsFind findBy at e;rw[<-Array.find?_toList] at e;unfold PySem.W.lookIn;rw[hd];dsimp only;split
 .rename_i y q;rw[q] at e;exact congrArg some e
 .rename_i q;rw[q] at e;have a:es.toList.any (·.refKey)=false:=by
   rw[List.any_eq_false];intro y hy;obtain⟨z,t,hkey⟩:=hk y (Array.mem_toList_iff.mp hy);simp [DictEntry.refKey,hkey]
  have a':¬es.toList.any (·.refKey)=true:=by rw[a];exact Bool.false_ne_true
  rw[if_neg a'];exact congrArg some e
theorem yt.look{x dx C:Addr}{mA:Yd}(I:yt h x dx C mA):∃od,PySem.W.InstAt h x (PySem.W.instObj C dx) C (some od)/\∀name,PySem.W.lookIn name od=some (mA name):=
 let⟨od,ho,hl⟩:=Aj I.ns
 ⟨od,⟨I.obj,rfl,rfl,ho⟩,hl⟩
section
variable {prog:Program} {w:World} {A:Around} {E:X_} {s:Shared} {K:W.Frag} {x dx C f:Addr} {mA:Yd} {name:Str} {v:Value}
theorem get_map{expr:Bool}{Q:X_}(X:K.In s.heap)(I:yt s.heap x dx C mA)(hg:PySem.W.plainGet K C name=true)(hh:PySem.W.hasDictIn K C=true)
 (ha:PySem.W.findIn K (.ref C) name=some none) (hv:mA name=some v) (Wk:PySem.W.handedIn v=true) (h:Q v {s with toks:=s.toks+1}) :
 wpAny (model prog w) A (getAttr (.ref x) name expr) Q E s:=by
 obtain⟨od,J,hl⟩:=I.look;exact PySem.W.get_value X J (PySem.W.plainGet_of hg).1 (PySem.W.findObj_own hh ha rfl (by rw[hl,hv])) Wk h
theorem CZ{pl:Sem Bool}{Q:Value × List Value->Shared->Prop}(X:K.In s.heap)(I:yt s.heap x dx C mA)(hg:PySem.W.plainGet K C name=true)
 (hf:PySem.W.findIn K (.ref C) name=some (some (.ref f))) (ht:PySem.W.isFn K (.ref f)=true) (hv:mA name=none) (h:Q (.ref f,[.ref x]) s) :
 wpAny (model prog w) A (getMethod (.ref x) name pl) Q E s:=by
 obtain⟨od,J,hl⟩:=I.look;exact PySem.W.method_fn X J (PySem.W.plainGet_of hg).1 (PySem.W.plainGet_of hg).2 hf (beq_iff_eq.mp ht) (by show(PySem.W.lookIn name od).map (·.isSome)=some false;rw [hl,hv];rfl) h
theorem FP{ns:List Str}{Q:Unit->Shared->Prop}(X:K.In s.heap)(I:yt s.heap x dx C mA)
 (hs:PySem.W.findIn K (.ref C) "__setattr__"=some (some (.builtin "object.__setattr__"))) (hp:PySem.W.plainOver K C=true) (ht:PySem.W.takerIn K C name=some none) (hh:PySem.W.hasDictIn K C=true)
 (hw:PySem.Within mA ns) (hsz:ns.length<=sizeLine)
 (h:∀h',yt h' x dx C (fun y=>if y=name then some v else mA y)->Heap.SameBut dx s.heap h'->Q () {s with heap:=h',toks:=s.toks+2}) :
 wpAny (model prog w) A (setAttr (.ref x) name v) Q E s:=by
 obtain⟨od,J,hl⟩:=I.look;refine PySem.W.set_plain X J hs (PySem.W.osa_open (s:={s with toks:=s.toks+1}) (r:=none) X J hp ht fun b=>?_)
 obtain⟨cd,hc,Ql⟩:=PySem.W.any_some hh;have hx:s.heap.get? x=some ⟨.ref C,some dx, .plain,#[]⟩:=I.obj;refine wpAny_bind (wpAny_pure (wpAny_bind (wpAny_bind (wpAny_loadPart hx (wpAny_bind (PySem.W.Looks.here (s:={s with toks:=s.toks+1}) (PySem.W.looks_clsIn X hc) ?_))))))
 rw[Ql];refine wpAny_pure (a:=some dx) (wpAny_bind (wpAny_pure (wpAny_bind ?_)));refine wpAny_nsSet1 (s:={s with toks:=s.toks+1}) I.ns fun h' J3 Nn=>?_
 obtain⟨oD,esD,epD,hoD,hdD,hcD⟩:=J3.count (PySem.Within.cons name v hw);refine wpAny_bind (wpAny_lookBehind hoD (by rw[hdD];exact pastItsLine_dict (Nat.le_trans hcD (by rw[List.length_cons];omega))) ?_)
 exact wpAny_pure (h _ ⟨(Nn.2 _ (Ne.symm I.ne)).trans I.obj,J3,I.ne⟩ Nn)
theorem BN{R:Result->Shared->Prop}{vs:List Value}{kw:List (Str × Value)}(X:K.In s.heap)(hm:PySem.W.makesIn K C=true)
 (hi:PySem.W.findIn K (.ref C) "__init__"=some (some (.ref f))) (hf:PySem.W.typeIn K (.ref f)=some (.type "function"))
 (h:codeAny (model prog w) (A.under (.builtin "type.__call__" ⟨.ref C ::vs,kw⟩)) (.call (.ref f) ⟨.ref (s.heap.objs.size+1) ::vs,kw⟩) (PySem.W.InitBack (s.heap.objs.size+1) R)
   {s with heap:=(s.heap.push PySem.W.emptyDict).push (PySem.W.instObj C s.heap.objs.size)}) :
 codeAny (model prog w) A (.call (.ref C) ⟨vs,kw⟩) R s:=by
 obtain⟨hh,g,d,t,os⟩:=s;exact PySem.W.make_core (PySem.W.makes_of X hm) (PySem.W.looks_findIn X hi) (fun self=>PySem.W.bind_fn X self hf) (.inl rfl) h
end
def kL(f:Str)(v:V):List (Str × V)->List (Str × V)
 | []=>[(f,v)]
 | (g,x) ::r=>if g=f then(g,v) ::r else(g,x) ::kL f v r
theorem qE(f g:Str)(v:V):∀fs:List (Str × V),(kL f v fs).lookup g=if g=f then some v else fs.lookup g
 | []=>by
   show List.lookup g [(f,v)]=_;by_cases h:g=f
   .have hb:(g==f)=true:=beq_iff_eq.mpr h;simp only[List.lookup,hb,if_pos h]
   .have hb:(g==f)=false:=beq_eq_false_iff_ne.mpr h;simp only[List.lookup,hb,if_neg h]
 | (k,x) ::r=>by
   have ih:=qE f g v r;rw[show kL f v ((k,x) ::r)=(if k=f then(k,v) ::r else(k,x) ::kL f v r) from rfl]
   by_cases hk:k=f
   .rw [if_pos hk];by_cases h:g=k
    .have hb:(g==k)=true:=beq_iff_eq.mpr h;simp only[List.lookup,hb,if_pos (h.trans hk)]
    .have hb:(g==k)=false:=beq_eq_false_iff_ne.mpr h;simp only[List.lookup,hb,if_neg (fun e:g=f=>h (e.trans hk.symm))]
   .rw [if_neg hk];by_cases h:g=k
    .have hb:(g==k)=true:=beq_iff_eq.mpr h;simp only[List.lookup,hb,if_neg (fun e:g=f=>hk (h.symm.trans e))]
    .have hb:(g==k)=false:=beq_eq_false_iff_ne.mpr h;simp only[List.lookup,hb];exact ih
theorem qj(f:Str)(v:V):∀fs:List (Str × V),f∈(kL f v fs).map (·.1)/\∀g,g∈fs.map (·.1)->g∈(kL f v fs).map (·.1)
 | []=>⟨by simp [kL],fun g h=>by simp at h⟩
 | (k,x) ::r=>by
   obtain⟨i1,i2⟩:=qj f v r;rw[show kL f v ((k,x) ::r)=(if k=f then(k,v) ::r else(k,x) ::kL f v r) from rfl]
   by_cases hk:k=f
   .rw [if_pos hk];subst hk;exact⟨by simp,fun g h=>by simpa using h⟩
   .rw [if_neg hk];refine⟨?_,fun g h=>?_⟩
    .rw [List.map_cons];exact List.mem_cons_of_mem _ i1
    .rw [List.map_cons] at h ⊢;rcases List.mem_cons.mp h with e | e
     .exact List.mem_cons.mpr (.inl e)
     .exact List.mem_cons_of_mem _ (i2 g e)
theorem qC(f:Str)(v:V):∀fs:List (Str × V),(kL f v fs).length<=fs.length+1
 | []=>by simp [kL]
 | (k,x) ::r=>by
   have ih:=qC f v r;rw[show kL f v ((k,x) ::r)=(if k=f then(k,v) ::r else(k,x) ::kL f v r) from rfl]
   by_cases hk:k=f
   .rw [if_pos hk,List.length_cons,List.length_cons];omega
   .rw [if_neg hk,List.length_cons,List.length_cons];omega
theorem m4.some_of{v:V}{o:Option Value}(r:m4 (some v) o):∃u,o=some u/\RelV v u:=by
 cases o with
 | none=>exact(show False from r).elim
 | some u=>exact⟨u,rfl,r⟩
theorem m4.none_of{o:Option Value}(r:m4 none o):o=none:=by
 cases o with
 | none=>rfl
 | some u=>exact(show False from r).elim
theorem AA{v:V}{u:Value}(r:RelV v u):PySem.W.handedIn u=true:=by
 cases v with
 | cu=>cases(show u=Value.none from r);rfl
 | bl b=>cases(show u=Value.bool b from r);rfl
 | int i=>obtain⟨t,e⟩:=(show ∃t,u=Value.int i t from r);cases e;rfl
 | str x=>obtain⟨t,e⟩:=(show ∃t,u=Value.str x t from r);cases e;rfl
 | byt b=>obtain⟨t,e⟩:=(show ∃t,u=Value.bytes b t from r);cases e;rfl
 | flt b=>obtain⟨t,e⟩:=(show ∃t,u=Value.float b t from r);cases e;rfl
 | ref a=>cases(show u=Value.ref a from r);rfl
 | ty n=>cases(show u=Value.type n from r);rfl
section
variable {P:Program} {w:World} {H H':Hp} {h h':Heap} {a C dx:Addr} {fs KA:List (Str × V)}
theorem rj(hok:mO P w H h)(e:H a=some (.ins C dx fs)):∃mA,yt h a dx C mA/\(∀f,m4 (fs.lookup f) (mA f))/\PySem.Within mA (fs.map (·.1))/\fs.length<=1000/\H dx=some (.own a):=by
 obtain⟨d,z,ne,ob,mA,n,r,q⟩:=(show cR P w H h a (.ins C dx fs) from hok a _ e)
 exact⟨mA,⟨ob,n,ne⟩,r,q,z,d⟩
end
structure w9 (K:W.Frag) (C:Addr):Prop where
 pg:PySem.W.plainGet K C Str.empty=true
 hd:PySem.W.hasDictIn K C=true
 po:PySem.W.plainOver K C=true
 sa:PySem.W.findIn K (.ref C) "__setattr__"=some (some (.builtin "object.__setattr__"))
theorem w9.get{K:W.Frag}{C:Addr}(c:w9 K C)(f:Str):PySem.W.plainGet K C f=true:=c.pg
def cX(K:W.Frag)(C:Addr)(f:Str):Prop:=PySem.W.findIn K (.ref C) f=some none
theorem cX.Lp{K:W.Frag}{C:Addr}(n:cX K C f):PySem.W.takerIn K C f=some none:=by
 unfold PySem.W.takerIn;rw[show PySem.W.findIn K (.ref C) f=some none from n]
 rfl
structure UH (K:W.Frag) (C:Addr) (f:Str) (v:V) (u:Value):Prop where
 at_:PySem.W.findIn K (.ref C) f=some (some u)
 rel:RelV v u
 get:PySem.W.specialIn K u "__get__"=some none
 cp:PySem.W.copiedNames.contains f=false
structure Meth (K:W.Frag) (C:Addr) (m:Str) (f:Addr):Prop where
 at_:PySem.W.findIn K (.ref C) m=some (some (.ref f))
 fn:PySem.W.isFn K (.ref f)=true
 kp:PySem.W.keepIn K (.ref f)=true
section
variable {X:Cx} {pins:X9} {σ:St} {H:Hp} {s:Shared} {a C dx:Addr} {fs:List (Str × V)} {f:Str} {v:V} {A:Around} {E:X_}
theorem xW{b:Bool}{Q:X_}(I:Inv X pins σ H s)(e:H a=some (.ins C dx fs))(c:w9 X.K C)(n:cX X.K C f)(l:fs.lookup f=some v)
 (h:∀u s',Inv X pins σ H s'->RelV v u->Q u s'):wpAny (model X.prog X.w) A (getAttr (.ref a) f b) Q E s:=by
 obtain⟨mA,O,r,_,_,_⟩:=rj I.hok e;obtain⟨u,hu,ru⟩:=m4.some_of (v:=v) (o:=mA f) (by rw[<-l];exact r f)
 exact get_map I.nZ O (c.get f) c.hd n hu (AA ru) (h u _ (I.tok _) ru)
theorem xK{m:Str}{g:Addr}{pl:Sem Bool}{Q:Value × List Value->Shared->Prop}(I:Inv X pins σ H s)(e:H a=some (.ins C dx fs))(c:w9 X.K C)(k:Meth X.K C m g)(l:fs.lookup m=none)
 (h:Q (.ref g,[.ref a]) s):wpAny (model X.prog X.w) A (getMethod (.ref a) m pl) Q E s:=by
 obtain⟨mA,O,r,_,_,_⟩:=rj I.hok e;have hn:mA m=none:=m4.none_of (by rw[<-l];exact r m)
 exact CZ I.nZ O (c.get m) k.at_ k.fn hn h
theorem xB{y:V}{u:Value}{Q:Unit->Shared->Prop}(I:Inv X pins σ H s)(e:H a=some (.ins C dx fs))(c:w9 X.K C)(n:cX X.K C f)(hl:fs.length < 1000)(ry:RelV y u)
 (h:∀s',Inv X pins σ (upd H a (.ins C dx (kL f y fs))) s'->Q () s'):wpAny (model X.prog X.w) A (setAttr (.ref a) f u) Q E s:=by
 obtain⟨mA,O,r,wi,_,ho⟩:=rj I.hok e;have hz:(fs.map (·.1)).length<=sizeLine:=by rw[List.length_map,sizeLine_eq];omega
 refine FP I.nZ O c.sa c.po n.Lp c.hd wi hz fun h' O' sb=>h _ ?_
 have hd:∃o,h'.get? dx=some o:=let⟨o,_,_,e',_⟩:=O'.ns;⟨o,e'⟩
 refine I.write (x:=a) (e:=dx) (by rw[e];exact True.intro) (.inr ho) (fun b q hb z=>(sb.2 b hb).trans z) hd ?_
 refine⟨by rw[aW O.ne];exact ho,?_,O.ne,O'.obj,_,O'.ns,fun g=>?_,fun g hg=>?_⟩
 .have:=qC f y fs;omega
 .show m4 ((kL f y fs).lookup g) (if g=f then some u else mA g)
  rw[qE];by_cases q:g=f
  .rw [if_pos q,if_pos q];exact ry
  .rw [if_neg q,if_neg q];exact r g
 .by_cases q:g=f
  .rw [q];exact(qj f y fs).1
  .refine(qj f y fs).2 g (wi g fun z=>hg ?_)
   show(if g=f then some u else mA g)=none
   rw[if_neg q];exact z
theorem Inv.made(I:Inv X pins σ H s):Inv X pins σ (upd (upd H s.heap.objs.size (.own (s.heap.objs.size+1))) (s.heap.objs.size+1) (.ins C s.heap.objs.size []))
 {s with heap:=(s.heap.push PySem.W.emptyDict).push (PySem.W.instObj C s.heap.objs.size)}:=by
 have e1:(s.heap.push PySem.W.emptyDict).get? s.heap.objs.size=some PySem.W.emptyDict:=Heap.get?_push_size s.heap rfl;have e2:((s.heap.push PySem.W.emptyDict).push (PySem.W.instObj C s.heap.objs.size)).get? (s.heap.objs.size+1)=some (PySem.W.instObj C s.heap.objs.size):=by
  have:=Heap.get?_push_size (s.heap.push PySem.W.emptyDict) (o:=PySem.W.instObj C s.heap.objs.size) rfl
  rwa [Heap.size_push] at this
 have e3:(s.heap.push PySem.W.emptyDict).Ns s.heap.objs.size (fun _=>none):=⟨PySem.W.emptyDict,#[],_,e1,rfl,(fun e he=>absurd he (by simp)),fun _=>rfl⟩
 have I1:=I.laid (a:=s.heap.objs.size) (o:= .own (s.heap.objs.size+1)) (h':=s.heap.push PySem.W.emptyDict) (t':=s.toks) (fun b u q=>Heap.get?_push_of_some _ q) (Nat.le_refl _) ⟨_,e1⟩
 refine I1.laid (a:=s.heap.objs.size+1) (o:= .ins C s.heap.objs.size []) (t':=s.toks) (fun b u q=>Heap.get?_push_of_some _ q) (Nat.le_of_eq (Heap.size_push _ _)) ?_
 have ne:s.heap.objs.size≠s.heap.objs.size+1:=Nat.ne_of_lt (Nat.lt_succ_self _);refine⟨by rw[aW ne,a_],Nat.zero_le _,ne,e2,fun _=>none,(Heap.Ns1.of_empty e3).at fun o q=>Heap.get?_push_of_some _ q,fun _=>True.intro,fun y hy=>absurd rfl hy⟩
theorem EW{prog:Program}{w:World}{env:Env}{e:Expr}{f:Str}{pos:Pos}{s:Shared}{Q:X_}(hb:attributeBase e f env (eval e env)=eval e env)
 (h:wpAny (model prog w) A (eval e env) (fun o s₁=>wpAny (model prog w) A (getAttr o f true) Q E s₁) E s):wpAny (model prog w) A (eval (.Attribute e f pos) env) Q E s:=
 Attribute_any_ h (by rw[arm_eval_Attribute,hb])
end
def Og(K:W.Frag)(ta:TE)(f:Str):TE:=fun σ H Q=>ta σ H fun x H1=>∃a C dx fs v,x= .ref a/\H1 a=some (.ins C dx fs)/\w9 K C/\cX K C f/\fs.lookup f=some v/\Q v H1
def U0(K:W.Frag)(ta:TE)(f:Str):TE:=fun σ H Q=>ta σ H fun x H1=>∃a C dx fs v u,x= .ref a/\H1 a=some (.ins C dx fs)/\w9 K C/\UH K C f v u/\fs.lookup f=none/\Q v H1
def OF(K:W.Frag)(ta tv:TE)(f:Str):TS:=fun D σ H=>tv σ H fun y H1=>ta σ H1 fun x H2=>∃a C dx fs,x= .ref a/\H2 a=some (.ins C dx fs)/\w9 K C/\cX K C f/\fs.length < 1000/\
 D.nx σ (upd H2 a (.ins C dx (kL f y fs)))
def U8(X:Cx)(op:Operator)(rd:V->V->Hp->VK->Prop):Prop:=
 ∀(pins:X9) (s:Shared) (σ:St) (H:Hp) (x y:V) (u v:Value) (Q:VK),Inv X pins σ H s->RelV x u->RelV y v->rd x y H Q->wpAny (model X.prog X.w) X.A (inplaceOp op u v) (EP X pins σ Q) X.xe s
def M3(K:W.Frag)(ta tv:TE)(rd:V->V->Hp->VK->Prop)(f:Str):TS:=fun D σ H=>ta σ H fun x H1=>∃a C dx fs v,x= .ref a/\H1 a=some (.ins C dx fs)/\w9 K C/\cX K C f/\fs.lookup f=some v/\
 tv σ H1 fun y H2=>rd v y H2 fun z H3=>∃dx' KA,H3 a=some (.ins C dx' KA)/\KA.length < 1000/\D.nx σ (upd H3 a (.ins C dx' (kL f z KA)))
section
variable {X:Cx} {o e value:Expr} {f:Str} {pos pos' QR:Pos} {ta tv:TE}
theorem JD(he:PE X e ta)(hb:attributeBase e f X.env (eval e X.env)=eval e X.env):PE X (.Attribute e f pos) (Og X.K ta f):=by
 intro pins s σ H Q I h;refine EW hb (cU (he pins s σ H _ I h) fun u s1 ⟨x,H1,I1,rx,a,C,dx,fs,v,ex,ea,c,n,l,q⟩=>?_)
 subst ex;obtain rfl:u=Value.ref a:=rx;exact xW I1 ea c n l fun u' s2 I2 ru=>⟨v,H1,I2,ru,q⟩
theorem HU(ha:PE X o ta)(hv:PE X value tv)(hs:swapsWith value (some (.Attribute o f pos')) pos.line X.env=pure false):PS X (.Assign [.Attribute o f pos'] value pos) (OF X.K ta tv f):=by
 intro pins s σ H D I h;refine plainObj_wpAny_Assign_Attribute (cU (hv pins s σ H _ I h) fun u s1 ⟨y,H1,I1,ry,q⟩=>cU (ha pins s1 σ H1 _ I1 q) fun ov s2 ⟨x,H2,I2,rx,a,C,dx,fs,ex,ea,c,n,l,q2⟩=>?_) hs
 subst ex;obtain rfl:ov=Value.ref a:=rx;exact xB I2 ea c n l ry fun s3 I3=>⟨σ,_,I3,q2⟩
def Tv:V->V->Hp->VK->Prop:=fun x y H Q=>∃i j,x= .int i/\y= .int j/\Q (.int (i+j)) H
def Tg:V->V->Hp->VK->Prop:=fun x y H Q=>∃i j,x= .int i/\y= .int j/\Q (.int (i - j)) H
end
section
variable {X:Cx} {pins:X9} {σ:St} {H:Hp} {s:Shared} {A:Around} {E:X_} {Q:X_} {c:Value} {b:Bool}
inductive qR (K:W.Frag) (H:Hp):V->Value->Prop where
 | cu:qR K H .cu (.type "NoneType")
 | bl (x:Bool):qR K H (.bl x) (.type "bool")
 | int (i:Int):qR K H (.int i) (.type "int")
 | str (x:Str):qR K H (.str x) (.type "str")
 | flt (x:UInt64):qR K H (.flt x) (.type "float")
 | lst {a:Addr} {xs:List V} (e:H a=some (.lst xs)):qR K H (.ref a) (.type "list")
 | pO {a:Addr} {o:Obj} {xs:List V} (e:H a=some (.pO o (.lst xs))):qR K H (.ref a) (.type "list")
 | tup {a:Addr} {xs:List V} (e:H a=some (.tup xs)):qR K H (.ref a) (.type "tuple")
 | dK {a:Addr} {aA:List (Key × V)} (e:H a=some (.dK aA)):qR K H (.ref a) (.type "dict")
 | dT {a:Addr} {aA:List (List Key × V)} (e:H a=some (.dT aA)):qR K H (.ref a) (.type "dict")
 | ins {a C dx:Addr} {fs:List (Str × V)} (e:H a=some (.ins C dx fs)) (cl:w9 K C) (ha:PySem.W.findIn K (.ref C) "__class__"=some (some (.builtin "object.__class__")))
    (hn:PySem.W.specialIn K (.builtin "object.__class__") "__get__"=some (some (.builtin "getset_descriptor.__get__"))) (S5:PySem.W.takesIn K (.builtin "object.__class__")=some true)
    (hm:PySem.W.mroIn K C (.type "object")=some true):qR K H (.ref a) (.ref C)
theorem nM{x:V}{u t:Value}(I:Inv X pins σ H s)(rx:RelV x u)(ty:qR X.K H x t)(e:PySem.W.kitOne X.K t c=some b)(h:∀tk,Q (.bool b) {s with toks:=tk}) :
 wpAny (model X.prog X.w) A (call (.builtin "isinstance") [u,c]) Q E s:=by
 cases ty with
 | cu=>cases(show u=Value.none from rx);exact PySem.W.kia_one PySem.W.kitx_none I.nZ True.intro e (fun z=>nomatch z) h
 | bl y=>cases(show u=Value.bool y from rx);exact PySem.W.kia_one PySem.W.kitx_bool I.nZ True.intro e (fun z=>nomatch z) h
 | int i=>obtain⟨t,q⟩:=(show ∃t,u=Value.int i t from rx);cases q;exact PySem.W.kia_one PySem.W.kitx_int I.nZ True.intro e (fun z=>nomatch z) h
 | str y=>obtain⟨t,q⟩:=(show ∃t,u=Value.str y t from rx);cases q;exact PySem.W.kia_one PySem.W.kitx_str I.nZ True.intro e (fun z=>nomatch z) h
 | flt y=>obtain⟨t,q⟩:=(show ∃t,u=Value.float y t from rx);cases q;exact PySem.W.kia_one PySem.W.kitx_float I.nZ True.intro e (fun z=>nomatch z) h
 | @lst a xs ea=>
   cases(show u=Value.ref a from rx)
   obtain⟨_,_,n,_,h1⟩:=(show cR X.prog X.w H s.heap a (.lst xs) from I.hok a _ ea)
   exact PySem.W.kia_one PySem.W.kitx_list I.nZ ⟨_,h1,rfl⟩ e (fun z=>nomatch z) h
 | @pO a ob xs ea=>
   cases(show u=Value.ref a from rx)
   obtain⟨_,_,_,n,_,h1⟩:=(show cR X.prog X.w H s.heap a (.pO ob (.lst xs)) from I.hok a _ ea)
   exact PySem.W.kia_one PySem.W.kitx_list I.nZ ⟨_,h1,rfl⟩ e (fun z=>nomatch z) h
 | @tup a xs ea=>
   cases(show u=Value.ref a from rx)
   obtain⟨_,_,_,p⟩:=(show cR X.prog X.w H s.heap a (.tup xs) from I.hok a _ ea)
   obtain⟨o,h1,h2,_⟩:=p;exact PySem.W.kia_one PySem.W.kitx_tuple I.nZ ⟨o,h1,h2⟩ e (fun z=>nomatch z) h
 | @dK a aA ea=>
   cases(show u=Value.ref a from rx)
   obtain⟨_,_,vs,_,p⟩:=(show cR X.prog X.w H s.heap a (.dK aA) from I.hok a _ ea)
   obtain⟨o,es,ep,h1,h2,_⟩:=p;exact PySem.W.kia_one PySem.W.kitx_dict I.nZ ⟨o,h1,h2.1⟩ e (fun z=>nomatch z) h
 | @dT a aA ea=>
   cases(show u=Value.ref a from rx)
   obtain⟨_,_,xs,_,o,es,ep,h1,h2,_⟩:=(show cR X.prog X.w H s.heap a (.dT aA) from I.hok a _ ea)
   exact PySem.W.kia_one PySem.W.kitx_dict I.nZ ⟨o,h1,h2.1⟩ e (fun z=>nomatch z) h
 | @ins a C dx fs ea cl ha hn S5 hm=>
   cases(show u=Value.ref a from rx)
   obtain⟨mA,O,_⟩:=rj I.hok ea;obtain⟨od,J,_⟩:=O.look;exact PySem.W.kia_one (PySem.W.kitx_own (cl.get _) cl.hd ha hn S5 hm) I.nZ J e (fun z=>nomatch z) h
end
structure dw (k:Nat) (A:Around):Prop where
 hd:A.handled=none
 dp:A.depth+3*k+5 < recursionLimit
 un:A.units+16*k+200 < cLine
theorem dw.mono{j k:Nat}(r:dw k A)(h:j<=k):dw j A:=⟨r.hd,by have:=r.dp;omega,by have:=r.un;omega⟩
theorem dw.deeper{k:Nat}{A:Around}(r:dw (k+1) A)(env:Env):dw k (A.deeper env):=
 ⟨r.hd,by have:=r.dp;show A.depth+1+3*k+5 < _;omega,by have:=r.un;show A.units+3+16*k+200 < _;omega⟩
theorem xx{A:Around}{C:Addr}{us:List Value}{kw:List (Str × Value)}:(A.under (.builtin "type.__call__" ⟨.ref C ::us,kw⟩)).depth=A.depth+1:=by
 first | rfl | simp [Around.under,Code.weight,Code.isCreation,Code.isGuard,Code.isCaller,Code.frames,Code.isFrame,guardIds]
theorem xR{A:Around}{C:Addr}{us:List Value}{kw:List (Str × Value)}:(A.under (.builtin "type.__call__" ⟨.ref C ::us,kw⟩)).units=A.units+1:=by
 first | rfl | simp [Around.under,Code.cUnits,Code.frames,Code.isFrame]
theorem dw.make{k:Nat}{A:Around}(r:dw (k+1) A)(C:Addr)(us:List Value)(kw:List (Str × Value)):dw k (A.under (.builtin "type.__call__" ⟨.ref C ::us,kw⟩)):=
 ⟨r.hd,by have:=r.dp;rw [xx];omega,by have:=r.un;rw [xR];omega⟩
theorem dw.depth{k:Nat}{A:Around}(r:dw k A):A.depth < recursionLimit:=by have:=r.dp;omega
theorem dw.units{k:Nat}{A:Around}(r:dw k A):A.units+64 < cLine:=by have:=r.un;omega
def Ml:TA:=fun _ H Q=>Q [] H
def Ln(ta:TE)(tr:TA):TA:=fun σ H Q=>ta σ H fun x H1=>tr σ H1 fun xs H2=>Q (x ::xs) H2
section
variable {X:Cx} {e:Expr} {es:List Expr} {te:TE} {t:TA} {pos:Pos}
theorem lW:PA X [] Ml:=fun _ _ _ _ H Q I h=>Calls.spliced_nil ⟨[],H,I, .nil,h⟩
theorem fZ(ha:PE X e te)(hr:PA X es t)(hs:starEach (e ::es) X.env=(false,eval e X.env) ::starEach es X.env:=by rfl):PA X (e ::es) (Ln te t):=by
 intro pos pins s σ H Q I h;rw[hs];show wpAny _ _ (spliced ((false,eval e X.env) ::backTo pos (starEach es X.env))) _ _ s;refine Calls.spliced_cons (cU (ha pins s σ H _ I h) fun u s1 ⟨x,H1,I1,r1,q1⟩=>?_)
 exact cU (hr pos pins s1 σ H1 _ I1 q1) fun us s2 ⟨xs,H2,I2,r2,q2⟩=>⟨x ::xs,H2,I2, .cons r1 r2,q2⟩
def N4(t:TA):TE:=fun σ H Q=>t σ H fun xs H1=>xs.length<=sizeLine/\∀p,H1 p=none->Q (.ref p) (upd H1 p (.tup xs))
def NK(t:TA):TE:=fun σ H Q=>t σ H fun xs H1=>xs.length<=sizeLine/\∀p,H1 p=none->Q (.ref p) (upd H1 p (.lst xs))
theorem xF{x1}(h:PA X es t):PE X (.Tuple es x1 pos) (N4 t):=by
 intro pins s σ H Q I hq;refine wpAny_Tuple_spliced (cU (h pos pins s σ H _ I hq) fun us s1 ⟨xs,H1,I1,r,z,q⟩=>⟨by rw[<-r.length];exact z,?_⟩)
 have hf:H1 s1.heap.objs.size=none:=I1.hok.fresh (Nat.le_refl _);refine⟨.ref s1.heap.objs.size,upd H1 s1.heap.objs.size (.tup xs),I1.laid (t':=s1.toks) (fun b u e=>Heap.get?_push_of_some _ e) (Nat.le_refl _) ?_,rfl,q _ hf⟩
 exact⟨z,us,r,⟨_,Heap.get?_push_size _ rfl,rfl,_,rfl⟩⟩
theorem BQ(h:PA X es t):PE X (.List es pos) (NK t):=by
 intro pins s σ H Q I hq;refine wpAny_List_spliced (cU (h pos pins s σ H _ I hq) fun us s1 ⟨xs,H1,I1,r,z,q⟩=>⟨by rw[<-r.length];exact z,?_⟩)
 have hf:H1 s1.heap.objs.size=none:=I1.hok.fresh (Nat.le_refl _);refine⟨.ref s1.heap.objs.size,upd H1 s1.heap.objs.size (.lst xs),I1.laid (t':=s1.toks) (fun b u e=>Heap.get?_push_of_some _ e) (Nat.le_refl _) ?_,rfl,q _ hf⟩
 exact⟨z,us,0,r,Heap.get?_push_size _ rfl⟩
end
abbrev Sp:=List V->Hp->VK->XK->Prop
abbrev Ba:=List Env->Hp->Shared->XK->Value->Shared->Prop
structure xk (P:Program) (w:World) (K:W.Frag) (mg:Yd) (base:Heap) (A:Around) (outer:List Env) (s:Shared) (H:Hp):Prop where
 frames:A.frames=some outer
 mod:Mod K mg base
 bs:∀b o,base.get? b=some o->s.heap.get? b=some o/\H b=none
 bsz:base.objs.size<=s.heap.objs.size
 pf:s.heap.FunFrames base outer
 frf:∀b∈oP outer,H b=none
 hok:mO P w H s.heap
 bare:AllBare s.gens
def CE(outer:List Env)(P:Program)(w:World)(H:Hp)(s:Shared)(Q:VK)(u:Value)(s':Shared):Prop:=
 ∃v H',s'.os=s.os/\AllBare s'.gens/\Un (oP outer) [] H H' s.heap s'.heap/\mO P w H' s'.heap/\RelV v u/\Q v H'
def CR(CX:Ba)(outer:List Env)(P:Program)(w:World)(H:Hp)(s:Shared)(Q:VK)(E:XK)(r:Result)(s':Shared):Prop:=
 match r with
 | .ok (.ret u)=>CE outer P w H s Q u s'
 | .ok _=>False
 | .error e=>CX outer H s E e s'
structure iT (P:Program) (w:World) (K:W.Frag) (mg:Yd) (base:Heap) (CX:Ba) (k:Nat) (f:Addr) (fd:FuncData) (ps:List Str) (sp:Sp):Prop where
 len:∀vs H Q E,sp vs H Q E->vs.length=ps.length
 run:∀(A:Around) (outer:List Env) (s:Shared) (H:Hp) (args:Args) (us:List Value) (vs:List V) (Q:VK) (E:XK),dw k A->xk P w K mg base A outer s H->BindsTo s fd args (ps.zip us)->Vals vs us->sp vs H Q E->
  codeAny (model P w) A (.call (.ref f) args) (CR CX outer P w H s Q E) s
theorem iT.imp{P:Program}{w:World}{K:W.Frag}{mg:Yd}{base:Heap}{CX:Ba}{k:Nat}{f:Addr}{fd:FuncData}{ps:List Str}{sp SN:Sp}(F:iT P w K mg base CX k f fd ps sp)
 (h:∀vs H Q E,SN vs H Q E->sp vs H Q E):iT P w K mg base CX k f fd ps SN:=
 ⟨fun vs H Q E q=>F.len vs H Q E (h _ _ _ _ q),fun A outer s H args us vs Q E hr he hb hv hs=>F.run A outer s H args us vs Q E hr he hb hv (h _ _ _ _ hs)⟩
theorem xk.make{K:W.Frag}{mg:Yd}{outer:List Env}{s:Shared}(e:xk P w K mg base A outer s H)(C:Addr)(us:List Value)(kw:List (Str × Value)) :
 xk P w K mg base (A.under (.builtin "type.__call__" ⟨.ref C ::us,kw⟩)) outer s H:=⟨by first | exact e.frames | (simpa [Around.under,Code.envs,Code.isFrame,pushEnvs] using e.frames),e.mod,e.bs,e.bsz,e.pf,e.frf,e.hok,e.bare⟩
section
variable {X:Cx} {pins:X9} {σ:St} {H:Hp} {s s':Shared}
theorem Inv.Mb(I:Inv X pins σ H s):xk X.prog X.w X.K X.mg X.base X.A X.stack s H:=
 ⟨I.ok.frames,I.ok.mod,I.bs,Nat.le_trans I.ok.bsz I.sz,I.stack,I.nS,I.hok,I.bare⟩
theorem Inv.after{Q:VK}{u:Value}(I:Inv X pins σ H s)(h:CE X.stack X.prog X.w H s Q u s'):EP X pins σ Q u s':=by
 obtain⟨v,H',os,bare,un,hok,r,q⟩:=h;obtain⟨hh,g,d,t,VC⟩:=s';obtain rfl:VC=s.os:=os;exact⟨v,H',I.call (h':=hh) (g':=g) (d':=d) (t':=t) (ch:=[]) un hok bare (fun b z=>absurd z (by simp)),r,q⟩
end
def L_(sp:Sp)(vv:List V)(E:XK)(t:TA):TE:=fun σ H Q=>t σ H fun vs H1=>sp (vs++vv) H1 Q E
def K2(C:Addr)(m:Str)(sp:Sp)(vv:List V)(E:XK)(ta:TE)(t:TA):TE:=fun σ H Q=>ta σ H fun x H1=>∃a dx fs,x= .ref a/\H1 a=some (.ins C dx fs)/\fs.lookup m=none/\
 t σ H1 fun vs H2=>sp (x ::(vs++vv)) H2 Q E
def K6(C:Addr)(sp:Sp)(vv:List V)(E:XK)(t:TA):TE:=fun σ H Q=>t σ H fun vs H1=>∀x dx,H1 x=none->H1 dx=none->dx≠x->
 sp (.ref x ::(vs++vv)) (upd (upd H1 dx (.own x)) x (.ins C dx [])) (fun v H2=>v= .cu/\Q (.ref x) H2) E
def Binds(K:W.Frag)(fd:FuncData)(ps:List Str)(ds:List Value):Prop:=
 ∀(s:Shared) (us:List Value),K.In s.heap->(us++ds).length=ps.length->BindsTo s fd ⟨us,[]⟩ (ps.zip (us++ds))
theorem Binds.all{K:W.Frag}{fd:FuncData}{ps:List Str}(h:∀us:List Value,us.length=ps.length->bindArgs fd ⟨us,[]⟩=pure (ps.zip us)):Binds K fd ps []:=fun s us _ hl=>by
 rw[List.append_nil] at hl ⊢;exact .of_eq (h us hl)
def Passes(CX:Ba)(X:Cx)(E:XK):Prop:=∀(pins:X9) (σ:St) (H:Hp) (s:Shared) (e:Value) (s':Shared),Inv X pins σ H s->CX X.stack H s E e s'->X.xe e s'
section
variable {X:Cx} {CX:Ba} {k:Nat} {f C:Addr} {fd:FuncData} {ps:List Str} {sp:Sp} {vv:List V} {ds:List Value} {E:XK} {x m:Str} {p pos apos:Pos} {e o:Expr} {es:List Expr} {ta:TE} {t:TA}
theorem DW{pins:X9}{σ:St}{H:Hp}{s:Shared}{Q:VK}{us:List Value}{vs:List V}(F:iT X.prog X.w X.K X.mg X.base CX k f fd ps sp)(hr:dw k X.A)(hb:Binds X.K fd ps ds)(hd:Vals vv ds)(hx:Passes CX X E)
 (I:Inv X pins σ H s) (r:Vals vs us) (h:sp (vs++vv) H Q E):wpAny (model X.prog X.w) X.A (call (.ref f) us) (EP X pins σ Q) X.xe s:=by
 have r2:Vals (vs++vv) (us++ds):=r.append hd;have hl:(us++ds).length=ps.length:=by rw[<-r2.length];exact F.len _ _ _ _ h
 refine wpAny_call (codeAny_mono (F.run X.A X.stack s H ⟨us,[]⟩ (us++ds) (vs++vv) Q E hr I.Mb (hb s us I.nZ hl) r2 h) fun r s' hq=>?_)
 cases r with
 | error e=>exact hx pins σ H s e s' I hq
 | ok fl=>
   cases fl with
   | ret u=>exact I.after hq
   | next=>exact False.elim hq
   | brk=>exact False.elim hq
   | cont=>exact False.elim hq
theorem uF(F:iT X.prog X.w X.K X.mg X.base CX k f fd ps sp)(hr:dw k X.A)(hg:Gl X x)(hm:X.mg x=some (.ref f))(hk:PySem.W.keepIn X.K (.ref f)=true)(hb:Binds X.K fd ps ds)(hd:Vals vv ds)(hx:Passes CX X E)
 (ha:PA X (e ::es) t) (j9:(x==("__debug__":Str))=false:=by decide) (he:starEach (e ::es) X.env=(false,eval e X.env) ::starEach es X.env:=by rfl) (lP:(backTo pos (starEach es X.env)).any (·.1)=false:=by rfl) :
 PE X (.Call (.Name x p) (e ::es) [] pos) (L_ sp vv E t):=by
 intro pins s σ H Q I h;refine wpAny_Call_Name_kw (pF I hg hm ?_ j9);refine PySem.W.callWith_K (h₀:=X.base) I.ok.mod.kin hk (cU (ha pos pins s σ H _ I h) fun us s1 ⟨vs,H1,I1,r,q⟩=>⟨I1.nZ,?_⟩) he lP
 exact DW F hr hb hd hx I1 r q
theorem FV{pl:Sem Bool}(he:PE X o ta)(c:w9 X.K C)(hm:Meth X.K C m f)(F:iT X.prog X.w X.K X.mg X.base CX k f fd ps sp)(hr:dw k X.A)(hb:Binds X.K fd ps ds)(hd:Vals vv ds)(hx:Passes CX X E)(ha:PA X (e ::es) t)
 (yA:starEach (e ::es) X.env=(false,eval e X.env) ::starEach es X.env:=by rfl) (lP:(backTo pos (starEach es X.env)).any (·.1)=false:=by rfl)
 (ht:eval (.Call (.Attribute o m apos) (e ::es) [] pos) X.env=(do
   let ov <-eval o X.env
   standAt apos.atName
   let(f,first) <-holding [ov] (getMethod ov m pl)
   callWith pos f first (backTo pos (starEach (e ::es) X.env)) (backToKw pos (keywordEach [] X.env))):=by rfl) :
 PE X (.Call (.Attribute o m apos) (e ::es) [] pos) (K2 C m sp vv E ta t):=by
 intro pins s σ H Q I h;refine PySem.W.methodCall_KW (pl:=pl) (cU (he pins s σ H _ I h) fun u s1 ⟨x,H1,I1,rx,a,dx,fs,ex,ea,l,q⟩=>?_) ht
 subst ex;obtain rfl:u=Value.ref a:=rx;refine xK I1 ea c hm l ?_;refine PySem.W.callWith_K (first:=[.ref a]) (h₀:=X.base) I.ok.mod.kin hm.kp (cU (ha pos pins s1 σ H1 _ I1 q) fun us s2 ⟨vs,H2,I2,r,q2⟩=>⟨I2.nZ,?_⟩) yA lP
 exact DW (us:= .ref a ::us) (vs:= .ref a ::vs) F hr hb hd hx I2 (.cons rfl r) q2
structure Mk (K:W.Frag) (C f:Addr):Prop where
 makes:PySem.W.makesIn K C=true
 init:PySem.W.findIn K (.ref C) "__init__"=some (some (.ref f))
 fn:PySem.W.isFn K (.ref f)=true
 kp:PySem.W.keepIn K (.ref C)=true
theorem CU{pins:X9}{σ:St}{H:Hp}{s:Shared}{Q:VK}{us:List Value}{vs:List V}(M:Mk X.K C f)(F:iT X.prog X.w X.K X.mg X.base CX k f fd ps sp)(hr:dw (k+1) X.A)(hb:Binds X.K fd ps ds)(hd:Vals vv ds)
 (hx:Passes CX X E) (I:Inv X pins σ H s) (r:Vals vs us)
 (h:∀x dx,H x=none->H dx=none->dx≠x->sp (.ref x ::(vs++vv)) (upd (upd H dx (.own x)) x (.ins C dx [])) (fun v H2=>v= .cu/\Q (.ref x) H2) E) :
 wpAny (model X.prog X.w) X.A (call (.ref C) us) (EP X pins σ Q) X.xe s:=by
 have hq:=h (s.heap.objs.size+1) s.heap.objs.size (I.hok.fresh (Nat.le_succ _)) (I.hok.fresh (Nat.le_refl _)) (Nat.ne_of_lt (Nat.lt_succ_self _));have I2:=Inv.made (C:=C) I;have r2:Vals (V.ref (s.heap.objs.size+1) ::(vs++vv)) (Value.ref (s.heap.objs.size+1) ::(us++ds)):= .cons rfl (r.append hd);have hl:(Value.ref (s.heap.objs.size+1) ::us++ds).length=ps.length:=by
  have e:=r2.length;rw[F.len _ _ _ _ hq] at e;exact e.symm
 refine wpAny_call (BN (f:=f) I.nZ M.makes M.init (beq_iff_eq.mp M.fn) (codeAny_mono (F.run _ X.stack _ _ ⟨Value.ref (s.heap.objs.size+1) ::us,[]⟩ (Value.ref (s.heap.objs.size+1) ::(us++ds)) _ _ E (hr.make C us [])
  (I2.Mb.make C us []) (hb _ (Value.ref (s.heap.objs.size+1) ::us) I2.nZ hl) r2 hq) fun r s' MP=>?_))
 cases r with
 | error e=>exact hx pins σ _ _ e s' I2 MP
 | ok fl=>
   cases fl with
   | ret u=>
     obtain⟨v,H',I3,rv,ev,q3⟩:=I2.after MP;subst ev;exact⟨rv,⟨V.ref (s.heap.objs.size+1),H',I3,rfl,q3⟩⟩
   | next=>exact False.elim MP
   | brk=>exact False.elim MP
   | cont=>exact False.elim MP
theorem CL(M:Mk X.K C f)(F:iT X.prog X.w X.K X.mg X.base CX k f fd ps sp)(hr:dw (k+1) X.A)(hg:Gl X x)(hm:X.mg x=some (.ref C))(hb:Binds X.K fd ps ds)(hd:Vals vv ds)(hx:Passes CX X E)
 (j9:(x==("__debug__":Str))=false:=by decide):PE X (.Call (.Name x p) [] [] pos) (K6 C sp vv E Ml):=by
 intro pins s σ H Q I h;refine wpAny_Call_Name_kw (pF I hg hm ?_ j9);exact PySem.W.callWith_K0 I.nZ M.kp (CU (us:=[]) M F hr hb hd hx I .nil h)
end
def PK(X:Cx)(SH:List Keyword)(t:TA):Prop:=
 ∀(pos:Pos) (pins:X9) (s:Shared) (σ:St) (H:Hp) (Q:List V->Hp->Prop),Inv X pins σ H s->t σ H Q->wpAny (model X.prog X.w) X.A (evalAll ((backToKw pos (keywordEach SH X.env)).map (·.2))) (AP X pins σ Q) X.xe s
section
variable {X:Cx} {CX:Ba} {k:Nat} {f C:Addr} {fd:FuncData} {ps ks:List Str} {sp:Sp} {E:XK} {x m:Str} {p pos apos Wc:Pos} {e o:Expr} {es:List Expr} {SH:List Keyword} {te ta:TE} {t tk:TA} {nm:Option Str}
structure Oh (K:W.Frag) (fd:FuncData) (ps ks:List Str) (g:List Value->List Value->List Value) (gV:List V->List V->List V):Prop where
 to:∀(s:Shared) (us ws:List Value),K.In s.heap->(g us ws).length=ps.length->BindsTo s fd ⟨us,ks.zip ws⟩ (ps.zip (g us ws))
 rel:∀{vs:List V} {us:List Value} {zs:List V} {ws:List Value},Vals vs us->Vals zs ws->Vals (gV vs zs) (g us ws)
def NP(sp:Sp)(gV:List V->List V->List V)(E:XK)(t tk:TA):TE:=fun σ H Q=>t σ H fun vs H1=>tk σ H1 fun zs H2=>sp (gV vs zs) H2 Q E
variable {g:List Value->List Value->List Value} {gV:List V->List V->List V}
end
structure bb (N P:List Str) (sc:Scope):Prop where
 kind:sc.kind= .function
 co:sc.isCoroutine=false
 gen:sc.isGenerator=false
 nd:N.Nodup
 pre:N.take P.length=P
 par:∀x∈P,sc.names.lookup x=some .local\/sc.names.lookup x=some .cell
 nofree:∀y∈sc.names,y.2≠ .free
theorem tY{kindOf:Str->Option NameKind}:∀{binds:List (Str × Value)} {m:Yd},(∀v,(x,v) ∉ binds)->bindL kindOf binds m x=m x
 | [],_,_=>rfl
 | (n,v) ::r,m,h=>by
   unfold bindL;rw[tY fun w hw=>h w (List.mem_cons_of_mem _ hw)]
   split
   .have:x≠n:=by rintro rfl;exact h v List.mem_cons_self
    simp [this]
   .rfl
theorem ue{kindOf:Str->Option NameKind}:∀{binds:List (Str × Value)} {m:Yd},(∀v,(x,v) ∉ binds)->bindC kindOf binds m x=m x
 | [],_,_=>rfl
 | (n,v) ::r,m,h=>by
   unfold bindC;rw[ue fun w hw=>h w (List.mem_cons_of_mem _ hw)]
   split
   .rfl
   .have:x≠n:=by rintro rfl;exact h v List.mem_cons_self
    simp [this]
theorem ug{kindOf:Str->Option NameKind}{v:Value}:∀{P:List Str} {vs:List Value} {i:Nat} {m:Yd},P.Nodup->P[i]? =some x->vs[i]? =some v->kindOf x=some .local->
 bindL kindOf (P.zip vs) m x=some v
 | [],_,_,_,_,h,_,_=>by simp at h
 | _ ::_,[],_,_,_,_,h,_=>by simp at h
 | p ::P,w ::vs,0,m,nd,h1,h2,hk=>by
   simp at h1 h2;subst h1;subst h2;show bindL kindOf ((p,w) ::P.zip vs) m p=_;unfold bindL;rw[tY fun v hv=>(List.nodup_cons.mp nd).1 (List.of_mem_zip hv).1,if_pos hk]
   simp
 | p ::P,w ::vs,i+1,m,nd,h1,h2,hk=>by
   show bindL kindOf ((p,w) ::P.zip vs) m x=_;unfold bindL;exact ug (i:=i) (List.nodup_cons.mp nd).2 (by simpa using h1) (by simpa using h2) hk
theorem ua{kindOf:Str->Option NameKind}{v:Value}:∀{P:List Str} {vs:List Value} {i:Nat} {m:Yd},P.Nodup->P[i]? =some x->vs[i]? =some v->kindOf x≠some .local->
 bindC kindOf (P.zip vs) m x=some v
 | [],_,_,_,_,h,_,_=>by simp at h
 | _ ::_,[],_,_,_,_,h,_=>by simp at h
 | p ::P,w ::vs,0,m,nd,h1,h2,hk=>by
   simp at h1 h2;subst h1;subst h2;show bindC kindOf ((p,w) ::P.zip vs) m p=_;unfold bindC;rw[ue fun v hv=>(List.nodup_cons.mp nd).1 (List.of_mem_zip hv).1,if_neg hk]
   simp
 | p ::P,w ::vs,i+1,m,nd,h1,h2,hk=>by
   show bindC kindOf ((p,w) ::P.zip vs) m x=_;unfold bindC;exact ua (i:=i) (List.nodup_cons.mp nd).2 (by simpa using h1) (by simpa using h2) hk
def start(N:List Str)(vs:List V):St:=vs.map some++List.replicate (N.length - vs.length) none
def lz(CX:Ba)(P:Program)(w:World)(K:W.Frag)(mg:Yd)(base:Heap)(N:List Str)(qual:Str)(scope:Scope)(f:Addr)(cd:Value)(A:Around)(outer:List Env)(s:Shared)(H:Hp)(E:XK):Cx where
 prog:=P
 w:=w
 K:=K
 mg:=mg
 base:=base
 A:=A.deeper (envOfC qual scope s.heap.objs.size f cd)
 N:=N
 s₀:=s
 H₀:=H
 env:=envOfC qual scope s.heap.objs.size f cd
 outer:=outer
 stack:=envOfC qual scope s.heap.objs.size f cd ::outer
 ex:=[]
 calm:=true
 fn:=fun _=>true
 pn:=[]
 xe:=fun e s'=>wpAny (model P w) (A.deeper (envOfC qual scope s.heap.objs.size f cd)) (leaving (envOfC qual scope s.heap.objs.size f cd) e) (fun _ O4=>CX outer H s E e O4) (fun e' O4=>CX outer H s E e' O4) s'
theorem rF{sc:Scope}{n:Nat}(h:sc.names.lookup x=some .cell):∃c,(cellsFrom n sc.names []).lookup x=some c:=by
 have q:=PySem.W.cellsFrom_some sc.names n [] (.inl h);exact Option.isSome_iff_exists.mp q
theorem AQ{CX:Ba}{P:Program}{w:World}{K:W.Frag}{mg:Yd}{base:Heap}{N ps:List Str}{qual:Str}{scope:Scope}{f:Addr}{cd:Value}{A:Around}{outer:List Env}{s s1:Shared}{H:Hp}{E:XK}{us:List Value}{vs:List V}
 (S:bb N ps scope) (hd:A.handled=none) (e0:xk P w K mg base A outer s H) (hl:vs.length=ps.length) (r:Vals vs us)
 (x:InCallC s s.heap.objs.size (bindL (envOfC qual scope s.heap.objs.size f cd).kindOf (ps.zip us) fun _=>none) (cellsFrom (s.heap.objs.size+1) scope.names []) (bindC (envOfC qual scope s.heap.objs.size f cd).kindOf (ps.zip us) fun _=>none) s1) :
 Inv (lz CX P w K mg base N qual scope f cd A outer s H E) [] (start N vs) H s1:=by
 have lP:ps.length<=N.length:=by have:=congrArg List.length S.pre;rw [List.length_take] at this;omega
 obtain⟨h1,tk,rfl,hk⟩:=x.done;have noA:∀b:Addr,b ∉ (lz CX P w K mg base N qual scope f cd A outer s H E).ex:=fun b z=>absurd (show b∈([]:List Addr) from z) (by simp)
 refine⟨⟨e0.mod,S.kind,rfl,rfl,Nat.le_refl _,fun y z c h1 h2=>?_,fun y hy=>?_,fun y c _ h=>?_,fun _=>hd,Around.frames_deeper e0.frames, .inr ⟨rfl,rfl⟩,fun b z=>absurd z (noA b),e0.bs,e0.bsz,fun b _ _=>noA b,fun b z=>absurd z (noA b),e0.pf,e0.frf⟩,
  rfl,e0.bare,Un.kept hk,⟨_,x.toInCall.ns,fun i y v h1 h2 h3=>?_⟩,fun y c h=>⟨_,x.cell y c h⟩,e0.hok.fresh (Nat.le_refl _),fun y c h=>?_,fun p hp=>absurd (show p∈([]:X9) from hp) (by simp),e0.hok.kept hk,?_⟩
 .exact name_of_addr x.apart (PySem.mem_of_lookup h1) (PySem.mem_of_lookup h2)
 .have hy:scope.names.lookup y=some .cell\/scope.names.lookup y=some .free:=hy;rcases hy with hy | hy
  .exact rF hy
  .exact absurd rfl (S.nofree _ (PySem.mem_of_lookup hy))
 .exact Nat.le_of_lt (x.above y c (PySem.mem_of_lookup h))
 .have hi:i < vs.length:=by
   unfold start at h2;by_cases hi:i < vs.length
   .exact hi
   .rw [List.getElem?_append_right (by simpa using hi)] at h2
    rw[List.getElem?_replicate] at h2;split at h2 <;> cases h2
  have ha:vs[i]? =some v:=by
   unfold start at h2;rw[List.getElem?_append_left (by simpa using hi),List.getElem?_map] at h2
   cases e:vs[i]? with
   | none=>rw [e] at h2;cases h2
   | some a=>rw [e] at h2;cases h2;rfl
  obtain⟨u,hu,rv⟩:=r.get ha;have hp:ps[i]? =some y:=by
   rw[<-S.pre,List.getElem?_take_of_lt (by omega)];exact h1
  have ndP:ps.Nodup:=by rw[<-S.pre];exact S.nd.sublist (List.take_sublist _ _)
  refine⟨u,rv,?_⟩;rcases S.par y (List.mem_of_getElem? hp) with k | k
  .exact .inl ⟨k,ug ndP hp hu k⟩
  .obtain⟨c,e⟩:=rF (n:=s.heap.objs.size+1) k;refine .inr ⟨.inl k,c,e,?_⟩;have q:=x.cell y c e;rw[ua ndP hp hu (by show scope.names.lookup y≠_;rw [k];decide)] at q
   exact q
 .exact e0.hok.fresh (Nat.le_of_lt (x.above y c (PySem.mem_of_lookup h)))
 .unfold start;show _=N.length;rw[List.length_append,List.length_map,List.length_replicate];omega
theorem GQ{CX:Ba}{P:Program}{w:World}{K:W.Frag}{mg:Yd}{base:Heap}{k:Nat}{f:Addr}{name qual:Str}{params:Arguments}{body:List Stmt}{scope:Scope}{dV kV doc pm dJ ct oc:Value}{an od:Option Addr}
 {D3:Array (Option Value)} {N ps:List Str} {sp:Sp} (lk:K.lookup f=some ⟨oc,od, .func (PySem.W.fnOf name qual params body scope dV kV doc pm an dJ ct),D3⟩) (xf:PySem.W.codeIn K dJ qual=true) (S:bb N ps scope)
 (len:∀vs H Q E,sp vs H Q E->vs.length=ps.length)
 (g5:∀(A:Around) (outer:List Env) (s:Shared) (H:Hp) (vs:List V) (Q:VK) (E:XK),dw k (A.deeper (envOfC qual scope s.heap.objs.size f dJ))->sp vs H Q E->
   ∃t,uZ (lz CX P w K mg base N qual scope f dJ A outer s H E) body t/\t {nx:=fun _ H'=>Q .cu H',rt:=Q} (start N vs) H) :
 iT P w K mg base CX (k+1) f (PySem.W.fnOf name qual params body scope dV kV doc pm an dJ ct) ps sp:=by
 refine⟨len,fun A outer s H args us vs Q E hr e0 hb r zZ=>?_⟩
 have hl:=len _ _ _ _ zZ;have KX:K.In s.heap:=e0.mod.kin.keeps fun b o e=>(e0.bs b o e).1
 have lim:s.heap.NoLimit:=e0.mod.nolimit.keeps fun b o e=>(e0.bs b o e).1
 have hkind:∀y∈ps.zip us,scope.names.lookup y.1=some .local\/(scope.names.lookup y.1=some .cell/\((cellsFrom (s.heap.objs.size+1) scope.names []).lookup y.1).isSome=true):=fun⟨n,v⟩ hy=>by
  rcases S.par n (List.of_mem_zip hy).1 with q | q
  .exact .inl q
  .exact .inr ⟨q,PySem.W.cellsFrom_some _ _ _ (.inl q)⟩
 refine codeAny_call_function hr.depth (KX _ _ lk) rfl S.co S.gen rfl (PySem.W.codeRec_of KX xf) (hb _ _ _ _ ?_);refine wpAny_newFunctionEnv_cells S.kind hkind fun env he s1 x=>?_
 subst he;refine⟨lim.keeps x.toInCall.keep,codeAny_func ?_⟩;obtain⟨t,ht,hq⟩:=g5 A outer s H vs Q E (hr.deeper _) zZ;have I:Inv (lz CX P w K mg base N qual scope f dJ A outer s H E) [] (start N vs) H s1:=AQ S hr.hd e0 hl r x;refine wpAny_mono (ht [] s1 (start N vs) H _ I hq) (fun fl s' hs=>?_) fun e s' hs=>hs
 have fin:∀{cj:St} {H':Hp} {v:V} {u:Value},Inv (lz CX P w K mg base N qual scope f dJ A outer s H E) [] cj H' s'->RelV v u->Q v H'->CE outer P w H s Q u s':=
  fun {cj H' v u} J rv q=>⟨v,H',J.os,J.bare,J.base,J.hok,rv,q⟩
 cases fl with
 | ret u=>
   obtain⟨v,cj,H',J,rv,q⟩:=hs;exact fin J rv q
 | next=>
   obtain⟨cj,H',J,q⟩:=hs;exact fin (v:=V.cu) (u:=Value.none) J rfl q
 | brk=>
   obtain⟨_,_,_,q⟩:=hs;exact False.elim q
 | cont=>
   obtain⟨_,_,_,q⟩:=hs;exact False.elim q
section
variable {X:Cx} {x:Str} {p pos:Pos} {e:Expr} {es:List Expr} {t:TA} {id T:String} {r:List V->Hp->VK->Prop}
def Q8(r:List V->Hp->VK->Prop)(t:TA):TE:=fun σ H Q=>t σ H fun vs H1=>r vs H1 Q
theorem pJ(hc:jS X (.builtin id) r)(hg:Gl X x)(hm:X.mg x=none)(hv:bootBuiltins x=some (.builtin id))(ha:PA X (e ::es) t)(hn:x≠"__name__":=by decide)(j9:(x==("__debug__":Str))=false:=by decide)
 (he:starEach (e ::es) X.env=(false,eval e X.env) ::starEach es X.env:=by rfl) (lP:(backTo pos (starEach es X.env)).any (·.1)=false:=by rfl):PE X (.Call (.Name x p) (e ::es) [] pos) (Q8 r t):=by
 intro pins s σ H Q I h;refine wpAny_Call_Name_kw (vp I hg hm hv ?_ hn j9);exact PyProof.Rows.callWith_builtin1 (cU (ha pos pins s σ H _ I h) fun us s1 ⟨vs,H1,I1,r1,q1⟩=>hc pins s1 σ H1 vs us Q I1 r1 q1) he lP
theorem ub(hc:jS X (.type T) r)(hg:Gl X x)(hm:X.mg x=none)(hv:bootBuiltins x=some (.type T))(ha:PA X (e ::es) t)(hn:x≠"__name__":=by decide)(j9:(x==("__debug__":Str))=false:=by decide)
 (he:starEach (e ::es) X.env=(false,eval e X.env) ::starEach es X.env:=by rfl) (lP:(backTo pos (starEach es X.env)).any (·.1)=false:=by rfl):PE X (.Call (.Name x p) (e ::es) [] pos) (Q8 r t):=by
 intro pins s σ H Q I h;refine wpAny_Call_Name_kw (vp I hg hm hv ?_ hn j9);exact PyProof.Rows.callWith_type1 (cU (ha pos pins s σ H _ I h) fun us s1 ⟨vs,H1,I1,r1,q1⟩=>hc pins s1 σ H1 vs us Q I1 r1 q1) he lP
end
section
variable {κ:Type} [DecidableEq κ]
def kx(aA:List (κ × V))(k:κ):Option V:=(aA.find? fun kv=>decide (kv.1=k)).map (·.2)
def putK(aA:List (κ × V))(k:κ)(v:V):List (κ × V):=
 if(aA.any fun kv=>decide (kv.1=k))=true then aA.map (fun kv=>if kv.1=k then(kv.1,v) else kv) else aA++[(k,v)]
def BR(aA:List (κ × V))(k:κ):List (κ × V):=aA.filter fun kv=>decide (kv.1≠k)
theorem rG{p:κ × V}{r:List (κ × V)}{k:κ}(e:p.1=k):kx (p ::r) k=some p.2:=by simp [kx,List.find?_cons,e]
theorem sP{p:κ × V}{r:List (κ × V)}{k:κ}(e:¬p.1=k):kx (p ::r) k=kx r k:=by simp [kx,List.find?_cons,e]
theorem vX(k:κ):∀aA:List (κ × V),(aA.any fun kv=>decide (kv.1=k))=(kx aA k).isSome
 | []=>rfl
 | p ::r=>by
   rw[List.any_cons];by_cases e:p.1=k
   .simp only[rG e,decide_eq_true e,Bool.true_or,Option.isSome_some]
   .rw [sP e,decide_eq_false e,Bool.false_or];exact vX k r
theorem qI(aA:List (κ × V))(k:κ)(v:V):(putK aA k v).length<=aA.length+1:=by
 unfold putK;split
 .rw [List.length_map];omega
 .rw [List.length_append,List.length_cons,List.length_nil];omega
theorem m4.g_{o:Option V}{u:Option Value}(r:m4 o u):o.isSome=u.isSome:=by
 cases o with
 | none=>cases u with
   | none=>rfl
   | some _=>exact(show False from r).elim
 | some _=>cases u with
   | none=>exact(show False from r).elim
   | some _=>rfl
theorem KV.val{aA:List (κ × V)}{vs:List (κ × Value)}(r:KV aA vs)(k:κ):m4 (kx aA k) (valueAt vs k):=by
 unfold KV at r
 induction r with
 | nil=>exact True.intro
 | @cons p q ps qs h t ih=>
   obtain⟨h1,h2⟩:=h;by_cases e:p.1=k
   .have e':q.1=k:=h1.symm.trans e;have b:valueAt (q ::qs) k=some q.2:=by simp [valueAt,List.find?_cons,e']
    rw[rG e,b];exact h2
   .have e':¬q.1=k:=fun z=>e (h1.trans z)
    have b:valueAt (q ::qs) k=valueAt qs k:=by simp [valueAt,List.find?_cons,e']
    rw[sP e,b];exact ih
theorem KV.any{aA:List (κ × V)}{vs:List (κ × Value)}(r:KV aA vs)(k:κ):(aA.any fun kv=>decide (kv.1=k))=vs.any fun kv=>decide (kv.1=k):=by
 unfold KV at r
 induction r with
 | nil=>rfl
 | cons h t ih=>rw [List.any_cons,List.any_cons,ih,h.1]
theorem KV.Hz{aA:List (κ × V)}{vs:List (κ × Value)}(r:KV aA vs)(k:κ){y:V}{u:Value}(ry:RelV y u) :
 KV (aA.map fun kv=>if kv.1=k then(kv.1,y) else kv) (vs.map fun kv=>if kv.1=k then(kv.1,u) else kv):=by
 unfold KV at r ⊢
 induction r with
 | nil=>exact .nil
 | @cons p q ps qs h t ih=>
   rw[List.map_cons,List.map_cons];refine .cons ?_ ih;obtain⟨h1,h2⟩:=h;by_cases e:p.1=k
   .rw [if_pos e,if_pos (h1.symm.trans e)];exact⟨h1,ry⟩
   .rw [if_neg e,if_neg (fun z=>e (h1.trans z))];exact⟨h1,h2⟩
theorem KV.put{aA:List (κ × V)}{vs:List (κ × Value)}(r:KV aA vs)(k:κ){y:V}{u:Value}(ry:RelV y u):KV (putK aA k y) (stored vs k u):=by
 unfold putK stored;rw[r.any k];by_cases e:(vs.any fun kv=>decide (kv.1=k))=true
 .rw [if_pos e,if_pos e];exact r.Hz k ry
 .rw [if_neg e,if_neg e];exact Paired.snoc r ⟨rfl,ry⟩
theorem KV.length{aA:List (κ × V)}{vs:List (κ × Value)}(r:KV aA vs):aA.length=vs.length:=Paired.length r
end
theorem qG{k:Key}{u:Value}(r:RelV (kV k) u):(dE P w).is k u=true:=by
 cases k with
 | inl i=>obtain⟨t,e⟩:=(show ∃t,u=Value.int i t from r);subst e;exact vF P w i t
 | inr x=>obtain⟨t,e⟩:=(show ∃t,u=Value.str x t from r);subst e;exact ng P w x t
theorem uj:∀{ks:List Key} {us:List Value},Vals (ks.map kV) us->ItemsAre (dE P w) ks us
 | [],_,r=>by rw[List.map_nil] at r;cases r;exact .nil
 | k ::ks,_,r=>by
   rw[List.map_cons] at r;cases r with
   | cons h t=>exact .cons (qG h) (uj t)
abbrev KT(H:Hp):List (List Key × V)->List (List Key × Addr × Value)->Prop:=Paired fun p q=>p.1=q.1/\H q.2.1=some (.tup (p.1.map kV))/\RelV p.2 q.2.2
theorem KT.val{aA:List (List Key × V)}{xs:List (List Key × Addr × Value)}(r:KT H aA xs)(k:List Key):m4 (kx aA k) ((atKey xs k).map (·.2)):=by
 induction r with
 | nil=>exact True.intro
 | @cons p q ps qs h t ih=>
   obtain⟨h1,_,h2⟩:=h;by_cases e:p.1=k
   .have e':q.1=k:=h1.symm.trans e;have b:atKey (q ::qs) k=some q.2:=by simp [atKey,List.find?_cons,e']
    rw[rG e,b];exact h2
   .have e':¬q.1=k:=fun z=>e (h1.trans z)
    have b:atKey (q ::qs) k=atKey qs k:=by simp [atKey,List.find?_cons,e']
    rw[sP e,b];exact ih
theorem KT.Hz{aA:List (List Key × V)}{xs:List (List Key × Addr × Value)}(r:KT H aA xs)(k:List Key){y:V}{u:Value}(ry:RelV y u) :
 KT H (aA.map fun kv=>if kv.1=k then(kv.1,y) else kv) (xs.map (putAt k u)):=by
 induction r with
 | nil=>exact .nil
 | @cons p q ps qs h t ih=>
   rw[List.map_cons,List.map_cons];refine .cons ?_ ih;obtain⟨h1,h2,h3⟩:=h;unfold putAt;by_cases e:p.1=k
   .rw [if_pos e,if_pos (h1.symm.trans e)];exact⟨h1,h2,ry⟩
   .rw [if_neg e,if_neg (fun z=>e (h1.trans z))];exact⟨h1,h2,h3⟩
theorem KT.put{H:Hp}{aA:List (List Key × V)}{xs:List (List Key × Addr × Value)}(r:KT H aA xs)(k:List Key){b:Addr}{y:V}{u:Value}(hb:H b=some (.tup (k.map kV)))(ry:RelV y u) :
 KT H (putK aA k y) (storedH xs k b u):=by
 have e:(aA.any fun kv=>decide (kv.1=k))=(atKey xs k).isSome:=by
  rw[vX,(r.val k).g_,Option.isSome_map]
 unfold putK storedH;rw[e];by_cases q:(atKey xs k).isSome=true
 .rw [if_pos q,if_pos q];exact r.Hz k ry
 .rw [if_neg q,if_neg q];exact Paired.snoc r ⟨rfl,hb,ry⟩
theorem KT.keeps{H H':Hp}{aA:List (List Key × V)}{xs:List (List Key × Addr × Value)}(r:KT H aA xs)(ht:∀b ys,H b=some (.tup ys)->H' b=some (.tup ys)):KT H' aA xs:=
 Paired.IT r fun _ _ z=>⟨z.1,ht _ _ z.2.1,z.2.2⟩
section
variable {P:Program} {w:World} {H:Hp} {h:Heap} {a:Addr}
theorem Hg{u:HO}(ok:mO P w H h)(e:Rd H a u):cR P w H h a u:=e.ok ok
theorem tT{aA:List (Key × V)}(ok:mO P w H h)(e:Rd H a (.dK aA)):aA.length<=sizeLine/\(a==sysModules)=false/\∃vs,KV aA vs/\h.DictOf (dE P w) a vs:=
 show cR P w H h a (.dK aA) from Hg ok e
theorem Lb{aA:List (Key × V)}(ok:mO P w H h)(e:H a=some (.dK aA)):aA.length<=sizeLine/\(a==sysModules)=false/\∃vs,KV aA vs/\h.DictOf (dE P w) a vs:=tT ok (.inl e)
theorem rQ{ks:List Key}(ok:mO P w H h)(e:H a=some (.tup (ks.map kV))):(tupleKind (dE P w)).is h ks a:=by
 obtain⟨_,its,r,o,h1,h2,n,h3⟩:=(show cR P w H h a (.tup (ks.map kV)) from ok a _ e)
 exact⟨o,its.toArray,n,h1,h2,h3,by simpa using uj r⟩
theorem vR{aA:List (List Key × V)}(ok:mO P w H h)(e:Rd H a (.dT aA)):aA.length<=sizeLine/\(a==sysModules)=false/\
 ∃xs,KT H aA xs/\h.DictOfH (tupleKind (dE P w)) a xs:=by
 obtain⟨z,y,xs,r,o,es,ep,h1,h2,h3,h4,h5⟩:=(show cR P w H h a (.dT aA) from Hg ok e)
 refine⟨z,y,xs,r,o,es,ep,h1,h2,h3,h4,fun x hx=>?_,h5⟩
 have all:∀{l:List (List Key × V)} {m:List (List Key × Addr × Value)},KT H l m->∀x∈m,(tupleKind (dE P w)).is h x.1 x.2.1:=by
  intro l m q
  induction q with
  | nil=>intro x hx;exact nomatch hx
  | @cons p q ps qs hq t ih=>
    intro x hx;rcases List.mem_cons.mp hx with e | hx
    .subst e;exact rQ ok (by rw[<-hq.1];exact hq.2.1)
    .exact ih x hx
 exact all r x hx
theorem LF{aA:List (List Key × V)}(ok:mO P w H h)(e:H a=some (.dT aA)):aA.length<=sizeLine/\(a==sysModules)=false/\
 ∃xs,KT H aA xs/\h.DictOfH (tupleKind (dE P w)) a xs:=vR ok (.inl e)
end
def pT(H:Hp)(a:Addr)(y:V)(r:Option V):Prop:=
 (∃aA k,Rd H a (.dK aA)/\y=kV k/\r=kx aA k)\/∃aA k b,Rd H a (.dT aA)/\y= .ref b/\H b=some (.tup (k.map kV))/\r=kx aA k
def Ao(H:Hp)(a:Addr)(y v:V)(H':Hp):Prop:=
 (∃aA k,H a=some (.dK aA)/\y=kV k/\aA.length < sizeLine/\H'=upd H a (.dK (putK aA k v)))\/
 ∃aA k b,H a=some (.dT aA)/\y= .ref b/\H b=some (.tup (k.map kV))/\aA.length < sizeLine/\H'=upd H a (.dT (putK aA k v))
theorem pT.k{H:Hp}{a:Addr}{aA:List (Key × V)}{k:Key}(e:H a=some (.dK aA)):pT H a (kV k) (kx aA k):= .inl ⟨aA,k, .inl e,rfl,rfl⟩
theorem Ao.k{H:Hp}{a:Addr}{aA:List (Key × V)}{k:Key}{v:V}(e:H a=some (.dK aA))(hl:aA.length < sizeLine):Ao H a (kV k) v (upd H a (.dK (putK aA k v))):= .inl ⟨aA,k,e,rfl,hl,rfl⟩
section
variable {X:Cx} {pins:X9} {σ:St} {H:Hp} {s:Shared} {a:Addr} {y v:V} {u r:Value} {o:Option V} {A:Around} {E:X_}
theorem Inv.big(I:Inv X pins σ H s):sysModules < s.heap.objs.size:=by
 have h:mainGlobals < s.heap.objs.size:=(I.mod.glob.keeps I.bk).lt;exact Nat.lt_trans (by decide) h
theorem AU{Q:X_}(hu:A.units+1 < cLine)(I:Inv X pins σ H s)(g:pT H a y (some v))(ry:RelV y u)(h:∀w' s',Inv X pins σ H s'->RelV v w'->Q w' s') :
 wpAny (model X.prog X.w) A (getItem (.ref a) u) Q E s:=by
 rcases g with⟨aA,k,e,ey,l⟩ | ⟨aA,k,b,e,ey,eb,l⟩
 .subst ey;obtain⟨z,hd,vs,rel,dd⟩:=tT I.hok e;obtain⟨w',hw,xb⟩:=m4.some_of (v:=v) (o:=valueAt vs k) (by rw[l];exact rel.val k)
  exact wpAny_getItem_of (qG ry) dd.mapOf hw (h w' _ (I.tok _) xb)
 .subst ey;cases(show u=Value.ref b from ry)
  obtain⟨z,hd,xs,rel,dd⟩:=vR I.hok e;obtain⟨w',hw,xb⟩:=m4.some_of (v:=v) (o:=(atKey xs k).map (·.2)) (by rw[l];exact rel.val k)
  obtain⟨p,hp,VN⟩:=Option.map_eq_some_iff.mp hw;refine wpAny_getItem_heap (tupleKind_room_in1 hu) (rQ I.hok eb) dd hp ?_;rw[VN];exact h w' _ (I.tok _) xb
theorem Ol{Q:X_}(hu:A.units+1 < cLine)(I:Inv X pins σ H s)(g:pT H a y o)(ry:RelV y u)(h:∀s',Inv X pins σ H s'->Q (.bool o.isSome) s') :
 wpAny (model X.prog X.w) A (compareOp .In u (.ref a)) Q E s:=by
 rcases g with⟨aA,k,e,ey,l⟩ | ⟨aA,k,b,e,ey,eb,l⟩
 .subst ey;obtain⟨z,hd,vs,rel,dd⟩:=tT I.hok e;refine wpAny_in_of (qG ry) hd dd.mapOf ?_;rw[<-(rel.val k).g_,<-l];exact h _ (I.tok _)
 .subst ey;cases(show u=Value.ref b from ry)
  obtain⟨z,hd,xs,rel,dd⟩:=vR I.hok e;refine wpAny_in_heap (tupleKind_room_in1 hu) (rQ I.hok eb) hd dd ?_;have q:=(rel.val k).g_;rw[Option.isSome_map] at q;rw[<-q,<-l];exact h _ (I.tok _)
theorem EV{Q:X_}(hu:A.units+1 < cLine)(I:Inv X pins σ H s)(g:pT H a y o)(ry:RelV y u)(h:∀s',Inv X pins σ H s'->Q (.bool (!o.isSome)) s') :
 wpAny (model X.prog X.w) A (compareOp .NotIn u (.ref a)) Q E s:=by
 rcases g with⟨aA,k,e,ey,l⟩ | ⟨aA,k,b,e,ey,eb,l⟩
 .subst ey;obtain⟨z,hd,vs,rel,dd⟩:=tT I.hok e;refine wpAny_notIn_of (qG ry) hd dd.mapOf ?_;rw[<-(rel.val k).g_,<-l];exact h _ (I.tok _)
 .subst ey;cases(show u=Value.ref b from ry)
  obtain⟨z,hd,xs,rel,dd⟩:=vR I.hok e;refine wpAny_notIn_heap (tupleKind_room_in1 hu) (rQ I.hok eb) hd dd ?_;have q:=(rel.val k).g_;rw[Option.isSome_map] at q;rw[<-q,<-l];exact h _ (I.tok _)
theorem zf{h':Heap}{t':Nat}{ob:HO}(I:Inv X pins σ H s)(mu:Mi (H a))(hs:Heap.SameBut a s.heap h')(he:∃q,h'.get? a=some q)(new:cR X.prog X.w (upd H a ob) h' a ob) :
 Inv X pins σ (upd H a ob) {s with heap:=h',toks:=t'}:=
 I.write (x:=a) (e:=a) mu (.inl rfl) (fun b q hb z=>(hs.2 b hb).trans z) he new
theorem Ju{H':Hp}{h':Heap}{aA:List (Key × V)}{vs:List (Key × Value)}(z:aA.length<=sizeLine)(hd:(a==sysModules)=false)(rel:KV aA vs)(dd:h'.DictOf (dE P w) a vs) :
 cR P w H' h' a (.dK aA):=⟨z,hd,vs,rel,dd⟩
theorem Ah{Q:Unit->Shared->Prop}(hu:A.units+1 < cLine)(I:Inv X pins σ H s)(g:Ao H a y v H')(ry:RelV y u)(rv:RelV v r)(h:∀s',Inv X pins σ H' s'->Q () s') :
 wpAny (model X.prog X.w) A (setItem (.ref a) u r) Q E s:=by
 rcases g with⟨aA,k,e,ey,l,eH⟩ | ⟨aA,k,b,e,ey,eb,l,eH⟩
 .subst ey eH;obtain⟨z,hd,vs,rel,dd⟩:=Lb I.hok e;have hz:vs.length<=sizeLine:=by rw[<-rel.length];exact z
  have hl:(putK aA k v).length<=sizeLine:=by have:=qI aA k v;omega
  refine wpAny_setItem_pairs (hsz:=hz) (qG ry) dd fun h' Nj hs=>h _ ?_
  have he:∃q,h'.get? a=some q:=let⟨q,_,_,hq,_⟩:=Nj;⟨q,hq⟩
  exact zf I (by rw[e];exact True.intro) hs he (Ju hl hd (rel.put k rv) Nj)
 .subst ey eH;cases(show u=Value.ref b from ry)
  obtain⟨z,hd,xs,rel,dd⟩:=LF I.hok e;have hz:xs.length<=sizeLine:=by rw[<-Paired.length rel];exact z
  have hl:(putK aA k v).length<=sizeLine:=by have:=qI aA k v;omega
  refine wpAny_setItem_heap (hsz:=hz) (tupleKind_room_in1 hu) (rQ I.hok eb) dd fun h' Nj hs=>h _ ?_
  obtain⟨q,es,ep,hq,h2,h3,h4,_,h5⟩:=Nj;refine zf I (by rw[e];exact True.intro) hs ⟨q,hq⟩ ⟨hl,hd,_,(rel.put k eb rv).keeps fun c ys ec=>?_,q,es,ep,hq,h2,h3,h4,h5⟩
  rw[aW (KS ec e (fun z=>nomatch z))]
  exact ec
end
section
variable {X:Cx} {pins:X9} {σ:St} {H:Hp} {s:Shared} {a:Addr} {aA:List (Key × V)} {k:Key} {u:Value} {A:Around} {E:X_}
theorem Mp{Q:X_}(I:Inv X pins σ H s)(e:Rd H a (.dK aA))(h:∀t s',Inv X pins σ H s'->Q (.int aA.length t) s'):wpAny (model X.prog X.w) A (call (.builtin "len") [.ref a]) Q E s:=by
 obtain⟨z,hd,vs,rel,dd⟩:=tT I.hok e;refine call_len_dict hd dd (by rw[<-rel.length];rw [sizeLine_eq] at z;omega) ?_
 rw[<-rel.length];exact h _ _ (I.tok _)
end
def EX(i:Expr):Prop:=∀ov iv,subscripted i false ov iv=operate [ov,iv] (getItem ov iv)
theorem yX{prog:Program}{w:World}{A:Around}{E:X_}{s:Shared}{env:Env}{value slice:Expr}{pos:Pos}{T id:String}{Q:X_}
 (hl:typeLookup (.type T) "__getitem__"=pure (some (.builtin id))) (hs:EX slice)
 (h:wpAny (model prog w) A (eval value env) (fun o s₁=>wpAny (model prog w) A (eval slice env) (fun i tR=>tR.TypeIs o T/\wpAny (model prog w) A (getItem o i) Q E tR) E s₁) E s) :
 wpAny (model prog w) A (eval (.Subscript value slice pos) env) Q E s:=by
 refine Subscript_ (wpAny_mono h (fun o s₁ n5=>wpAny_mono n5 (fun i tR J0=>?_) fun _ _ x=>x) fun _ _ x=>x)
 obtain⟨hT,J0⟩:=J0;unfold subscriptTail;refine wpAny_bind ?_;rw[getitemInPython_of_ne hT.not_modules];refine wpAny_bind (wpAny_specialOf hT hl ?_);have fin:wpAny (model prog w) A (subscripted slice false o i) (fun r Gz=>wpAny (model prog w) A (letTemporaryGo value o r >>=fun _=>pure r) Q E Gz) E tR:=by
  rw[hs o i];exact wpAny_operating (wpAny_mono J0 (fun r Gz Pu=>wpAny_bind (wpAny_letTemporaryGo (wpAny_pure Pu))) fun _ _ x=>x)
 first
  | exact wpAny_pure (wpAny_bind fin)
  | exact wpAny_bind (wpAny_pure (wpAny_bind fin))
  | exact wpAny_bind fin
theorem v8{X:Cx}{pins:X9}{s:Shared}{a:Addr}{y:V}{o:Option V}(I:Inv X pins σ H s)(g:pT H a y o):s.TypeIs (.ref a) "dict":=by
 rcases g with⟨aA,k,e,_,_⟩ | ⟨aA,k,b,e,_,_,_⟩
 .obtain⟨_,_,vs,_,dd⟩:=tT I.hok e;exact dd.typeIs
 .obtain⟨_,_,xs,_,dd⟩:=vR I.hok e;exact dd.typeIs
def LZ(td ty:TE):TE:=fun σ H Q=>td σ H fun x H1=>ty σ H1 fun y H2=>∃a v,x= .ref a/\pT H2 a y (some v)/\Q v H2
def Oi(ty td:TE):TE:=fun σ H Q=>ty σ H fun y H1=>td σ H1 fun x H2=>∃a o,x= .ref a/\pT H2 a y o/\Q (.bl o.isSome) H2
def Gy(ty td:TE):TE:=fun σ H Q=>ty σ H fun y H1=>td σ H1 fun x H2=>∃a o,x= .ref a/\pT H2 a y o/\Q (.bl (!o.isSome)) H2
def Mw(td ty tv:TE):TS:=fun D σ H=>tv σ H fun v H1=>td σ H1 fun x H2=>ty σ H2 fun y H3=>∃a H4,x= .ref a/\Ao H3 a y v H4/\D.nx σ H4
def RE(td ty tv:TE)(rd:V->V->Hp->VK->Prop):TS:=fun D σ H=>td σ H fun x H1=>ty σ H1 fun y H2=>∃a v,x= .ref a/\pT H2 a y (some v)/\
 tv σ H2 fun y2 H3=>rd v y2 H3 fun z H4=>∃H5,Ao H4 a y z H5/\D.nx σ H5
def RP(td ty:TE):TS:=fun D σ H=>td σ H fun x H1=>ty σ H1 fun y H2=>∃a aA k,x= .ref a/\H2 a=some (.dK aA)/\y=kV k/\(kx aA k).isSome=true/\D.nx σ (upd H2 a (.dK (BR aA k)))
section
variable {X:Cx} {o i e value:Expr} {pos pos' QR:Pos} {td ty tv:TE}
theorem EL(hu:X.A.units+1 < cLine)(ho:PE X o td)(hi:PE X i ty)(hs:EX i):PE X (.Subscript o i pos) (LZ td ty):=by
 intro pins s σ H Q I h;refine yX PySem.F.slot_dict_getitem.lookup hs (cU (ho pins s σ H _ I h) fun u s1 ⟨x,H1,I1,rx,q1⟩=>cU (hi pins s1 σ H1 _ I1 q1) fun iv s2 ⟨y,H2,I2,ry,a,v,ex,g,q2⟩=>?_)
 subst ex;obtain rfl:u=Value.ref a:=rx;exact⟨v8 I2 g,AU hu I2 g ry fun w' s3 I3 xb=>⟨v,H2,I3,xb,q2⟩⟩
theorem HD(hu:X.A.units+1 < cLine)(hi:PE X i ty)(ho:PE X o td):PC X .In i o (Oi ty td):=by
 intro pins s σ H Q I h;refine cU (hi pins s σ H _ I h) fun iv s1 ⟨y,H1,I1,ry,q1⟩=>cU (ho pins s1 σ H1 _ I1 q1) fun u s2 ⟨x,H2,I2,rx,a,ov,ex,g,q2⟩=>?_
 subst ex;obtain rfl:u=Value.ref a:=rx;exact Ol hu I2 g ry fun s3 I3=>⟨.bl ov.isSome,H2,I3,rfl,q2⟩
theorem Az(hu:X.A.units+1 < cLine)(hi:PE X i ty)(ho:PE X o td):PC X .NotIn i o (Gy ty td):=by
 intro pins s σ H Q I h;refine cU (hi pins s σ H _ I h) fun iv s1 ⟨y,H1,I1,ry,q1⟩=>cU (ho pins s1 σ H1 _ I1 q1) fun u s2 ⟨x,H2,I2,rx,a,ov,ex,g,q2⟩=>?_
 subst ex;obtain rfl:u=Value.ref a:=rx;exact EV hu I2 g ry fun s3 I3=>⟨.bl (!ov.isSome),H2,I3,rfl,q2⟩
theorem Ga(hu:X.A.units+1 < cLine)(ho:PE X o td)(hi:PE X i ty)(hv:PE X value tv)(hs:swapsWith value (some (.Subscript o i pos')) pos.line X.env=pure false) :
 PS X (.Assign [.Subscript o i pos'] value pos) (Mw td ty tv):=by
 intro pins s σ H D I h;refine wpAny_Assign_Subscript (cU (hv pins s σ H _ I h) fun r s1 ⟨v,H1,I1,rv,q1⟩=>cU (ho pins s1 σ H1 _ I1 q1) fun u s2 ⟨x,H2,I2,rx,q2⟩=>cU (hi pins s2 σ H2 _ I2 q2) fun iv s3 ⟨y,H3,I3,ry,a,H4,ex,g,q3⟩=>?_) hs
 subst ex;obtain rfl:u=Value.ref a:=rx;exact Ah hu I3 g ry rv fun s4 I4=>⟨σ,H4,I4,q3⟩
end
theorem B6(h:Heap)(hb:sysModules < h.objs.size):cR P w H (h.push {cls:= .type "dict",data:= .dict #[]}) h.objs.size (.dK []):=
 ⟨Nat.zero_le _,beq_eq_false_iff_ne.mpr (Ne.symm (Nat.ne_of_lt hb)),[], .nil,Heap.DictOf.new h⟩
def Iz:TE:=fun _ H Q=>∀p,H p=none->Q (.ref p) (upd H p (.dK []))
def NS:TE:=fun _ H Q=>∀p,H p=none->Q (.ref p) (upd H p (.dT []))
section
variable {X:Cx} {pos:Pos}
theorem DV:PE X (.Dict [] [] pos) Iz:=fun pins s σ H Q I h=>
 wpAny_Dict_empty ⟨.ref s.heap.objs.size,_,I.laid (a:=s.heap.objs.size) (o:= .dK []) (t':=s.toks) (fun _ _ q=>Heap.get?_push_of_some _ q) (Nat.le_refl _) (B6 s.heap I.big),rfl,h _ (I.hok.fresh (Nat.le_refl _))⟩
end
def vj:List (TE × TE)->St->Hp->(List (V × V)->Hp->Prop)->Prop
 | [],_,H,Q=>Q [] H
 | (tk,tv) ::r,σ,H,Q=>tk σ H fun x H1=>tv σ H1 fun y H2=>vj r σ H2 fun ps H3=>Q ((x,y) ::ps) H3
abbrev VV:List (V × V)->List (Value × Value)->Prop:=Paired fun p q=>RelV p.1 q.1/\RelV p.2 q.2
def U5(X:Cx)(pos:Pos)(keys:List (Option Expr))(values:List Expr)(KG:List (TE × TE)):Prop:=
 ∀(pins:X9) (s:Shared) (σ:St) (H:Hp) (Q:List (V × V)->Hp->Prop),Inv X pins σ H s->vj KG σ H Q->
  wpAny (model X.prog X.w) X.A (evalPairs (pairTrees keys values X.env pos)) (fun vs s'=>∃ps H',Inv X pins σ H' s'/\VV ps vs/\Q ps H') X.xe s
def DP(aA more:List (Key × V)):List (Key × V):=more.foldl (fun acc kv=>putK acc kv.1 kv.2) aA
def RI(KG:List (TE × TE)):TE:=fun σ H Q=>∀p,H p=none->vj KG σ (upd H p (.dK [])) fun ps H2=>H2 p=some (.dK [])/\∃aA:List (Key × V),ps=aA.map (fun kv=>(kV kv.1,kv.2))/\aA.length<=15/\Q (.ref p) (upd H2 p (.dK (DP [] aA)))
structure M1 (X:Cx) (o:Expr) (m:Str) (apos:Pos) (e:Expr) (bx:Pos):Prop where
 base:attributeBase o m X.env (eval o X.env)=eval o X.env
 few:((backTo bx (starEach [e] X.env)).all (fun x=>!x.1) && (backToKw bx (keywordEach [] X.env)).all (fun x=>x.1.isSome)
  && decide (([e]:List Expr).length+([]:List Keyword).length+(if([]:List Keyword).isEmpty then 0 else 1) < 30))=true
 line:(apos.endLine==bx.line)=true
 trees:backTo bx (starEach [e] X.env)=[(false,eval e X.env)]
structure M2 (X:Cx) (o:Expr) (m:Str) (apos:Pos) (e f:Expr) (bx:Pos):Prop where
 base:attributeBase o m X.env (eval o X.env)=eval o X.env
 few:((backTo bx (starEach [e,f] X.env)).all (fun x=>!x.1) && (backToKw bx (keywordEach [] X.env)).all (fun x=>x.1.isSome)
  && decide (([e,f]:List Expr).length+([]:List Keyword).length+(if([]:List Keyword).isEmpty then 0 else 1) < 30))=true
 line:(apos.endLine==bx.line)=true
 trees:backTo bx (starEach [e,f] X.env)=[(false,eval e X.env),(false,eval f X.env)]
def Nd(H:Hp)(a:Addr):Prop:=(∃aA,Rd H a (.dK aA))\/∃aA,Rd H a (.dT aA)
section
variable {X:Cx} {pins:X9} {σ:St} {H:Hp} {s:Shared} {a:Addr} {y d:V} {u r:Value} {o:Option V} {A:Around} {E:X_}
end
def N5(td ty:TE):TE:=fun σ H Q=>td σ H fun x H1=>∃a,x= .ref a/\Nd H1 a/\ty σ H1 fun y H2=>∃o,pT H2 a y o/\Q (o.getD .cu) H2
def Nr(td ty tx:TE):TE:=fun σ H Q=>td σ H fun x H1=>∃a,x= .ref a/\Nd H1 a/\ty σ H1 fun y H2=>tx σ H2 fun z H3=>∃o,pT H3 a y o/\Q (o.getD z) H3
def NJ(td ty:TE):TE:=fun σ H Q=>td σ H fun x H1=>∃a,x= .ref a/\Nd H1 a/\ty σ H1 fun y H2=>∃aA k v,H2 a=some (.dK aA)/\y=kV k/\kx aA k=some v/\Q v (upd H2 a (.dK (BR aA k)))
def NA(td ty tx:TE):TE:=fun σ H Q=>td σ H fun x H1=>∃a,x= .ref a/\Nd H1 a/\ty σ H1 fun y H2=>tx σ H2 fun z H3=>∃aA k,H3 a=some (.dK aA)/\y=kV k/\
 (∀v,kx aA k=some v->Q v (upd H3 a (.dK (BR aA k))))/\(kx aA k=none->Q z H3)
section
variable {X:Cx} {o e f:Expr} {apos bx:Pos} {td ty tx:TE}
end
section
variable {X:Cx} {pins:X9} {σ:St} {H:Hp} {s:Shared} {a:Addr} {aA:List (Key × V)} {A:Around} {E:X_}
end
section
variable {X:Cx} {pins:X9} {σ:St} {H:Hp} {s:Shared} {a:Addr} {y:V} {u:Value} {A:Around} {E:X_}
end
end L2
namespace HT
open PySem PyProof.Rows
def lexLt:List Int->List Int->Bool
 | [],[]=>false
 | [],_ ::_=>true
 | _ ::_,[]=>false
 | x ::xs,y ::ys=>if x=y then lexLt xs ys else decide (x < y)
section
open PySem.SeqAt
open PySem.AutoSeq1 (wpAny_loadPart')
open PySem.MeetsSeq PySem.MeetsSeq2 PySem.MeetsSeq3
end
section
variable {prog:Program} {w:World} {A:Around} {E:X_} {s:Shared}
def rm(n d:Nat):Option Int->Nat
 | none=>d
 | some v=>if v < 0 then(v+(n:Int)).toNat else min v.toNat n
theorem wQ(n d:Nat):rm n d none=d:=rfl
theorem zR(n d k:Nat):rm n d (some (k:Int))=min k n:=by
 show(if(k:Int) < 0 then((k:Int)+(n:Int)).toNat else min (k:Int).toNat n)=min k n
 rw[if_neg (by omega),Int.toNat_natCast]
end
end HT
namespace L2
open PySem PySem.Spec PyProof.Rows
abbrev TO:=St->Hp->(Option Int->Hp->Prop)->Prop
def PO(X:Cx)(e:Option Expr)(t:TO):Prop:=
 ∀(pins:X9) (s:Shared) (σ:St) (H:Hp) (Q:Option Int->Hp->Prop),Inv X pins σ H s->t σ H Q->
  wpAny (model X.prog X.w) X.A (evalPart e X.env) (fun u s'=>∃o H',Inv X pins σ H' s'/\IsPart u o/\Q o H') X.xe s
def EI:TO:=fun _ H Q=>Q none H
def Lz(t:TE):TO:=fun σ H Q=>t σ H fun x H1=>∃i,x= .int i/\Q (some i) H1
section
variable {X:Cx} {e:Expr} {te:TE} {lo hi:Option Expr} {tl th:TO} {pos p2:Pos}
theorem FJ:PO X none EI:=by
 intro pins s σ H Q I h;rw[evalPart_none];exact wpAny_pure ⟨none,H,I, .none,h⟩
theorem F3(h:PE X e te):PO X (some e) (Lz te):=by
 intro pins s σ H Q I hw;rw[evalPart_some];refine cU (h pins s σ H _ I hw) fun u s1 ⟨x,H1,I1,r1,q1⟩=>?_
 obtain⟨i,rfl,q⟩:=q1;obtain⟨t,rfl⟩:=r1;exact⟨some i,H1,I1, .int i t,q⟩
def Jn(X:Cx)(r:V->Option Int->Option Int->Hp->VK->Prop):Prop:=
 ∀(pins:X9) (s:Shared) (σ:St) (H:Hp) (x:V) (v vl vu:Value) (lo hi:Option Int) (sl:Addr) (Q:VK),Inv X pins σ H s->RelV x v->s.heap.IsSliceOf sl vl vu .none->IsPart vl lo->IsPart vu hi->r x lo hi H Q->
  ∃T id,typeLookup (.type T) "__getitem__"=pure (some (.builtin id))/\s.TypeIs v T/\wpAny (model X.prog X.w) X.A (getItem v (.ref sl)) (EP X pins σ Q) X.xe s
theorem Jn.or{r r':V->Option Int->Option Int->Hp->VK->Prop}(h:Jn X r)(h':Jn X r'):Jn X (fun x lo hi H Q=>r x lo hi H Q\/r' x lo hi H Q):=by
 intro pins s σ H x v vl vu lo hi sl Q I rx hs pl pu q;rcases q with q | q
 .exact h pins s σ H x v vl vu lo hi sl Q I rx hs pl pu q
 .exact h' pins s σ H x v vl vu lo hi sl Q I rx hs pl pu q
def U6(r:V->Option Int->Option Int->Hp->VK->Prop)(te:TE)(tl th:TO):TE:=fun σ H Q=>te σ H fun x H1=>tl σ H1 fun l H2=>th σ H2 fun u H3=>r x l u H3 Q
theorem Cs{r:V->Option Int->Option Int->Hp->VK->Prop}(hr:Jn X r)(he:PE X e te)(hl:PO X lo tl)(hu:PO X hi th):PE X (.Subscript e (.Slice lo hi none p2) pos) (U6 r te tl th):=by
 intro pins s σ H Q I h;refine Subscript_ (cU (he pins s σ H _ I h) fun v s1 ⟨x,H1,I1,r1,q1⟩=>?_)
 refine wpAny_Slice (cU (hl pins s1 σ H1 _ I1 q1) fun vl s2 ⟨l,H2,I2,pl,q2⟩=>cU (hu pins s2 σ H2 _ I2 q2) fun vu s3 ⟨u,H3,I3,pu,q3⟩=>?_)
 rw[evalPart_none];refine wpAny_pure ?_;have I4:Inv X pins σ H3 {s3 with heap:=s3.heap.push {cls:= .type "slice",data:= .fields #[vl,vu, .none]}}:=I3.kept (t':=s3.toks) fun b ob q=>Heap.get?_push_of_some _ q
 obtain⟨T,id,hT,ht,hg⟩:=hr pins {s3 with heap:=s3.heap.push {cls:= .type "slice",data:= .fields #[vl,vu, .none]}} σ H3 x v vl vu l u s3.heap.objs.size Q I4 r1 (Heap.IsSliceOf.new ..) pl pu q3
 show wpAny (model X.prog X.w) X.A (subscriptTail e (.Slice lo hi none p2) v (.ref s3.heap.objs.size)) (EP X pins σ Q) X.xe {s3 with heap:=s3.heap.push {cls:= .type "slice",data:= .fields #[vl,vu, .none]}}
 exact tail_any (ops:=[.ref s3.heap.objs.size,v]) ht hT hg (by with_unfolding_all rfl)
def x8(xs:List V)(lo hi:Option Int):List V:=(xs.drop (HT.rm xs.length 0 lo)).take (HT.rm xs.length xs.length hi - HT.rm xs.length 0 lo)
theorem wU(xs:List V)(lo hi:Option Int):(x8 xs lo hi).length<=xs.length:=by
 unfold x8;rw[List.length_take,List.length_drop];omega
def Th(K:W.Frag):V->Option Int->Option Int->Hp->VK->Prop:=fun x lo hi H Q=>∃a xs,x= .ref a/\qp K H a xs/\
 ¬(HT.rm xs.length 0 lo=0/\HT.rm xs.length xs.length hi=xs.length)/\∀p,H p=none->Q (.ref p) (upd H p (.tup (x8 xs lo hi)))
def U7(K:W.Frag):R2:=fun x y H Q=>∃a b ns ms,x= .ref a/\y= .ref b/\qp K H a (ns.map V.int)/\qp K H b (ms.map V.int)/\Q (.bl (HT.lexLt ns ms)) H
def RX(K:W.Frag):R2:=fun x y H Q=>∃a b xs ys,x= .ref a/\y= .ref b/\qp K H a xs/\qp K H b ys/\xs≠[]/\xs.length+ys.length<=sizeLine/\
 (ys=[]->Q (.ref a) H)/\(ys≠[]->∀p,H p=none->Q (.ref p) (upd H p (.tup (xs++ys))))
end
def DK(n:Nat)(i:Int):Option Nat:=if 0<=i then(if i < n then some i.toNat else none) else if -(n:Int)<=i then some (i+n).toNat else none
def uA{α:Type}(xs:List α)(i:Int):Option α:=(DK xs.length i).bind fun j=>xs[j]?
theorem F6{n:Nat}{i:Int}{j:Nat}(h:DK n i=some j):seqIndex? i n=some j/\j < n/\ -(n:Int)<=i/\i < n:=by
 unfold DK at h;by_cases h0:0<=i
 .rw [if_pos h0] at h;by_cases h1:i < n
  .rw [if_pos h1] at h;have e:i.toNat=j:=Option.some.inj h;exact⟨by rw[seqIndex_of h0 h1,e],by omega,by omega,h1⟩
  .rw [if_neg h1] at h;cases h
 .rw [if_neg h0] at h;by_cases h1: -(n:Int)<=i
  .rw [if_pos h1] at h;have e:(i+n).toNat=j:=Option.some.inj h;exact⟨by rw[seqIndex_neg (by omega) h1,e],by omega,h1,by omega⟩
  .rw [if_neg h1] at h;cases h
theorem uL{α:Type}{xs:List α}{i:Int}{v:α}(h:uA xs i=some v):∃j,seqIndex? i xs.length=some j/\xs[j]? =some v/\j < xs.length/\ -(xs.length:Int)<=i/\i < xs.length:=by
 unfold uA at h;cases e:DK xs.length i with
 | none=>rw [e] at h;cases h
 | some j=>
   rw[e] at h;obtain⟨h1,h2,h3,h4⟩:=F6 e;exact⟨j,h1,h,h2,h3,h4⟩
def uO(b:Expr):Prop:=∀o i,subscripted b false o i=operate [o,i] (getItem o i)
def FW(X:Cx)(r:R2):Prop:=
 ∀(value slice:Expr) (pins:X9) (s:Shared) (σ:St) (H:Hp) (x y:V) (v u:Value) (Q:VK),Inv X pins σ H s->RelV x v->RelV y u->r x y H Q->
  subscripted slice false v u=operate [v,u] (getItem v u)->wpAny (model X.prog X.w) X.A (subscriptTail value slice v u) (EP X pins σ Q) X.xe s
def RL(X:Cx)(id:String)(r:V->List V->Hp->VK->Prop):Prop:=
 ∀(pins:X9) (s:Shared) (σ:St) (H:Hp) (x:V) (xs:List V) (v:Value) (us:List Value) (Q:VK),Inv X pins σ H s->RelV x v->Vals xs us->r x xs H Q->
  wpAny (model X.prog X.w) X.A (call (.builtin id) (v ::us)) (EP X pins σ Q) X.xe s
section
variable {X:Cx} {a b:Expr} {ta tb:TE} {pos:Pos}
theorem FW.or{r r':R2}(h:FW X r)(h':FW X r'):FW X (fun x y H Q=>r x y H Q\/r' x y H Q):=by
 intro value slice pins s σ H x y v u Q I rx ry q hs;rcases q with q | q
 .exact h value slice pins s σ H x y v u Q I rx ry q hs
 .exact h' value slice pins s σ H x y v u Q I rx ry q hs
theorem KJ{r:R2}(hr:FW X r)(ha:PE X a ta)(hb:PE X b tb)(hs:uO b):PE X (.Subscript a b pos) (Km r ta tb):=by
 intro pins s σ H Q I h;exact Subscript_ (Ij ha hb I h fun v u s2 x y H2 I2 rx ry q=>hr a b pins s2 σ H2 x y v u Q I2 rx ry q (hs _ _))
def Mr(K:W.Frag):R2:=fun x y H Q=>∃p xs i v,x= .ref p/\y= .int i/\nX K H p xs/\uA xs i=some v/\Q v H
def Lg(K:W.Frag):R2:=fun x y H Q=>∃p xs i v,x= .ref p/\y= .int i/\qp K H p xs/\uA xs i=some v/\Q v H
def LY:R2:=fun x y H Q=>∃z i c,x= .str z/\y= .int i/\z.length<=sizeLine/\uA z.cps.toList i=some c/\Q (.str ⟨#[c]⟩) H
theorem Fy:FW X (Mr X.K):=by
 intro value slice pins s σ H x y v u Q I rx ry h hs;obtain⟨p,xs,i,z,rfl,rfl,hq,he,q⟩:=h;cases rx;obtain⟨t,rfl⟩:=ry;obtain⟨its,r,pl,hz⟩:=I.list hq;obtain⟨j,h1,h2,h3,h4,h5⟩:=uL he;obtain⟨w,ew,xb⟩:=r.get h2;have hl:=r.length;have hn:=p9;have fin:EP X pins σ Q w s:=⟨z,H,I,xb,q⟩;by_cases h0:0<=i
 .have hj:i.toNat=j:=by
   rw[seqIndex_of h0 h5] at h1;exact Option.some.inj h1
  exact item_listR pl.isList h0 (by omega) (by rw[hj];simpa using ew) fin hs
 .have hj:(i+(its.toArray.size:Int)).toNat=j:=by
   rw[seqIndex_neg (by omega) h4] at h1
   rw[List.size_toArray,<-hl];exact Option.some.inj h1
  exact subscriptTail_builtinR (x:=w) pl.isList.typeIs slot_list_getitem.lookup
   (wpAny_getItem_list_neg (Q:=fun r s'=>r=w/\EP X pins σ Q r s') pl.isList (by omega) (by rw[List.size_toArray] <;> omega) (by omega) (by rw[hj];simpa using ew) ⟨rfl,fin⟩) hs
theorem IH:FW X (Lg X.K):=by
 intro value slice pins s σ H x y v u Q I rx ry h hs;obtain⟨p,xs,i,z,rfl,rfl,hq,he,q⟩:=h;cases rx;obtain⟨t,rfl⟩:=ry;obtain⟨its,r,pl,hz⟩:=I.tuple hq;obtain⟨j,h1,h2,h3,h4,h5⟩:=uL he;obtain⟨w,ew,xb⟩:=r.get h2;have hl:=r.length;have hn:=p9;have fin:EP X pins σ Q w s:=⟨z,H,I,xb,q⟩;exact subscriptTail_builtinR (x:=w) pl.typeIs slot_tuple_getitem.lookup
  (getItem_tuple (j:=j) (Q:=fun r s'=>r=w/\EP X pins σ Q r s') pl (by omega) (by omega) (by rw[List.size_toArray,<-hl];exact h1) (by simpa using ew) ⟨rfl,fin⟩) hs
theorem Ii:FW X LY:=by
 intro value slice pins s σ H x y v u Q I rx ry h hs;obtain⟨z,i,c,rfl,rfl,hz,he,q⟩:=h;obtain⟨t,rfl⟩:=rx;obtain⟨t',rfl⟩:=ry;obtain⟨j,h1,h2,h3,h4,h5⟩:=uL he;have hl:z.cps.toList.length=z.length:=by simp [Str.length]
 rw[hl] at h1 h4 h5;have hn:=p9;exact tail_any (typeIs_str s z t) slot_str_getitem.lookup (getItem_str (c:=c) (by
  have e1:decide (i < -(2 ^ 63:Int))=false:=decide_eq_false (by omega)
  have e2:decide (i>=2 ^ 63)=false:=decide_eq_false (by omega)
  rw[e1,e2,Bool.or_false]) (by rw[h1];simpa using h2) ⟨.str ⟨#[c]⟩,H,I.tok _,⟨_,rfl⟩,q⟩) hs
def Rk(K:W.Frag):R2:=fun x y H Q=>Mr K x y H Q\/Lg K x y H Q\/LY x y H Q
theorem Ja:FW X (Rk X.K):=Fy.or (IH.or Ii)
def Q7:V->V->V->Hp->(Hp->Prop)->Prop:=fun o i v H Q=>∃p xs k j,o= .ref p/\i= .int k/\H p=some (.lst xs)/\DK xs.length k=some j/\Q (upd H p (.lst (xs.set j v)))
theorem uC(lo hi:Option Int)(n:Nat):(sliceBounds lo hi none n).1=((HT.rm n 0 lo:Nat):Int)/\(sliceBounds lo hi none n).2.1=((HT.rm n n hi:Nat):Int)/\(sliceBounds lo hi none n).2.2=1:=by
 refine⟨?_,?_,rfl⟩
 .cases lo with
  | none=>simp [sliceBounds,HT.rm]
  | some i=>
    simp only[sliceBounds,HT.rm,Option.getD_none,show(1:Int) > 0 by decide,if_true]
    by_cases h:i < 0
    .simp only[h,if_true] <;> omega
    .simp only[h,if_false] <;> omega
 .cases hi with
  | none=>simp [sliceBounds,HT.rm]
  | some i=>
    simp only[sliceBounds,HT.rm,Option.getD_none,show(1:Int) > 0 by decide,if_true]
    by_cases h:i < 0
    .simp only[h,if_true] <;> omega
    .simp only[h,if_false] <;> omega
theorem tM(its:List Value)(lo hi:Option Int):slicePick its.toArray lo hi none=((its.drop (HT.rm its.length 0 lo)).take (HT.rm its.length its.length hi - HT.rm its.length 0 lo)).toArray:=by
 obtain⟨h1,h2,h3⟩:=uC lo hi its.toArray.size;unfold slicePick;rw[h1,h2,h3];simp only[sliceRange_one,pick_run,List.size_toArray] <;> rfl
def N7(K:W.Frag):V->Option Int->Option Int->Hp->VK->Prop:=fun x lo hi H Q=>∃a xs,x= .ref a/\nX K H a xs/\∀p,H p=none->Q (.ref p) (upd H p (.lst (x8 xs lo hi)))
theorem Ge:Jn X (N7 X.K):=by
 intro pins s σ H x v vl vu lo hi sl Q I rx hs pl pu h;obtain⟨a,xs,rfl,hx,q⟩:=h;cases rx;obtain⟨its,r,ht,hz⟩:=I.list hx;have hlen:=r.length;refine⟨"list",_,slot_list_getitem.lookup,ht.isList.typeIs,?_⟩;refine wpAny_getItem_list_slice ht.isList hs pl pu .none (by simp) ?_ (by rw[List.size_toArray] <;> omega)
 rw[tM,<-hlen];refine⟨.ref s.heap.objs.size,_,I.laid (t':=s.toks) (o:= .lst (x8 xs lo hi)) (fun b ob q=>Heap.get?_push_of_some _ q) (Nat.le_refl _) ?_,rfl,q _ (I.hok.fresh (Nat.le_refl _))⟩
 exact⟨Nat.le_trans (wU xs lo hi) hz,_,0,(r.drop (HT.rm xs.length 0 lo)).take (HT.rm xs.length xs.length hi - HT.rm xs.length 0 lo),Heap.get?_push_size _ rfl⟩
def kE:V->Bool
 | .cu=>true
 | .bl _=>true
 | .int _=>true
 | .str _=>true
 | _=>false
def Gx:V->V->Bool
 | .cu, .cu=>true
 | .bl a, .bl b=>a==b
 | .bl a, .int b=>(if a then 1 else 0)==b
 | .int a, .bl b=>a==(if b then 1 else 0)
 | .int a, .int b=>a==b
 | .str a, .str b=>a==b
 | _,_=>false
theorem Hm{s:Shared}{y x:V}{u v:Value}(ry:RelV y u)(rx:RelV x v)(fy:kE y=true)(fx:kE x=true):SeqAt.EqAt A s u v (Gx y x):=by
 cases y with
 | cu=>
   cases ry;cases x with
   | cu=>cases rx;exact SeqAt.EqAt.same _
   | bl b=>cases rx;exact SeqAt.EqAt.none_bool b
   | int b=>obtain⟨t,rfl⟩:=rx;exact SeqAt.EqAt.none_int b t
   | str b=>obtain⟨t,rfl⟩:=rx;exact SeqAt.EqAt.none_str b t
   | _=>exact absurd (show false=true from fx) Bool.false_ne_true
 | bl a=>
   cases ry;cases x with
   | cu=>cases rx;exact SeqAt.EqAt.bool_none a
   | bl b=>cases rx;exact SeqAt.EqAt.bool_bool a b
   | int b=>obtain⟨t,rfl⟩:=rx;exact SeqAt.EqAt.bool_int a b t
   | str b=>obtain⟨t,rfl⟩:=rx;exact SeqAt.EqAt.bool_str a b t
   | _=>exact absurd (show false=true from fx) Bool.false_ne_true
 | int a=>
   obtain⟨t',rfl⟩:=ry;cases x with
   | cu=>cases rx;exact SeqAt.EqAt.int_none a t'
   | bl b=>cases rx;exact SeqAt.EqAt.int_bool a t' b
   | int b=>obtain⟨t,rfl⟩:=rx;exact SeqAt.EqAt.int_int a t' b t
   | str b=>obtain⟨t,rfl⟩:=rx;exact SeqAt.EqAt.int_str a t' b t
   | _=>exact absurd (show false=true from fx) Bool.false_ne_true
 | str a=>
   obtain⟨t',rfl⟩:=ry;cases x with
   | cu=>cases rx;exact SeqAt.EqAt.str_none a t'
   | bl b=>cases rx;exact SeqAt.EqAt.str_bool a t' b
   | int b=>obtain⟨t,rfl⟩:=rx;exact SeqAt.EqAt.str_int a t' b t
   | str b=>obtain⟨t,rfl⟩:=rx;exact SeqAt.EqAt.str_str a t' b t
   | _=>exact absurd (show false=true from fx) Bool.false_ne_true
 | _=>exact absurd (show false=true from fy) Bool.false_ne_true
def vx(x:V)(u:Value):Bool:=match u with
 | .none=>Gx .cu x
 | .bool b=>Gx (.bl b) x
 | .int i _=>Gx (.int i) x
 | .str z _=>Gx (.str z) x
 | _=>false
theorem yb{x y:V}{u:Value}(r:RelV y u)(f:kE y=true):vx x u=Gx y x:=by
 cases y with
 | cu=>cases r;rfl
 | bl b=>cases r;rfl
 | int i=>obtain⟨t,rfl⟩:=r;rfl
 | str z=>obtain⟨t,rfl⟩:=r;rfl
 | _=>exact absurd (show false=true from f) Bool.false_ne_true
theorem pN{x:V}:∀{xs:List V} {us:List Value},Vals xs us->xs.all kE=true->us.any (vx x)=xs.any fun y=>Gx y x
 | _,_, .nil,_=>rfl
 | y ::xs,u ::us, .cons r t,f=>by
   rw[List.all_cons,Bool.and_eq_true] at f;rw[List.any_cons,List.any_cons,yb r f.1,pN t f.2]
theorem ll{s:Shared}{x:V}{v:Value}(rx:RelV x v)(fx:kE x=true):∀{xs:List V} {us:List Value},Vals xs us->xs.all kE=true->∀u∈us,SeqAt.EqAt A s u v (vx x u)
 | _,_, .nil,_=>fun u hu=>by cases hu
 | y ::xs,u ::us, .cons r t,f=>fun u' hu=>by
   rw[List.all_cons,Bool.and_eq_true] at f;rcases List.mem_cons.mp hu with rfl | hu
   .rw [yb r f.1];exact Hm r rx f.1 fx
   .exact ll rx fx t f.2 u' hu
def GP(x:V)(xs:List V):Bool:=xs.any fun y=>Gx y x
def OW(K:W.Frag)(neg:Bool):R2:=fun x y H Q=>∃p xs,y= .ref p/\(nX K H p xs\/qp K H p xs)/\kE x=true/\xs.all kE=true/\Q (.bl (if neg then !GP x xs else GP x xs)) H
theorem z6:m3 X (compareOp .In) (OW X.K false):=by
 intro pins s σ H x y v u Q I rx ry h;obtain⟨p,xs,rfl,hq,fx,fs,q⟩:=h;cases ry;rcases hq with hq | hq
 .obtain⟨its,r,pl,hz⟩:=I.list hq;refine SeqAt.in_listAt (vx x) pl.isList (fun w hw=>ll rx fx r fs w (by simpa using hw)) ⟨.bl _,H,I,rfl,?_⟩
  rw[show its.toArray.any (vx x)=its.any (vx x) by simp,pN r fs]
  exact q
 .obtain⟨its,r,pl,hz⟩:=I.tuple hq;refine SeqAt.in_tupleAt (vx x) pl (fun w hw=>ll rx fx r fs w (by simpa using hw)) ⟨.bl _,H,I,rfl,?_⟩
  rw[show its.toArray.any (vx x)=its.any (vx x) by simp,pN r fs]
  exact q
theorem uI:m3 X (compareOp .NotIn) (OW X.K true):=by
 intro pins s σ H x y v u Q I rx ry h;obtain⟨p,xs,rfl,hq,fx,fs,q⟩:=h;cases ry;rcases hq with hq | hq
 .obtain⟨its,r,pl,hz⟩:=I.list hq;refine SeqAt.notIn_listAt (vx x) pl.isList (fun w hw=>ll rx fx r fs w (by simpa using hw)) ⟨.bl _,H,I,rfl,?_⟩
  rw[show its.toArray.any (vx x)=its.any (vx x) by simp,pN r fs]
  exact q
 .obtain⟨its,r,pl,hz⟩:=I.tuple hq;refine SeqAt.notIn_tupleAt (vx x) pl (fun w hw=>ll rx fx r fs w (by simpa using hw)) ⟨.bl _,H,I,rfl,?_⟩
  rw[show its.toArray.any (vx x)=its.any (vx x) by simp,pN r fs]
  exact q
theorem vd:jS X (.builtin "len") (fun xs H Q=>∃p ys,xs=[.ref p]/\(nX X.K H p ys\/qp X.K H p ys)/\Q (.int ys.length) H):=by
 intro pins s σ H xs us Q I r h;obtain⟨p,ys,rfl,hq,q⟩:=h;obtain⟨u,rfl,rx⟩:=vals1 r;cases rx;have hn:=p9;rcases hq with hq | hq
 .obtain⟨its,r',pl,hz⟩:=I.list hq;have hlen:=r'.length;exact Calls.call_len_list pl.isList (by simp only[List.size_toArray] <;> omega) ⟨.int ys.length,H,I.tok _,⟨s.toks+1,by rw[List.size_toArray,hlen]⟩,q⟩
 .obtain⟨its,r',pl,hz⟩:=I.tuple hq;have hlen:=r'.length;exact len_tuple pl (by simp only[List.size_toArray] <;> omega) ⟨.int ys.length,H,I.tok _,⟨s.toks+1,by rw[List.size_toArray,hlen]⟩,q⟩
theorem tF:jS X (.type "tuple") (fun xs H Q=>∃p ys,xs=[.ref p]/\((nX X.K H p ys/\∀l,H l=none->Q (.ref l) (upd H l (.tup ys)))\/(qp X.K H p ys/\Q (.ref p) H))):=by
 intro pins s σ H xs us Q I r h;obtain⟨p,ys,rfl,h⟩:=h;obtain⟨u,rfl,rx⟩:=vals1 r;cases rx;rcases h with⟨hq,q⟩ | ⟨hq,q⟩
 .obtain⟨its,r',pl,hz⟩:=I.list hq;have hlen:=r'.length;refine call_tuple_list pl.isList (fun h' kp=>?_) (by simp only[List.size_toArray] <;> omega)
  have I1:Inv X pins σ H {s with heap:=h'}:=I.kept (t':=s.toks) kp
  have I2:Inv X pins σ (upd H h'.objs.size (.tup ys)) {s with heap:=h'.push {cls:= .type "tuple",data:= .seq its.toArray}}:=
   I1.laid (t':=s.toks) (fun b o e=>Heap.get?_push_of_some _ e) (Nat.le_refl _) (show cR X.prog X.w _ _ _ (.tup ys) from⟨hz,its,r',IsTup.new _ _⟩)
  exact⟨.ref h'.objs.size,_,I2,rfl,q _ (I1.hok.fresh (Nat.le_refl _))⟩
 .obtain⟨its,r',pl,hz⟩:=I.tuple hq;exact call_tuple_same pl ⟨.ref p,H,I,rfl,q⟩
def OQ(K:W.Frag)(T:String)(x:V)(H:Hp):Prop:=match x with
 | .str _=>T="str"
 | .int _=>T="int"
 | .ref p=>(T="list"/\∃xs,nX K H p xs)\/(T="tuple"/\∃o,K.lookup p=some o/\o.cls= .type "tuple"/\o.dict=none)\/
    (T="dict"/\((∃aA,H p=some (.dK aA))\/∃aA,H p=some (.dT aA)))\/(T="set"/\∃S n,H p=some (.set S n))
 | _=>False
theorem IB{pins:X9}{s:Shared}{T:String}{x:V}{v:Value}(I:Inv X pins σ H s)(r:RelV x v)(ty:OQ X.K T x H) :
 s.TypeIs v T/\∀a,v= .ref a->∃ob,s.heap.get? a=some ob/\ob.dict=none:=by
 cases x with
 | str z=>
   obtain⟨t,rfl⟩:=r;cases(show T="str" from ty)
   exact⟨typeIs_str s z t,fun _ e=>nomatch e⟩
 | int i=>
   obtain⟨t,rfl⟩:=r;cases(show T="int" from ty)
   exact⟨typeIs_int s i t,fun _ e=>nomatch e⟩
 | ref p=>
   cases r;rcases ty with⟨rfl,xs,hq⟩ | ⟨rfl,o,hk,hc,hd⟩ | ⟨rfl,hk⟩ | ⟨rfl,S,n,hk⟩
   .obtain⟨its,_,pl,_⟩:=I.list hq;refine⟨pl.isList.typeIs,fun a e=>?_⟩
    cases e;obtain⟨o,n,e,c,hd,_⟩:=pl;exact⟨o,e,hd⟩
   .refine⟨⟨o,I.nZ p o hk,hc⟩,fun a e=>?_⟩
    cases e;exact⟨o,I.nZ _ o hk,hd⟩
   .have z:∃o,s.heap.get? p=some o/\o.ExactDict:=by
     rcases hk with⟨aA,hk⟩ | ⟨aA,hk⟩
     .obtain⟨_,_,_,_,o,_,_,e,ex,_⟩:=I.hok p _ hk;exact⟨o,e,ex⟩
     .obtain⟨_,_,_,_,o,_,_,e,ex,_⟩:=I.hok p _ hk;exact⟨o,e,ex⟩
    obtain⟨o,e,ex⟩:=z;refine⟨⟨o,e,ex.1⟩,fun a e2=>?_⟩
    cases e2;exact⟨o,e,ex.2.1⟩
   .obtain⟨o,_,_,_,e,ex,_⟩:=I.hok p _ hk;refine⟨⟨o,e,ex.1⟩,fun a e2=>?_⟩
    cases e2;exact⟨o,e,ex.2.1⟩
 | _=>exact False.elim ty
def S_(K:W.Frag)(T:String)(r:V->List V->Hp->VK->Prop)(to:TE):TE:=fun σ H Q=>to σ H fun x H1=>OQ K T x H1/\r x [] H1 Q
def T5(K:W.Frag)(T:String)(r:V->List V->Hp->VK->Prop)(to:TE)(t:TA):TE:=fun σ H Q=>to σ H fun x H1=>OQ K T x H1/\t σ H1 fun xs H2=>r x xs H2 Q
variable {o e:Expr} {es:List Expr} {to:TE} {t:TA} {name:Str} {apos bx:Pos} {T id:String} {r:V->List V->Hp->VK->Prop}
theorem BF(pa:PlainAttrs T)(slot:Slot T name id)(Er:typeOf (.builtin id)=pure (.type "method_descriptor"))(hm:RL X id r)(ho:PE X o to)(ha:PA X (e ::es) t)
 (i0:attributeBase o name X.env (eval o X.env)=eval o X.env:=by rfl)
 (mm:((backTo bx (starEach (e ::es) X.env)).all (fun x=>!x.1) && (backToKw bx (keywordEach [] X.env)).all (fun x=>x.1.isSome)
   && decide ((e ::es).length+([]:List Keyword).length+(if([]:List Keyword).isEmpty then 0 else 1) < 30))=true:=by rfl)
 (i3:(apos.endLine==bx.line)=true:=by rfl) (hs:starEach (e ::es) X.env=(false,eval e X.env) ::starEach es X.env:=by rfl) (yF:(backTo bx (starEach es X.env)).any (·.1)=false:=by rfl) :
 PE X (.Call (.Attribute o name apos) (e ::es) [] bx) (T5 X.K T r to t):=by
 intro pins s σ H Q I h;refine wpAny_Call_method_late i0 mm i3 rfl (cU (ho pins s σ H _ I h) fun v s1 ⟨x,H1,I1,r1,ty,q1⟩=>?_)
 obtain⟨h1,h2⟩:=IB I1 r1 ty;refine⟨T,id,pa,slot,Er,h1,h2,?_⟩;have hA:=ha bx pins s1 σ H1 _ I1 q1;rw[hs] at hA ⊢;refine Calls.callWith_builtin (by show(false || (backTo bx (starEach es X.env)).any (·.1))=false;rw [yF] <;> rfl) (Calls.evalArgs_plain ?_)
 exact cU hA fun us s2 ⟨vs,H2,I2,r2,q2⟩=>hm pins s2 σ H2 x vs v us Q I2 r1 r2 q2
end
def Vq(X:Cx)(id:String)(r:V->List V->Hp->VK->Prop):Prop:=
 ∀(pins:X9) (s:Shared) (σ:St) (H:Hp) (x:V) (xs:List V) (v:Value) (us:List Value) (Q:VK),Inv X pins σ H s->RelV x v->Vals xs us->r x xs H Q->
  wpAny (model X.prog X.w) X.A (call (.builtin id) (v ::us)) (EP X pins σ Q) X.xe s
theorem Vals.one:∀{x:V} {us:List Value},Vals [x] us->∃u,us=[u]/\RelV x u
 | _,_, .cons r .nil=>⟨_,rfl,r⟩
section
variable {X:Cx} {pins:X9} {σ:St} {H:Hp} {s:Shared} {l b:Addr} {xs ys zs:List V}
theorem Inv.OR{its its':List Value}{n:Nat}{f:Array Value->Array Value}{t':Nat}(I:Inv X pins σ H s)(hH:H l=some (.lst xs))
 (e:s.heap.get? l=some {cls:= .type "list",data:= .seq its.toArray n}) (hf:f its.toArray=its'.toArray) (hv:Vals ys its') (hz:ys.length<=sizeLine) :
 Inv X pins σ (upd H l (.lst ys)) {s with heap:=s.heap.update l (Obj.mapSeq f),toks:=t'}:=by
 have q:=PySem.IsL.update e f;rw[hf] at q;refine I.write (x:=l) (e:=l) (by rw[hH];exact trivial) (.inl rfl) (fun b' u hb hu=>(Heap.get?_update_other s.heap (Obj.mapSeq f) (Ne.symm hb)).trans hu) ⟨_,q⟩ ?_
 exact⟨hz,its',_,hv,q⟩
theorem Inv.IW{its:List Value}{t':Nat}(I:Inv X pins σ H s)(hv:Vals ys its)(hz:ys.length<=sizeLine) :
 Inv X pins σ (upd H s.heap.objs.size (.lst ys)) {s with heap:=s.heap.push {cls:= .type "list",data:= .seq its.toArray},toks:=t'}:=
 I.laid (fun _ _ q=>Heap.get?_push_of_some _ q) (Nat.le_refl _) ⟨hz,its,0,hv,Heap.get?_push_size _ rfl⟩
theorem Inv.fresh(I:Inv X pins σ H s):H s.heap.objs.size=none:=I.hok.fresh (Nat.le_refl _)
theorem Inv.OV(I:Inv X pins σ H s)(hH:H l=some (.lst xs)):xs.length<=sizeLine/\∃(its:List Value) (n:Nat),Vals xs its/\xs.length=its.length/\s.heap.get? l=some {cls:= .type "list",data:= .seq its.toArray n}:=by
 obtain⟨z,its,n,r,e⟩:=I.hok l _ hH;exact⟨z,its,n,r,r.length,e⟩
end
section
variable {X:Cx}
def EN:V->List V->Hp->VK->Prop:=fun x vs H Q=>∃l xs y,x= .ref l/\vs=[y]/\H l=some (.lst xs)/\xs.length < sizeLine/\Q .cu (upd H l (.lst (xs++[y])))
theorem pZ:Vq X "list.append" EN:=by
 intro pins s σ H x vs v us Q I rx rv h;obtain⟨l,xs,y,rfl,rfl,hH,hz,q⟩:=h;cases rx;obtain⟨u,rfl,ru⟩:=rv.one;obtain⟨z,its,n,r,hl,e⟩:=I.OV hH;refine call_meets F.slot_list_append ⟨_,e,rfl⟩ F.entry_list_append (F.args_list_append_2 _ _) (PySem.list_append l its.toArray n u (by rw[List.size_toArray];omega)) ⟨e,?_⟩
 refine⟨.cu,_,I.OR (its':=its++[u]) hH e (by simp) (r.append (.cons ru .nil)) ?_,rfl,q⟩
 rw[List.length_append,List.length_singleton];omega
def Nf:V->List V->Hp->VK->Prop:=fun x vs H Q=>∃l b xs zs,x= .ref l/\vs=[.ref b]/\H l=some (.lst xs)/\H b=some (.lst zs)/\xs.length+zs.length<=sizeLine/\Q .cu (upd H l (.lst (xs++zs)))
def UA:V->List V->Hp->VK->Prop:=fun x vs H Q=>∃l xs y,x= .ref l/\vs=[]/\H l=some (.lst xs)/\xs[xs.length - 1]? =some y/\Q y (upd H l (.lst xs.dropLast))
def OB:V->List V->Hp->VK->Prop:=fun x vs H Q=>∃l xs i k y,x= .ref l/\vs=[.int i]/\H l=some (.lst xs)/\ -(2 ^ 63)<=i/\i < 2 ^ 63/\seqIndex? i xs.length=some k/\xs[k]? =some y/\Q y (upd H l (.lst (xs.eraseIdx k)))
def Le:V->List V->Hp->VK->Prop:=fun x vs H Q=>∃l xs,x= .ref l/\vs=[]/\H l=some (.lst xs)/\Q .cu (upd H l (.lst xs.reverse))
def O1:V->List V->Hp->VK->Prop:=fun x vs H Q=>∃l xs,x= .ref l/\vs=[]/\H l=some (.lst xs)/\Q .cu (upd H l (.lst []))
def Uw:R2:=fun x y H Q=>∃l b xs zs,x= .ref l/\y= .ref b/\H l=some (.lst xs)/\H b=some (.lst zs)/\xs.length+zs.length<=sizeLine/\∀p,H p=none->Q (.ref p) (upd H p (.lst (xs++zs)))
def Va:R2:=fun x y H Q=>∃l k xs,x= .ref l/\y= .int k/\H l=some (.lst xs)/\ -(2 ^ 63)<=k/\k < 2 ^ 63/\xs.length*k.toNat<=sizeLine/\
 ∀p,H p=none->Q (.ref p) (upd H p (.lst (List.replicate k.toNat xs).flatten))
end
section
variable {prog:Program} {w:World} {A:Around} {E:X_} {s:Shared}
set_option maxRecDepth 100000 in
end
section
variable {X:Cx}
end
end L2
namespace Att
open PySem PySem.W PySem.Calls PyProof.Rows
theorem qP{P:Params}:∀(ns:List Int) (vs:List Value),WellAll P h vs (ns.map WData.int)->IntsAre vs ns:=by
 intro ns
 induction ns with
 | nil=>
   intro vs w;rw[List.map_nil] at w;cases w;exact .nil
 | cons n ns ih=>
   intro vs w;rw[List.map_cons] at w;cases w with
   | cons a b=>
     cases a;exact .cons _ _ (ih _ b)
theorem Af{l:OpenLaw}{n:Nat}(hn:l.most=some n){P:Params}{h:Heap}{args:List WData}{vals:List Value}
 (GB:l.row.toRowW.claim.pre args=true) (MB:WellAll P h vals args) :
 ∃a vs ns,vals=[Value.ref a]/\args=[WData.list (ns.map WData.int)]/\h.get? a=some {cls:= .type "list",data:= .seq vs.toArray}/\IntsAre vs ns/\ns.length<=n:=by
 have hsh:WShape.hasAll [] args [.list .int]=true:=(pre_splitW GB).1;have hc:l.pre.holds [] {args:=args}=true:=(pre_splitW GB).2;obtain⟨d,r,rfl,h1,h2⟩:=hasAllW_cons hsh;obtain rfl:=hasAllW_nil h2;obtain⟨xs,rfl,h3⟩:=hasW_list h1;obtain⟨ns,rfl⟩:=items_int h3;have hlen:ns.length<=n:=by
  unfold OpenLaw.pre at hc;have h4:(WTm.not (.lt (.lit (.int (n:Int))) (.len (.arg 0)))).holds [] {args:=[.list (ns.map .int)]}=true:=by
   have h4:=(holds_andW hc).1;rw[hn] at h4;exact h4
  have h5:=condW_of h4 (w_not (w_lt w_lit (w_len_list (w_arg rfl))));rw[List.length_map] at h5;refine Nat.le_of_not_lt fun q=>?_
  have q':(n:Int) < ((ns.length:Nat):Int):=by omega
  first
   | (rw [decide_eq_true q'] at h5;exact absurd h5 (by decide))
   | (simp at h5;omega)
 cases MB with
 | cons w1 w2=>
   cases w2;cases w1 with
   | list ho hall=>exact⟨_,_,ns,rfl,rfl,ho,qP ns _ hall,hlen⟩
theorem AB(l:OpenLaw)(args:List WData):l.row.toRowW.claim.post args (.bool true) args=true:=
 postW_of (r:=l.row.toRowW) (X:=(true==true))
  (show WShape.has [] (.bool true) .bool=true by first | rfl | decide | simp [WShape.has,WShape.arms,WShape.armsAll])
  (show(WTm.eq .res (.lit (.bool true))).value [] {args:=args,res:=some (.bool true),after:=args}=some (.bool (true==true)) from w_eq_bool (w_res rfl) w_lit) rfl
theorem wM{l:OpenLaw}{n:Nat}{q:Program}{loose:List Str}{XP:(Str->Option Value)->Heap->Prop}{YP:World->Heap->Prop}{d:DefRec}
 (hn:l.most=some n) (Pt:d.params.defaults=[])
 (call:∀(w:World) (s₀ s₁:Shared) (mg mb:Yd) (fa:Addr) (o:Obj) (pm cd doc:Value) (a:Addr) (vs:List Value) (ns:List Int),
   Ground q loose [] XP w s₀ mg mb s₁.heap->YP w s₁.heap->
   s₁.heap.get? fa=some o->o.data= .func (docDef d.name d.params d.body d.scope pm cd doc)->s₁.heap.CodeRec cd d.name->mg d.name=some (.ref fa)->
   s₁.heap.get? a=some {cls:= .type "list",data:= .seq vs.toArray}->IntsAre vs ns->ns.length<=n->s₁.gens=#[]->
   codeAny (model l.prog w) callerA (.call (.ref fa) ⟨[.ref a],[]⟩) (fun r s'=>r= .ok (.ret (.bool true))/\OldK s₁.heap s'.heap/\s'.os=s₁.os/\AllBare s'.gens) s₁) :
 WalkO q loose XP YP l.row.toRowW d [] (fun f vs=>PySem.call f vs):=by
 intro w s₀ s₁ mg mb G Y fa o pm cd doc dV kV ho hd xf hD MD hg args vals as GB hlay Sq MB hlo;obtain rfl:dV= .none:=Dflts.none hD Pt;obtain rfl:kV= .none:=Dflts.noKw hD;obtain⟨a,vs,ns,rfl,rfl,J4,hints,hlen⟩:=Af hn GB MB;refine enter_call (codeAny_mono (call w s₀ s₁ mg mb fa o pm cd doc a vs ns G Y ho (fd_plain hd) xf MD J4 hints hlen hg) fun r s' hq=>?_)
 obtain⟨rfl,h2,h3,h4⟩:=hq;exact⟨.inl ⟨.bool true, .bool true,[],rfl,fun _=>rfl, .bool true,AB l _,fun _=>⟨List.Pairwise.nil,fun _ hm=>(nomatch hm)⟩⟩,h2,h3,h4⟩
section
variable {prog:Program} {w:World} {A:Around} {E:X_} {s:Shared} {K:Frag}
def NW(h:Heap):Heap:={h with objs:=#[]}
def ledger(h:Heap)(L d:Addr):X9:=(List.range h.objs.size).filterMap fun a=>if a=L\/a=d then none else(h.get? a).map fun o=>(a,o)
end
end Att
namespace L2
open PySem PySem.Spec PyProof.Rows
theorem t6:∀{vs:List Value} {ns:List Int},IntsAre vs ns->Vals (ns.map V.int) vs
 | _,_, .nil=> .nil
 | _,_, .cons n t h=> .cons ⟨t,rfl⟩ (t6 h)
def K4(H:Hp):Prop:=∀b,H b=none\/∃o xs,H b=some (.pO o (.lst xs))
abbrev gT{K:W.Frag}{h:Heap}(_:K.In h):W.Frag:=K
def inClass(s:Stmt)(j:Nat):Stmt:=match s with
 | .ClassDef _ _ _ body _ _ _ _ _ _ _=>body.getD j (.Pass ⟨0,0,0,0⟩)
 | _=> .Pass ⟨0,0,0,0⟩
def iQ(s:Stmt):Arguments:=match s with
 | .FunctionDef _ a _ _ _ _ _ _ _ _=>a
 | _=>{posonlyargs:=[],args:=[],vararg:=none,kwonlyargs:=[],kw_defaults:=[],kwarg:=none,defaults:=[]}
def aQ(s:Stmt):List Stmt:=match s with
 | .FunctionDef _ _ b _ _ _ _ _ _ _=>b
 | _=>[]
def aD(s:Stmt):Scope:=match s with
 | .FunctionDef _ _ _ _ _ _ sc _ _ _=>sc
 | _=>{kind:= .function,names:=[],isGenerator:=false,isCoroutine:=false}
abbrev t_:Ba:=fun _ _ _ _ _ _=>False
abbrev E0:XK:=fun _ _ _=>False
theorem Cq{X:Cx}:Passes t_ X E0:=fun _ _ _ _ _ _ _ h=>h.elim
structure xl (K:W.Frag) (x qual:Str) (st:Stmt) (f:Addr) (fd:FuncData):Prop where
 ex:∃(oc:Value) (od:Option Addr) (kV doc pm:Value) (an:Option Addr) (dJ ct:Value) (D3:Array (Option Value)),
  fd=PySem.W.fnOf x qual (iQ st) (aQ st) (aD st) .none kV doc pm an dJ ct/\K.lookup f=some ⟨oc,od, .func fd,D3⟩/\PySem.W.codeIn K dJ qual=true
 kp:PySem.W.keepIn K (.ref f)=true
section
variable {P:Program} {w:World} {K:W.Frag} {mg:Yd} {base:Heap}
theorem xl.ok{x qual:Str}{st:Stmt}{f:Addr}{fd:FuncData}{N ps:List Str}{k:Nat}{sp:Sp}(F:xl K x qual st f fd)(S:bb N ps (aD st))(len:∀vs H Q E,sp vs H Q E->vs.length=ps.length)
 (g5:∀(dJ:Value) (A:Around) (outer:List Env) (s:Shared) (H:Hp) (vs:List V) (Q:VK) (E:XK),dw k (A.deeper (envOfC qual (aD st) s.heap.objs.size f dJ))->sp vs H Q E->
   ∃t,uZ (lz t_ P w K mg base N qual (aD st) f dJ A outer s H E).E_ (aQ st) t/\t {nx:=fun _ H'=>Q .cu H',rt:=Q} (start N vs) H):iT P w K mg base t_ (k+1) f fd ps sp:=by
 obtain⟨oc,od,kV,doc,pm,an,dJ,ct,D3,rfl,lk,xf⟩:=F.ex;refine GQ lk xf S len fun A outer s H vs Q E hr zZ=>?_
 obtain⟨t,h,q⟩:=g5 dJ A outer s H vs Q E hr zZ;exact⟨t,h.E_,q⟩
theorem xl.binds{x qual:Str}{st:Stmt}{f:Addr}{fd:FuncData}{ps:List Str}(F:xl K x qual st f fd)
 (h:∀(kV doc pm:Value) (an:Option Addr) (dJ ct:Value) (us:List Value),us.length=ps.length->bindArgs (PySem.W.fnOf x qual (iQ st) (aQ st) (aD st) .none kV doc pm an dJ ct) ⟨us,[]⟩=pure (ps.zip us)):Binds K fd ps []:=by
 obtain⟨oc,od,kV,doc,pm,an,dJ,ct,D3,rfl,lk,xf⟩:=F.ex;exact .all (h kV doc pm an dJ ct)
theorem qd{x qual:Str}{st:Stmt}{f:Addr}{oc:Value}{od an:Option Addr}{D3:Array (Option Value)}{kV doc pm dJ ct:Value}(l:K.lookup f=some ⟨oc,od, .func (PySem.W.fnOf x qual (iQ st) (aQ st) (aD st) .none kV doc pm an dJ ct),D3⟩)
 (c:PySem.W.codeIn K dJ qual=true) (k:PySem.W.keepIn K (.ref f)=true):xl K x qual st f (PySem.W.fnOf x qual (iQ st) (aQ st) (aD st) .none kV doc pm an dJ ct):=⟨⟨oc,od,kV,doc,pm,an,dJ,ct,D3,rfl,l,c⟩,k⟩
end
theorem mF{A:Around}{k:Nat}(hr:dw k A):A.units+1 < cLine:=Nat.lt_of_le_of_lt (Nat.add_le_add_left (by decide:1<=64) _) hr.units
section
variable {X:Cx}
theorem Aa:jS X (.builtin "len") (fun xs H Q=>∃a aA,xs=[V.ref a]/\H a=some (.dK aA)/\Q (.int aA.length) H):=by
 intro pins s σ H xs us Q I r h;obtain⟨a,aA,rfl,ha,q⟩:=h;obtain⟨u,rfl,ru⟩:=vals1 r;cases ru;exact Mp I (.inl ha) fun t s' I'=>⟨.int aA.length,H,I',⟨t,rfl⟩,q⟩
end
theorem DJ{A B:Prop}(h:B):if false=true then A else B:=by
 rw[if_neg Bool.false_ne_true];exact h
theorem BU{A B:Prop}(h:A):if true=true then A else B:=by
 rw[if_pos rfl];exact h
def aH(H H':Hp):Prop:=∀b o,H b=some o->H' b=some o
theorem aH.refl(H:Hp):aH H H:=fun _ _ h=>h
theorem aH.trans(a:aH H H1)(b:aH H1 H2):aH H H2:=fun c o h=>b c o (a c o h)
theorem aH.free{H H':Hp}(e:aH H H'){l:Addr}(h:H' l=Option.none):H l=Option.none:=by
 cases q:H l with
 | none=>rfl
 | some o=>
   rw[e l o q] at h;cases h
section
variable {κ:Type} [DecidableEq κ]
end
end L2
end
section
namespace L2
open PySem PySem.Spec PyProof.Rows
def nW(cells:List (Str × Addr)):List (Str × NameKind)->List (Str × Addr)->List (Str × Addr)
 | [],acc=>acc
 | (n,k) ::r,acc=>nW cells r (if k==NameKind.free then(n,(cells.lookup n).getD 0) ::acc else acc)
theorem lQ{env:Env}:∀(names:List (Str × NameKind)) (acc:List (Str × Addr)),(∀y∈names,y.2= .free->∃c,env.cells.lookup y.1=some c)->
 (forIn names acc fun(x:Str × NameKind) (cs:List (Str × Addr))=>(match x with
   | (name,kind)=>if kind== .free then do let a <-cellOf env name;pure (ForInStep.yield ((name,a) ::cs)) else pure (ForInStep.yield cs):Sem (ForInStep (List (Str × Addr)))))=pure (nW env.cells names acc)
 | [],acc,_=>by simp [nW]
 | (n,k) ::r,acc,h=>by
   rw[List.forIn_cons];by_cases hk:k=NameKind.free
   .subst hk;obtain⟨c,hc⟩:=h (n, .free) List.mem_cons_self rfl;have e:cellOf env n=pure c:=by unfold cellOf;rw [hc]
    simp only[beq_self_eq_true,if_true,e,pure_bind,nW,hc,Option.getD_some];exact lQ r _ fun y hy=>h y (List.mem_cons_of_mem _ hy)
   .have hb:(k==NameKind.free)=false:=by simpa using hk
    simp only[hb,Bool.false_eq_true,if_false,pure_bind,nW];exact lQ r _ fun y hy=>h y (List.mem_cons_of_mem _ hy)
theorem mH{env:Env}{scope:Scope}(h:∀y∈scope.names,y.2= .free->∃c,env.cells.lookup y.1=some c):closureFor scope env=pure (nW env.cells scope.names []):=by
 unfold closureFor;have:=lQ (env:=env) scope.names [] h;simp only[bind_pure];exact this
theorem kF{cells:List (Str × Addr)}:∀(names:List (Str × NameKind)) (acc:List (Str × Addr)) {x:Str} {c:Addr},(nW cells names acc).lookup x=some c->
 acc.lookup x=some c\/((x,NameKind.free)∈names/\c=(cells.lookup x).getD 0)
 | [],acc,x,c,h=> .inl h
 | (n,k) ::r,acc,x,c,h=>by
   rcases kF r _ h with q | ⟨q1,q2⟩
   .by_cases hk:k=NameKind.free
    .subst hk;simp only[beq_self_eq_true,if_true] at q;cases hx:x==n with
     | true=>
       have e:x=n:=by simpa using hx
       subst e;rw[List.lookup_cons,hx] at q;exact .inr ⟨List.mem_cons_self,(Option.some.inj q).symm⟩
     | false=>
       rw[List.lookup_cons,hx] at q;exact .inl q
    .have hb:(k==NameKind.free)=false:=by simpa using hk
     simp only[hb,Bool.false_eq_true,if_false] at q;exact .inl q
   .exact .inr ⟨List.mem_cons_of_mem _ q1,q2⟩
theorem vU{cells:List (Str × Addr)}:∀(names:List (Str × NameKind)) (acc:List (Str × Addr)) {x:Str},((x,NameKind.free)∈names\/∃c,acc.lookup x=some c)->∃c,(nW cells names acc).lookup x=some c
 | [],acc,x,h=>by
   rcases h with h | h
   .simp at h
   .exact h
 | (n,k) ::r,acc,x,h=>by
   refine vU r _ ?_;rcases h with h | ⟨c,h⟩
   .rcases List.mem_cons.mp h with e | e
    .cases e;exact .inr ⟨(cells.lookup n).getD 0,by simp [List.lookup_cons]⟩
    .exact .inl e
   .by_cases hk:k=NameKind.free
    .subst hk;simp only[beq_self_eq_true,if_true];cases hx:x==n with
     | true=>exact .inr ⟨(cells.lookup n).getD 0,by rw[List.lookup_cons,hx]⟩
     | false=>exact .inr ⟨c,by rw[List.lookup_cons,hx];exact h⟩
    .have hb:(k==NameKind.free)=false:=by simpa using hk
     simp only[hb,Bool.false_eq_true,if_false];exact .inr ⟨c,h⟩
theorem vc:∀(names:List (Str × NameKind)) (n:Nat) (acc:List (Str × Addr)) {x:Str},(x,NameKind.cell) ∉ names->(cellsFrom n names acc).lookup x=acc.lookup x
 | [],_,_,_,_=>rfl
 | (y,k) ::r,n,acc,x,h=>by
   unfold cellsFrom;split
   .rename_i hk;have hk:k= .cell:=by simpa using hk
    subst hk;rw[vc r _ _ fun z=>h (List.mem_cons_of_mem _ z),List.lookup_cons]
    cases hx:x==y with
    | true=>
      have e:x=y:=by simpa using hx
      subst e;exact absurd List.mem_cons_self h
    | false=>rfl
   .exact vc r _ _ fun z=>h (List.mem_cons_of_mem _ z)
theorem oK:∀(names:List (Str × NameKind)) (n:Nat) (acc:List (Str × Addr)),cellsFrom n names acc=cellsFrom n names []++acc
 | [],_,_=>rfl
 | (y,k) ::r,n,acc=>by
   unfold cellsFrom;split
   .rw [oK r (n+1) ((y,n) ::acc),oK r (n+1) [(y,n)],List.append_assoc];rfl
   .exact oK r n acc
theorem xZ{a b:List (Str × Addr)}{c:Addr}(h:(a++b).lookup x=some c):(x,c)∈a\/b.lookup x=some c:=by
 induction a with
 | nil=>exact .inr h
 | cons y r ih=>
   obtain⟨n,v⟩:=y;rw[List.cons_append,List.lookup_cons] at h;cases hx:x==n with
   | true=>
     rw[hx] at h;have e:x=n:=by simpa using hx
     subst e;cases h;exact .inl List.mem_cons_self
   | false=>
     rw[hx] at h;exact(ih h).imp (List.mem_cons_of_mem _) id
theorem nk{a b:List (Str × Addr)}(h:∃c,b.lookup x=some c):∃c,(a++b).lookup x=some c:=by
 induction a with
 | nil=>exact h
 | cons y r ih=>
   rw[List.cons_append,List.lookup_cons];cases x==y.1 with
   | true=>exact⟨_,rfl⟩
   | false=>exact ih
theorem ux{a b:List (Str × Addr)}{c:Addr}(h:a.lookup x=some c):∃c,(a++b).lookup x=some c:=by
 induction a with
 | nil=>cases h
 | cons y r ih=>
   rw[List.cons_append,List.lookup_cons];rw[List.lookup_cons] at h;cases hx:x==y.1 with
   | true=>exact⟨_,rfl⟩
   | false=>rw [hx] at h;exact ih h
theorem t7{M:Model}{A:Around}{E:X_}{s:Shared}{scope:Scope}{cl:List (Str × Addr)}{qual:Str}{env:Env}{Q:Env->Shared->Prop}(hQ:∀h',h'.Ns s.heap.objs.size (fun _=>none)->(∀b o,s.heap.get? b=some o->h'.get? b=some o)->CellsOk h' (s.heap.objs.size+1) (cellsFrom (s.heap.objs.size+1) scope.names [])->
 Q (newEnv scope s.heap.objs.size env.globals (cellsFrom (s.heap.objs.size+1) scope.names cl) qual none .none (some env) builtinsNs) {s with heap:=h'}) :
 wpAny M A (newFunctionEnv scope env.globals cl [] qual none .none (some env)) Q E s:=by
 simp only[newFunctionEnv,Option.isSome_some,if_true];refine wpAny_bind (wpAny_alloc ?_);refine wpAny_bind (wpAny_layCells _ (fun name kind cells=>by cases hkc:kind==NameKind.cell <;> simp [hkc]) _ _ _ _ ?_)
 have ok:=cellsFrom_ok scope.names (s.heap.push {cls:= .type "dict",data:= .dict #[]}) (s.heap.objs.size+1) [] ⟨fun _ _ hm=>(nomatch hm),List.Pairwise.nil⟩ (by rw[Heap.size_push];exact Nat.le_refl _)
 rw[Heap.size_push] at ok;rw[show({s with heap:=s.heap.push {cls:= .type "dict",data:= .dict #[]}}:Shared).heap.objs.size=s.heap.objs.size+1 from Heap.size_push ..]
 rw[List.forIn_nil];refine wpAny_bind (wpAny_pure (wpAny_pure ?_));exact hQ _ ((Heap.Ns.new s.heap (.type "dict")).keeps (pushCells_keeps _ _)) (fun b o e=>pushCells_keeps _ _ b o (Heap.get?_push_of_some _ e)) ok
def aZ(X:Cx)(scope:Scope)(N':List Str)(fp:List Addr)(s:Shared)(H:Hp):Cx where
 prog:=X.prog
 w:=X.w
 K:=X.K
 mg:=X.mg
 base:=X.base
 A:=X.A
 N:=N'
 s₀:=s
 H₀:=H
 env:=compEnvC scope (cellsFrom (s.heap.objs.size+1) scope.names (nW X.env.cells scope.names [])) s.heap.objs.size X.env
 outer:=X.stack
 stack:=X.stack
 ex:=fp
 fn:=fun x=>scope.names.lookup x==some .cell
 calm:=X.calm
 pn:=[]
 xe:=fun _ _=>False
structure di (X:Cx) (scope:Scope) (own:List Str) (kp:List Nat) (kn:List Str):Prop where
 kind:scope.kind= .function
 cel:∀y∈scope.names,y.2= .cell->scope.names.lookup y.1=some .cell
 nd:∀y∈scope.names,y.2= .local->scope.names.lookup y.1=some .local
 free:∀y∈scope.names,y.2= .free->X.env.kindOf y.1=some .cell\/X.env.kindOf y.1=some .free
 frl:∀y∈scope.names,y.2= .free->scope.names.lookup y.1=some .free
 names:kn.length=kp.length
 at_:∀(j i:Nat) (x:Str),kp[j]? =some i->kn[j]? =some x->X.N[i]? =some x
 isfree:∀x∈kn,scope.names.lookup x=some .free
def cW(own:List Str)(kp:List Nat)(σ:St):St:=List.replicate own.length none++kp.map fun i=>(σ[i]?).getD none
section
variable {X:Cx} {scope:Scope} {own:List Str} {kp:List Nat} {kn:List Str}
theorem dO{env:Env}:∀{names:List (Str × NameKind)} {x:Str} {k:NameKind},
 (names.map fun(n,k)=>if(k==NameKind.free && env.scope.kind== .function && env.kindOf n==some .cell) then(n,NameKind.cell) else(n,k)).lookup x=some k->
 names.lookup x=some k\/(k= .cell/\names.lookup x=some .free)
 | [],_,_,h=>by simp at h
 | (n,k) ::r,x,k',h=>by
   have ih:=@dO env r x k';have h:List.lookup x ((if(k==NameKind.free && env.scope.kind== .function && env.kindOf n==some .cell)=true then(n,NameKind.cell) else(n,k)) ::_)=some k':=h
   by_cases hc:(k==NameKind.free && env.scope.kind== .function && env.kindOf n==some .cell)=true
   .rw [if_pos hc] at h;have hkf:k= .free:=by
     simp only[Bool.and_eq_true,beq_iff_eq] at hc;exact hc.1.1
    cases hx:x==n with
    | true=>
      rw[List.lookup_cons,hx] at h;cases h;exact .inr ⟨rfl,by rw[List.lookup_cons,hx,hkf]⟩
    | false=>
      rw[List.lookup_cons,hx] at h;rw[List.lookup_cons,hx];exact ih h
   .rw [if_neg hc] at h;cases hx:x==n with
    | true=>
      rw[List.lookup_cons,hx] at h;rw[List.lookup_cons,hx];exact .inl h
    | false=>
      rw[List.lookup_cons,hx] at h;rw[List.lookup_cons,hx];exact ih h
theorem oE{pins:X9}{s:Shared}(C:di X scope own kp kn)(I:Inv X pins σ H s):∀y∈scope.names,y.2= .free->∃c,X.env.cells.lookup y.1=some c:=fun y hy hf=>
 I.ok.has y.1 (C.free y hy hf)
theorem DA{pins:X9}{σ:St}{H:Hp}{s:Shared}{fp:List Addr}{n5:Heap}{tk:Nat}(C:di X scope own kp kn)(I:Inv X pins σ H s)(hf:∀b∈fp,qY X pins H b)(hb:∀b∈fp,b < s.heap.objs.size)
 (hn:n5.Ns s.heap.objs.size (fun _=>none)) (hk:∀b o,s.heap.get? b=some o->n5.get? b=some o) (hC:CellsOk n5 (s.heap.objs.size+1) (cellsFrom (s.heap.objs.size+1) scope.names [])):Inv (aZ X scope (own++kn) fp s H) [] (cW own kp σ) H {s with heap:=n5,toks:=tk}:=by
 have cl:∀x c,(nW X.env.cells scope.names []).lookup x=some c->X.env.cells.lookup x=some c:=fun x c e=>by
  rcases kF scope.names [] e with q | ⟨q1,q2⟩
  .simp at q
  .obtain⟨c',yC⟩:=oE C I (x, .free) q1 rfl;have yC:X.env.cells.lookup x=some c':=yC;rw[yC] at q2;rw[yC,q2];rfl
 have clA:∀x c,(cellsFrom (s.heap.objs.size+1) scope.names (nW X.env.cells scope.names [])).lookup x=some c->(x,c)∈cellsFrom (s.heap.objs.size+1) scope.names []\/(nW X.env.cells scope.names []).lookup x=some c:=fun x c e=>by
  rw[oK] at e;exact xZ e
 have old:∀x c,(nW X.env.cells scope.names []).lookup x=some c->c < s.heap.objs.size:=fun x c e=>by
  obtain⟨v,h⟩:=I.cell x c (cl x c e);exact h.lt
 have new:∀x c,(x,c)∈cellsFrom (s.heap.objs.size+1) scope.names []->s.heap.objs.size<=c:=fun x c e=>Nat.le_of_lt (hC.empty x c e).2
 have clh:∀x,scope.names.lookup x=some .free->∃c,(nW X.env.cells scope.names []).lookup x=some c:=fun x hx=>vU scope.names [] (.inl (PySem.mem_of_lookup hx))
 refine⟨⟨I.ok.mod,C.kind,I.ok.glob,I.ok.blt,Nat.le_refl _,fun x y c h1 h2=>?inj,fun x hx=>?_,fun x c hn h=>?cab,I.ok.hd,I.ok.frames, .inl rfl,fun b rp=>⟨Nat.ne_of_lt (hb b rp),fun x c e z=>?exf⟩,
  fun b o e=>I.bs b o e,Nat.le_trans I.ok.bsz I.sz,fun b o e rp=>?_,fun b rp hs=>?_,I.stack,I.nS⟩,
  rfl,I.bare,Un.kept hk,⟨_,hn,fun i x v h1 h2 h3=>?_⟩,fun x c e=>?_,I.hok.fresh (Nat.le_refl _),fun x c e=>?frc,fun p hp=>(by cases hp),I.hok.kept hk,?_⟩
 case inj=>
  rcases clA x c h1 with a | a <;> rcases clA y c h2 with b | b
  .exact name_of_addr hC.apart a b
  .exact absurd (Nat.lt_of_lt_of_le (old y c b) (new x c a)) (Nat.lt_irrefl _)
  .exact absurd (Nat.lt_of_lt_of_le (old x c a) (new y c b)) (Nat.lt_irrefl _)
  .exact I.ok.inj x y c (cl x c a) (cl y c b)
 case cab=>
  have hn:(scope.names.lookup x==some .cell)=true:=hn;rcases clA x c h with a | a
  .exact new x c a
  .rcases kF scope.names [] a with q | ⟨q1,q2⟩
   .simp at q
   .have hx:scope.names.lookup x=some .cell:=by simpa using hn
    have h7:scope.names.lookup x=some .free:=C.frl _ q1 rfl;rw[hx] at h7;cases h7
 case exf=>
  rcases clA x c e with a | a
  .subst z;exact absurd (Nat.lt_of_lt_of_le (hb _ rp) (new x _ a)) (Nat.lt_irrefl _)
  .exact(hf b rp).2.2.2.2.1 x c (cl x c a) z
 case frc=>
  rcases clA x c e with a | a
  .exact I.hok.fresh (new x c a)
  .exact I.freeC x c (cl x c a)
 .have hx:(relabel scope X.env).names.lookup x=some .cell\/(relabel scope X.env).names.lookup x=some .free:=hx;show ∃c,(cellsFrom (s.heap.objs.size+1) scope.names (nW X.env.cells scope.names [])).lookup x=some c;rcases hx with hx | hx
  .rcases dO hx with q | ⟨_,q⟩
   .rw [oK];obtain⟨c,hc⟩:=rF (n:=s.heap.objs.size+1) q;exact ux hc
   .rw [oK];exact nk (clh x q)
  .rcases dO hx with q | ⟨q,_⟩
   .rw [oK];exact nk (clh x q)
   .cases q
 .rcases(hf b rp).2.2.2.1 with z | z
  .exact I.ok.noex b o e z
  .exact absurd (Nat.lt_of_lt_of_le (Heap.lt_size (I.ok.bs b o e).1) z) (Nat.lt_irrefl _)
 .rcases List.mem_cons.mp (I.xw b hs) with z | z
  .exact(hf b rp).2.1 z
  .exact(hf b rp).2.2.1 z
 .-- a kept name
  have h1:(own++kn)[i]? =some x:=h1;have h2:(cW own kp σ)[i]? =some (some v):=h2;unfold cW at h2;by_cases hi:i < own.length
  .rw [List.getElem?_append_left (by simpa using hi),List.getElem?_replicate] at h2
   split at h2 <;> cases h2
  .rw [List.getElem?_append_right (by simpa using hi),List.length_replicate,List.getElem?_map] at h2
   rw[List.getElem?_append_right (by simpa using hi)] at h1
   cases e:kp[i - own.length]? with
   | none=>rw [e] at h2;cases h2
   | some j=>
     rw[e] at h2;have h2:(σ[j]?).getD none=some v:=Option.some.inj h2;have hj:X.N[j]? =some x:=C.at_ _ j x e h1;have hσ:σ[j]? =some (some v):=by
      cases q:σ[j]? with
      | none=>rw [q] at h2;cases h2
      | some y=>rw [q] at h2;exact congrArg some h2
     have hfree:scope.names.lookup x=some .free:=C.isfree x (List.mem_of_getElem? h1);have hkind:=C.free (x, .free) (PySem.mem_of_lookup hfree) rfl;obtain⟨m,hm,hl⟩:=I.loc;obtain⟨u,r,l⟩:=hl j x v hj hσ (hkind.elim (fun q=>Or.inr (Or.inl q)) fun q=>Or.inr (Or.inr q))
     refine⟨u,r, .inr ⟨?_,?_⟩⟩
     .have h3:(relabel scope X.env).names.lookup x=some .local\/(relabel scope X.env).names.lookup x=some .cell\/(relabel scope X.env).names.lookup x=some .free:=h3;rcases h3 with q | q | q
      .rcases dO q with z | ⟨z,_⟩
       .rw [hfree] at z;cases z
       .cases z
      .exact .inl q
      .exact .inr q
     .rcases l with⟨k,_⟩ | ⟨_,c,hc,hcell⟩
      .rcases hkind with q | q
       .rw [show X.env.kindOf x=some .cell from q] at k;cases k
       .rw [show X.env.kindOf x=some .free from q] at k;cases k
      .obtain⟨c',yC⟩:=clh x hfree;have:=cl x c' yC;rw[hc] at this;cases this;obtain⟨o,ho,hd⟩:=hcell;exact⟨c,(vc _ _ _ fun z=>by have:=C.cel _ z rfl;rw [hfree] at this;cases this).trans yC,o,hk c o ho,hd⟩
 .rcases clA x c e with a | a
  .exact⟨_,(hC.empty x c a).1⟩
  obtain⟨v,o,ho,hd⟩:=I.cell x c (cl x c a);exact⟨v,o,hk c o ho,hd⟩
 .show(cW own kp σ).length=(own++kn).length;unfold cW;rw[List.length_append,List.length_replicate,List.length_map,List.length_append,C.names]
theorem sk{pins:X9}{s s':Shared}{fp:List Addr}{N':List Str}(I:Inv X pins σ H s)(hf:∀b∈fp,qY X pins H b)(J:Inv (aZ X scope N' fp s H) [] cj H' s'):Inv X pins σ H' s':=
 I.G9 (ch:=fp) J.os J.base J.hok J.bare fun b hb=>⟨(hf b hb).2.2.2.1,(hf b hb).2.1,(hf b hb).2.2.2.2.1,(hf b hb).2.2.2.2.2⟩
end
def qM(X:Cx)(ifs:List Expr)(t:TT):Prop:=
 ∀(pins:X9) (s:Shared) (σ:St) (H:Hp) (Q:Bool->Hp->Prop),Inv X pins σ H s->t σ H Q->
  wpAny (model X.prog X.w) X.A (forIn ifs true fun c r=>if r=true then do let ok <-isTrue c X.env (eval c X.env);pure (ForInStep.yield ok) else pure (ForInStep.yield r)) (TP X pins σ Q) X.xe s
def N3:TT:=fun _ H Q=>Q true H
theorem vN{X:Cx}:qM X [] N3:=fun _ _ _ H _ I h=>wpAny_tests_nil ⟨H,I,h⟩
theorem Cc{X:Cx}{t:TT}(h:PT X c t):qM X [c] t:=fun pins s σ H Q I hq=>wpAny_tests_one (h pins s σ H Q I hq)
def y6(wi:TI)(g:TG)(tc:TT)(te:TE)(own:List Str)(kp:List Nat):TE:=fun σ H Q=>wi σ H fun J H1=>∀D,H1 D=none->
 ∃W:Nat->Nat->List V->Hp->Prop,(∃m,W 0 m [] (upd H1 D (.lst [])))/\∀i m ys H,W i m ys H->
  (J.stop i H/\Q (.ref D) H)\/(J.go i H/\∀x H',J.yld i H x H'->g x (cW own kp σ) H' fun yE H2=>tc yE H2 fun c H3=>
    if c=true then te yE H3 fun y H4=>H4 D=some (.lst ys)/\ys.length < sizeLine/\∃m',m' < m/\W (i+1) m' (ys++[y]) (upd H4 D (.lst (ys++[y])))
    else ∃m',m' < m/\W (i+1) m' ys H3)
section
variable {X:Cx} {scope:Scope} {own:List Str} {kp:List Nat} {kn:List Str} {tg iter elt:Expr} {ifs:List Expr} {wi:TI} {g:TG} {tc:TT} {te:TE} {pos:Pos}
theorem wW{pins:X9}{σ:St}{H:Hp}{s:Shared}{fp:List Addr}{it D:Addr}{tn:Nat->Heap->Prop}{J:It}{Q:VK}{n5:Heap}{tk:Nat}{R:Result->Shared->Prop}
 (hc:X.calm=true) (C:di X scope own kp kn) (I:Inv X pins σ H s) (hf:∀b∈fp,qY X pins H b) (hb:∀b∈fp,b < s.heap.objs.size) (T:Turn X.prog X.w X.K tg J fp it tn)
 (hg:PG (aZ X scope (own++kn) fp s H) tg g) (hi:qM (aZ X scope (own++kn) fp s H) ifs tc) (he:PE (aZ X scope (own++kn) fp s H) elt te)
 (hn:n5.Ns s.heap.objs.size (fun _=>none)) (hk:∀b o,s.heap.get? b=some o->n5.get? b=some o) (hC:CellsOk n5 (s.heap.objs.size+1) (cellsFrom (s.heap.objs.size+1) scope.names [])) (st:tn 0 s.heap)
 (W:Nat->Nat->List V->Hp->Prop) (w0:∃m,W 0 m [] H)
 (turn:∀i m ys H,W i m ys H->
   (J.stop i H/\Q (.ref D) H)\/(J.go i H/\∀x H',J.yld i H x H'->g x (cW own kp σ) H' fun yE H2=>tc yE H2 fun c H3=>
     if c=true then te yE H3 fun y H4=>H4 D=some (.lst ys)/\ys.length < sizeLine/\∃m',m' < m/\W (i+1) m' (ys++[y]) (upd H4 D (.lst (ys++[y])))
     else ∃m',m' < m/\W (i+1) m' ys H3))
 (hR:∀H' s' cj,Inv (aZ X scope (own++kn) fp s H) [] cj H' s'->Q (.ref D) H'->R (.ok .next) s') :
 codeAny (model X.prog X.w) X.A (.compStart (.ListComp elt [⟨tg,iter,ifs,0⟩] scope pos) 0 (.ref it) (.ref D) (aZ X scope (own++kn) fp s H).env) R {s with heap:=n5,toks:=tk}:=by
 have I1:Inv (aZ X scope (own++kn) fp s H) [] (cW own kp σ) H {s with heap:=n5,toks:=tk}:=DA C I hf hb hn hk hC
 have SR:tn 0 n5:=T.keep _ _ _ st fun b _ o e=>hk b o e
 have fp1:∀{H':Hp} {p:X9},(∀b∈fp,H' b=none)->(∀b∈fp,∀q∈p,q.1≠b)->∀b∈fp,qY (aZ X scope (own++kn) fp s H) p H' b:=fun {H' p} hn hp b rp=>
  ⟨hn b rp,(I1.ok.exf b rp).1,I1.ok.exfs b rp, .inl rp,fun x c e=>(I1.ok.exf b rp).2 x c e,fun q hq=>hp b rp q hq⟩
 obtain⟨m0,w0⟩:=w0;have loop:codeAny (model X.prog X.w) X.A (.compLoop (.ListComp elt [⟨tg,iter,ifs,0⟩] scope pos) 0 (.ref it) (.ref D) (aZ X scope (own++kn) fp s H).env) R {s with heap:=n5,toks:=tk}:=by
  refine codeAny_loop rfl (fun n s'=>∃i ys H',Inv (aZ X scope (own++kn) fp s H) [] (cW own kp σ) H' s'/\tn i s'.heap/\(∀b∈fp,H' b=none)/\W i n ys H') (fun n s' hI=>?_) m0 ⟨0,[],H,I1,SR,fun b rp=>(hf b rp).1,w0⟩
  obtain⟨i,ys,H3,I3,GD,ML,w3⟩:=hI;show wpAny _ _ ((compTurn (.ListComp elt [⟨tg,iter,ifs,0⟩] scope pos) 0 (.ref it) (.ref D) (aZ X scope (own++kn) fp s H).env).onRaise (fun x=>do noteFrame x (aZ X scope (own++kn) fp s H).env;theTreesLotGoes x)) _ _ s'
  refine wpAny_noted (wpAny_noRaise ?_);rw[compTurn_list];refine wpAny_bind (wpAny_standAt (wpAny_bind ?_));rcases turn i n ys H3 w3 with⟨stop,q⟩ | ⟨go,step⟩
  .refine cU (T.done (aZ X scope (own++kn) fp s H) rfl rfl rfl hc i [] s' _ H3 _ I3 (fp1 ML (fun _ _ q hq=>by cases hq)) GD stop) fun r s4 ⟨hr,I4⟩=>?_
   subst hr;exact wpAny_pure (hR H3 s4 _ I4 q)
  .refine cU (T.item (aZ X scope (own++kn) fp s H) rfl rfl rfl hc i [] s' _ H3 _ I3 (fp1 ML (fun _ _ q hq=>by cases hq)) GD go) fun r s4 ⟨u,hr,h4⟩=>?_
   subst hr;refine wpAny_bind (cU h4 fun _ s5 ⟨x,H5,I5,r5,y5,Kb,O2⟩=>?_)
   have I5':=I5.pinned (fp1 O2 (fun _ _ q hq=>by cases hq)) (T.obj _ _ Kb)
   have keepIt:∀{xg:St} {H7:Hp} {s7:Shared},Inv (aZ X scope (own++kn) fp s H) ([]++oQ fp s5.heap) xg H7 s7->tn (i+1) s7.heap/\∀b∈fp,H7 b=none:=fun {xg H7 s7} I7=>by
    refine⟨T.keep _ _ _ Kb fun b hb o e=>(I7.pin (b,o) (List.mem_append_right _ (List.mem_append_right _ (lX hb e)))).1,fun b hb=>?_⟩
    obtain⟨o,e,d⟩:=T.obj _ _ Kb b hb;exact(I7.pin (b,o) (List.mem_append_right _ (List.mem_append_right _ (lX hb e)))).2.1
   have reset:∀{xg:St} {H7:Hp} {s7:Shared},Inv (aZ X scope (own++kn) fp s H) ([]++oQ fp s5.heap) xg H7 s7->Inv (aZ X scope (own++kn) fp s H) [] (cW own kp σ) H7 s7:=fun {xg H7 s7} I7=>by
    have I8:=I7.pR;have hun:Un (oP X.stack) fp H H7 s.heap s7.heap:=I8.base;have I9:Inv X pins σ H7 s7:=sk I hf I8;refine⟨I8.ok,I8.os,I8.bare,I8.base,?_,I8.cell,I8.free,I8.freeC,I8.pin,I8.hok,I1.len⟩;obtain⟨m,hm,_⟩:=I8.loc;refine⟨m,hm,fun i x v h1 h2 h3=>?_⟩
    obtain⟨m1,XY,Pj⟩:=I1.loc;obtain⟨u1,r1,l1⟩:=Pj i x v h1 h2 h3;have h1:(own++kn)[i]? =some x:=h1;have h2:(cW own kp σ)[i]? =some (some v):=h2;unfold cW at h2;by_cases hi:i < own.length
    .rw [List.getElem?_append_left (by simpa using hi),List.getElem?_replicate] at h2
     split at h2 <;> cases h2
    .rw [List.getElem?_append_right (by simpa using hi),List.length_replicate,List.getElem?_map] at h2
     rw[List.getElem?_append_right (by simpa using hi)] at h1
     cases e:kp[i - own.length]? with
     | none=>rw [e] at h2;cases h2
     | some j=>
       rw[e] at h2;have h2:(σ[j]?).getD none=some v:=Option.some.inj h2;have hj:X.N[j]? =some x:=C.at_ _ j x e h1;have hσ:σ[j]? =some (some v):=by
        cases q:σ[j]? with
        | none=>rw [q] at h2;cases h2
        | some y=>rw [q] at h2;exact congrArg some h2
       have hfree:scope.names.lookup x=some .free:=C.isfree x (List.mem_of_getElem? h1);have hkind:=C.free (x, .free) (PySem.mem_of_lookup hfree) rfl;obtain⟨m9,XX,VM⟩:=I9.loc;obtain⟨u,r,l⟩:=VM j x v hj hσ (hkind.elim (fun q=>Or.inr (Or.inl q)) fun q=>Or.inr (Or.inr q))
       refine⟨u,r, .inr ?_⟩;rcases l1 with⟨k,k2⟩ | ⟨k,c,hc,hcell⟩
       .have k:(relabel scope X.env).names.lookup x=some .local:=k;rcases dO k with z | ⟨z,_⟩
        .rw [hfree] at z;cases z
        .cases z
       .refine⟨k,c,hc,?_⟩;rcases l with⟨k',_⟩ | ⟨_,c',yC,Kd⟩
        .rcases hkind with q | q
         .rw [show X.env.kindOf x=some .cell from q] at k';cases k'
         .rw [show X.env.kindOf x=some .free from q] at k';cases k'
        .have hcl:(nW X.env.cells scope.names []).lookup x=some c:=(vc _ _ _ fun z=>by have:=C.cel _ z rfl;rw [hfree] at this;cases this).symm.trans hc
         rcases kF scope.names [] hcl with q | ⟨q1,q2⟩
         .simp at q
         .rw [yC] at q2;have q2:c=c':=q2;rw[q2];exact Kd
   have hmm:=hg ([]++oQ fp s5.heap) s5 (cW own kp σ) H5 x u _ I5' r5 (step x H5 y5);refine wpAny_bind (cU hmm fun _ s6 ⟨MK,H6,I6,q6⟩=>?_)
   refine wpAny_bind (cU (hi _ s6 MK H6 _ I6 q6) fun ok s7 ⟨H7,I7,q7⟩=>?_)
   cases ok with
   | false=>
     simp only[Bool.false_eq_true,if_false] at q7 ⊢;obtain⟨m',Kc,w7⟩:=q7;obtain⟨a1,a2⟩:=keepIt I7;exact wpAny_pure ⟨rfl,m',Kc,i+1,ys,H7,reset I7,a1,a2,w7⟩
   | true=>
     simp only[if_true] at q7 ⊢;refine wpAny_bind (wpAny_bind (cU (he _ s7 MK H7 _ I7 q7) fun yv s8 ⟨y,H8,I8,r8,hD,n4,m',Kc,w8⟩=>wpAny_bind ?_))
     obtain⟨a1,a2⟩:=keepIt I8;refine cU (pZ _ s8 MK H8 (.ref D) [y] (.ref D) [yv] (fun v H9=>v= .cu/\H9=upd H8 D (.lst (ys++[y]))) I8 rfl (.cons r8 .nil) ⟨D,ys,y,rfl,rfl,hD,n4,rfl,rfl⟩) fun _ s9 ⟨v9,H9,I9,_,_,e9⟩=>?_
     subst e9;obtain⟨b1,b2⟩:=keepIt I9;exact wpAny_pure (wpAny_pure ⟨rfl,m',Kc,i+1,ys++[y],_,reset I9,b1,b2,w8⟩)
 exact codeAny_compStart_list loop (T.self _ _ _ _ _ SR loop)
theorem zy(hc:X.calm=true)(C:di X scope own kp kn)(hi:PI X tg iter wi)(hg:∀fp s H,PG (aZ X scope (own++kn) fp s H) tg g)(A4:∀fp s H,qM (aZ X scope (own++kn) fp s H) ifs tc)
 (he:∀fp s H,PE (aZ X scope (own++kn) fp s H) elt te) (hs:∀x,foldedSetIterable iter X.env x=pure x:=by intro _;rfl):PE X (.ListComp elt [⟨tg,iter,ifs,0⟩] scope pos) (y6 wi g tc te own kp):=by
 intro pins s σ H Q I h;rw[eval_ListComp];refine wpAny_comprehension_free (use:=none) rfl hs (mH (oE C I)) C.kind C.nd (cU (hi pins s σ H _ I h) fun v s1 h1=>cU h1 fun Nl s2 h2=>?_)
 obtain⟨it,fp,tn,J,H2,e,I2,T,Ke,f2,q⟩:=h2;subst e;refine wpAny_newObj_type ?_;have I3:Inv X pins σ (upd H2 s2.heap.objs.size (.lst [])) {s2 with heap:=s2.heap.push {cls:= .type "list",dict:=none,data:= .seq ([]:List Value).toArray}}:=I2.IW (its:=[]) (t':=s2.toks) .nil (Nat.zero_le _)
 obtain⟨W,w0,turn⟩:=q s2.heap.objs.size I2.fresh;have fne:∀b∈fp,b < s2.heap.objs.size:=fun b hb=>let⟨o,e,_⟩:=T.obj _ _ Ke b hb;Heap.lt_size e
 have f3:∀b∈fp,qY X pins (upd H2 s2.heap.objs.size (.lst [])) b:=fun b hb=>⟨by rw[aW (Nat.ne_of_lt (fne b hb))];exact(f2 b hb).1,(f2 b hb).2⟩
 generalize hs3:({s2 with heap:=s2.heap.push {cls:= .type "list",dict:=none,data:= .seq ([]:List Value).toArray}}:Shared)=s3 at I3 ⊢
 have GD:tn 0 s3.heap:=by rw[<-hs3];exact T.keep _ _ _ Ke fun b _ o e=>Heap.get?_push_of_some _ e
 have fne3:∀b∈fp,b < s3.heap.objs.size:=fun b hb=>by rw[<-hs3];exact Nat.lt_of_lt_of_le (fne b hb) (by rw[Heap.size_push];exact Nat.le_succ _)
 refine t7 fun n5 yH hk hC=>?_
 refine wW (D:=s2.heap.objs.size) hc C I3 f3 fne3 T (hg fp s3 _) (A4 fp s3 _) (he fp s3 _) yH hk hC GD W w0 turn fun H' s' cj J' hq=>?_
 have B:=sk I3 f3 J';obtain⟨m',Kc,_⟩:=J'.loc;refine⟨m',Kc,fun h' sb=>⟨.ref s2.heap.objs.size,H',?_,rfl,hq⟩⟩
 have fC:=I3.Ag (H':=H') (b:=s3.heap.objs.size) (Nat.le_refl _) J'.free;exact B.turned (it:=s3.heap.objs.size) (t':=s'.toks) (fun b o hb e=>(sb.2 b hb).trans e) fC.1 fC.2.1 fC.2.2.2.1 fC.2.2.2.2.1 fC.2.2.2.2.2
theorem yc{i:Nat}{x:Str}{pos' sV:Pos}(hc:X.calm=true)(hN:X.N.Nodup)(hx:X.N[i]? =some x)(Bi:X.env.scope.names.lookup x=some .local)(C:di X scope own kp kn)(hi:PI X tg iter wi)
 (hg:∀fp s H,PG (aZ X scope (own++kn) fp s H) tg g) (A4:∀fp s H,qM (aZ X scope (own++kn) fp s H) ifs tc)
 (he:∀fp s H,PE (aZ X scope (own++kn) fp s H) elt te)
 (D4:swapsWith (.ListComp elt [⟨tg,iter,ifs,0⟩] scope pos) (some (.Name x pos')) sV.line X.env=pure true:=by rfl)
 (hs:∀x,foldedSetIterable iter X.env x=pure x:=by intro _;rfl) :
 PS X (.Assign [.Name x pos'] (.ListComp elt [⟨tg,iter,ifs,0⟩] scope pos) sV) (JC (y6 wi g tc te own kp) (wL i)):=by
 intro pins s σ H D I h;rw[exec_Assign_Name_used _ _ _ _ D4];refine wpAny_bind (wpAny_standAt (wpAny_bind ?_));show wpAny _ X.A (do let _ <-comprehension (.ListComp elt [⟨tg,iter,ifs,0⟩] scope pos) scope X.env _ (newList []) false (eval iter X.env) (some (assign (.Name x pos') X.env))) _ _ s
 refine wpAny_bind (wpAny_mono (wpAny_comprehension_free (use:=some (assign (.Name x pos') X.env)) (Q:=fun _ s'=>SP X pins D .next s') rfl hs (mH (oE C I)) C.kind C.nd
  (cU (hi pins s σ H _ I h) fun v s1 h1=>cU h1 fun Nl s2 h2=>?_)) (fun _ s' hq=>wpAny_pure (wpAny_pure hq)) fun _ _ e=>e)
 obtain⟨it,fp,tn,J,H2,e,I2,T,Ke,f2,q⟩:=h2;subst e;refine wpAny_newObj_type ?_;have I3:Inv X pins σ (upd H2 s2.heap.objs.size (.lst [])) {s2 with heap:=s2.heap.push {cls:= .type "list",dict:=none,data:= .seq ([]:List Value).toArray}}:=I2.IW (its:=[]) (t':=s2.toks) .nil (Nat.zero_le _)
 obtain⟨W,w0,turn⟩:=q s2.heap.objs.size I2.fresh;have fne:∀b∈fp,b < s2.heap.objs.size:=fun b hb=>let⟨o,e,_⟩:=T.obj _ _ Ke b hb;Heap.lt_size e
 have f3:∀b∈fp,qY X pins (upd H2 s2.heap.objs.size (.lst [])) b:=fun b hb=>⟨by rw[aW (Nat.ne_of_lt (fne b hb))];exact(f2 b hb).1,(f2 b hb).2⟩
 generalize hs3:({s2 with heap:=s2.heap.push {cls:= .type "list",dict:=none,data:= .seq ([]:List Value).toArray}}:Shared)=s3 at I3 ⊢
 have GD:tn 0 s3.heap:=by rw[<-hs3];exact T.keep _ _ _ Ke fun b _ o e=>Heap.get?_push_of_some _ e
 have fne3:∀b∈fp,b < s3.heap.objs.size:=fun b hb=>by rw[<-hs3];exact Nat.lt_of_lt_of_le (fne b hb) (by rw[Heap.size_push];exact Nat.le_succ _)
 refine t7 fun n5 yH hk hC=>?_
 refine wW (Q:=fun x H1=>wL i x σ H1 D.nx) (D:=s2.heap.objs.size) hc C I3 f3 fne3 T (hg fp s3 _) (A4 fp s3 _) (he fp s3 _) yH hk hC GD W w0 turn fun H' s' cj J' hq=>?_
 have B:=sk I3 f3 J';obtain⟨m',Kc,_⟩:=J'.loc;have fC:=I3.Ag (H':=H') (b:=s3.heap.objs.size) (Nat.le_refl _) J'.free;show wpAny _ X.A (assign (.Name x pos') X.env (.ref s2.heap.objs.size)) _ _ s';refine wpAny_assign_Name (ud B hN hx (.inl Bi) (v:= .ref s2.heap.objs.size) rfl (fun s4 I4 ⟨a,sb,ha⟩=>?_) (.inr Bi))
 have ha':s3.heap.objs.size≠a:=by
  rcases ha with rfl | z
  .exact fC.2.1
  .exact fun e=>fC.2.2.2.2.1 x a z e.symm
 refine⟨m',Kc.sameBut sb ha',fun h' VB=>⟨_,H',?_,hq⟩⟩
 exact I4.turned (it:=s3.heap.objs.size) (t':=s4.toks) (fun b o hb e=>(VB.2 b hb).trans e) fC.1 fC.2.1 fC.2.2.2.1 fC.2.2.2.2.1 fC.2.2.2.2.2
end
end L2
end
section
namespace L2
open PySem PySem.Spec PyProof.Rows
inductive D where
 | cu | bl (b:Bool) | int (i:Int) | str (x:Str) | lst (ds:List D) | tup (ds:List D) | dct (ks:List Key) (ds:List D)
inductive R (α:Type) where
 | ok (a:α) | ex (c:Nat) | no
def R.bind{α β:Type}:R α->(α->R β)->R β
 | .ok a,f=>f a
 | .ex c,_=> .ex c
 | .no,_=> .no
theorem R.af{α β:Type}{r:R α}{f:α->R β}{b:β}(h:r.bind f= .ok b):∃a,r= .ok a/\f a= .ok b:=by
 cases r with
 | ok a=>exact⟨a,rfl,h⟩
 | ex c=>cases h
 | no=>cases h
@[simp] theorem R.aK{α β:Type}(a:α)(f:α->R β):(R.ok a).bind f=f a:=rfl
def R.aI{α:Type}(c:Bool)(r:R α):R α:=if c then r else .no
theorem R.aN{α:Type}{c:Bool}{r:R α}{a:α}(h:R.aI c r= .ok a):c=true/\r= .ok a:=by
 cases c with
 | true=>exact⟨rfl,h⟩
 | false=>cases h
@[simp] theorem R.Kn{α:Type}(r:R α):R.aI true r=r:=rfl
def wJ(K:W.Frag)(B:List Addr)(H:Hp)(a:Addr)(xs:List V):Prop:=
 (a ∉ B/\Rd H a (.lst xs))\/∃(its:List Value) (n:Nat),K.lookup a=some {cls:= .type "list",data:= .seq its.toArray n}/\xs.length<=sizeLine/\Vals xs its
def zh(K:W.Frag)(B:List Addr)(H:Hp)(a:Addr)(xs:List V):Prop:=
 (a ∉ B/\Rd H a (.tup xs))\/∃(o:Obj) (its:Array Value) (n:Nat),K.lookup a=some o/\o.cls= .type "tuple"/\o.data= .seq its n/\its.size<=sizeLine/\Vals xs its.toList
theorem wJ.sq{K:W.Frag}{B:List Addr}{a:Addr}{xs:List V}(h:wJ K B H a xs):nX K H a xs:=by
 rcases h with z | ⟨its,n,hk,hz,r⟩
 .exact .inl z.2
 .exact .inr ⟨_,its.toArray,n,hk,rfl,rfl,rfl,by rw[List.size_toArray,<-r.length];exact hz,by simpa using r⟩
theorem zh.sq{K:W.Frag}{B:List Addr}{a:Addr}{xs:List V}(h:zh K B H a xs):qp K H a xs:=h.elim (fun z=> .inl z.2) .inr
mutual
def Rep(K:W.Frag)(B:List Addr)(H:Hp):D->V->Prop
 | .cu,v=>v= .cu
 | .bl b,v=>v= .bl b
 | .int i,v=>v= .int i
 | .str x,v=>v= .str x
 | .lst ds,v=>∃a xs,v= .ref a/\wJ K B H a xs/\az K B H ds xs
 | .tup ds,v=>∃a xs,v= .ref a/\zh K B H a xs/\az K B H ds xs
 | .dct ks ds,v=>∃(a:Addr) (aA:List (Key × V)),v= .ref a/\(a ∉ B/\H a=some (.dK aA))/\aA.map (·.1)=ks/\az K B H ds (aA.map (·.2))
def az(K:W.Frag)(B:List Addr)(H:Hp):List D->List V->Prop
 | [],xs=>xs=[]
 | d ::ds,xs=>∃x r,xs=x ::r/\Rep K B H d x/\az K B H ds r
end
def eh(B:List Addr)(H:Hp)(B':List Addr)(H':Hp):Prop:=∀b o,H b=some o->b ∉ B->H' b=some o/\b ∉ B'
theorem eh.rd{B B':List Addr}(p:eh B H B' H'){a:Addr}{u:HO}(h:Rd H a u)(n:a ∉ B):Rd H' a u/\a ∉ B':=by
 rcases h with e | ⟨o,e⟩
 .exact⟨.inl (p a _ e n).1,(p a _ e n).2⟩
 .exact⟨.inr ⟨o,(p a _ e n).1⟩,(p a _ e n).2⟩
theorem eh.trans{B B' MR:List Addr}(p:eh B H B' H')(q:eh B' H' MR pX):eh B H MR pX:=fun b o e n=>
 let⟨e1,n1⟩:=p b o e n;q b o e1 n1
theorem eh.same{B:List Addr}(s:aH H H'):eh B H B H':=fun b o e n=>⟨s b o e,n⟩
theorem eh.refl(B:List Addr)(H:Hp):eh B H B H:=eh.same (aH.refl H)
theorem wJ.bp{K:W.Frag}{B B':List Addr}(p:eh B H B' H'){a:Addr}{xs:List V}(l:wJ K B H a xs):wJ K B' H' a xs:=
 l.elim (fun z=> .inl ⟨(p.rd z.2 z.1).2,(p.rd z.2 z.1).1⟩) .inr
mutual
theorem Rep.bp{K:W.Frag}{B B':List Addr}(p:eh B H B' H'):∀{d:D} {v:V},Rep K B H d v->Rep K B' H' d v
 | .cu,_,h=>h
 | .bl _,_,h=>h
 | .int _,_,h=>h
 | .str _,_,h=>h
 | .lst ds,v,h=>by
   unfold Rep at h ⊢;obtain⟨a,xs,e,l,r⟩:=h;exact⟨a,xs,e,l.bp p,az.bp p r⟩
 | .tup ds,v,h=>by
   unfold Rep at h ⊢;obtain⟨a,xs,e,l,r⟩:=h;exact⟨a,xs,e,l.elim (fun z=> .inl ⟨(p.rd z.2 z.1).2,(p.rd z.2 z.1).1⟩) .inr,az.bp p r⟩
 | .dct ks ds,v,h=>by
   unfold Rep at h ⊢;obtain⟨a,aA,e,⟨n,l⟩,k,r⟩:=h;exact⟨a,aA,e,⟨(p a _ l n).2,(p a _ l n).1⟩,k,az.bp p r⟩
theorem az.bp{K:W.Frag}{B B':List Addr}(p:eh B H B' H'):∀{ds:List D} {xs:List V},az K B H ds xs->az K B' H' ds xs
 | [],_,h=>h
 | d ::ds,xs,h=>by
   unfold az at h ⊢;obtain⟨x,r,e,h1,h2⟩:=h;exact⟨x,r,e,Rep.bp p h1,az.bp p h2⟩
end
theorem Rep.same{K:W.Frag}{B:List Addr}{d:D}{v:V}(h:Rep K B H d v)(s:aH H H'):Rep K B H' d v:=h.bp (eh.same s)
theorem az.same{K:W.Frag}{B:List Addr}{d:List D}{v:List V}(h:az K B H d v)(s:aH H H'):az K B H' d v:=h.bp (eh.same s)
theorem az.nil{K:W.Frag}{B:List Addr}:az K B H [] []:=by unfold az;rfl
theorem az.cons{K:W.Frag}{B:List Addr}{d:D}{ds:List D}{x:V}{xs:List V}(h:Rep K B H d x)(t:az K B H ds xs):az K B H (d ::ds) (x ::xs):=by
 unfold az;exact⟨x,xs,rfl,h,t⟩
theorem az.cq{K:W.Frag}{B:List Addr}{d:D}{ds:List D}{xs:List V}(h:az K B H (d ::ds) xs):∃x r,xs=x ::r/\Rep K B H d x/\az K B H ds r:=by
 unfold az at h;exact h
theorem az.length{K:W.Frag}{B:List Addr}:∀{ds:List D} {xs:List V},az K B H ds xs->ds.length=xs.length
 | [],_,h=>by unfold az at h;rw [h];rfl
 | d ::ds,xs,h=>by
   obtain⟨x,r,rfl,_,h2⟩:=h.cq;simp [h2.length]
theorem az.get{K:W.Frag}{B:List Addr}:∀{ds:List D} {xs:List V} {i:Nat} {d:D},az K B H ds xs->ds[i]? =some d->∃x,xs[i]? =some x/\Rep K B H d x
 | [],_,_,_,_,e=>by simp at e
 | d ::ds,xs,0,d',h,e=>by
   obtain⟨x,r,rfl,h1,h2⟩:=h.cq;simp at e;subst e;exact⟨x,rfl,h1⟩
 | d ::ds,xs,i+1,d',h,e=>by
   obtain⟨x,r,rfl,h1,h2⟩:=h.cq;obtain⟨y,e1,e2⟩:=az.get (i:=i) h2 (by simpa using e)
   exact⟨y,by simpa using e1,e2⟩
theorem az.append{K:W.Frag}{B:List Addr}:∀{ds es:List D} {xs ys:List V},az K B H ds xs->az K B H es ys->az K B H (ds++es) (xs++ys)
 | [],_,_,_,h,t=>by unfold az at h;subst h;exact t
 | d ::ds,es,xs,ys,h,t=>by
   obtain⟨x,r,rfl,h1,h2⟩:=h.cq;exact az.cons h1 (az.append h2 t)
theorem az.drop{K:W.Frag}{B:List Addr}:∀{ds:List D} {xs:List V} (n:Nat),az K B H ds xs->az K B H (ds.drop n) (xs.drop n)
 | _,_,0,h=>h
 | [],_,n+1,h=>by unfold az at h;subst h;exact az.nil
 | d ::ds,xs,n+1,h=>by
   obtain⟨x,r,rfl,h1,h2⟩:=h.cq;exact az.drop n h2
theorem az.take{K:W.Frag}{B:List Addr}:∀{ds:List D} {xs:List V} (n:Nat),az K B H ds xs->az K B H (ds.take n) (xs.take n)
 | _,_,0,h=>az.nil
 | [],_,n+1,h=>by unfold az at h;subst h;exact az.nil
 | d ::ds,xs,n+1,h=>by
   obtain⟨x,r,rfl,h1,h2⟩:=h.cq;exact az.cons h1 (az.take n h2)
def D.atom:D->Bool
 | .cu=>true | .bl _=>true | .int _=>true | .str _=>true | _=>false
theorem Rep.atom{K:W.Frag}{B B':List Addr}{d:D}{v:V}(a:d.atom=true)(h:Rep K B H d v):Rep K B' H' d v:=by
 cases d <;> first | exact h | cases a
inductive Sl where
 | un | val (d:D) | bld (ds:List D)
abbrev aq:=List Sl
structure i9 (K:W.Frag) (Z B:List Addr) (H:Hp) (σ:St) (δ:aq):Prop where
 len:δ.length=σ.length
 bs:∀a∈B,∃o,H a=some o
 zb:∀a∈Z,a∈B
 val:∀(i:Nat) (d:D),δ[i]? =some (.val d)->∃v,σ[i]? =some (some v)/\Rep K B H d v
 bld:∀(i:Nat) (ds:List D),δ[i]? =some (.bld ds)->∃a xs,σ[i]? =some (some (.ref a))/\a∈B/\a ∉ Z/\H a=some (.lst xs)/\az K B H ds xs
 dis:∀(i j:Nat) (a:Addr) (ds es:List D),δ[i]? =some (.bld ds)->δ[j]? =some (.bld es)->σ[i]? =some (some (.ref a))->σ[j]? =some (some (.ref a))->i=j
theorem i9.same{K:W.Frag}{Z B:List Addr}{δ:aq}(E:i9 K Z B H σ δ)(s:aH H H'):i9 K Z B H' σ δ where
 len:=E.len
 bs:=fun a ha=>let⟨o,e⟩:=E.bs a ha;⟨o,s a o e⟩
 zb:=E.zb
 val:=fun i d e=>let⟨v,h1,h2⟩:=E.val i d e;⟨v,h1,h2.same s⟩
 bld:=fun i ds e=>let⟨a,xs,h1,h2,h3,h4,h5⟩:=E.bld i ds e;⟨a,xs,h1,h2,h3,s a _ h4,h5.same s⟩
 dis:=E.dis
def Lx(δ:aq):aq:=δ.map fun x=>match x with | .bld ds=> .val (.lst ds) | y=>y
theorem PE.imp{X:Cx}{t t':TE}(h:PE X e t)(w:∀σ H Q,t' σ H Q->t σ H Q):PE X e t':=fun pins s σ H Q I hq=>h pins s σ H Q I (w σ H Q hq)
theorem PT.imp{X:Cx}{t t':TT}(h:PT X e t)(w:∀σ H Q,t' σ H Q->t σ H Q):PT X e t':=fun pins s σ H Q I hq=>h pins s σ H Q I (w σ H Q hq)
theorem PA.imp{X:Cx}{t t':TA}(h:PA X e t)(w:∀σ H Q,t' σ H Q->t σ H Q):PA X e t':=fun pos pins s σ H Q I hq=>h pos pins s σ H Q I (w σ H Q hq)
theorem PS.imp{X:Cx}{t t':TS}(h:PS X e t)(w:∀D σ H,t' D σ H->t D σ H):PS X e t':=fun pins s σ H D I hq=>h pins s σ H D I (w D σ H hq)
theorem uZ.imp{X:Cx}{t t':TS}(h:uZ X e t)(w:∀D σ H,t' D σ H->t D σ H):uZ X e t':=fun pins s σ H D I hq=>h pins s σ H D I (w D σ H hq)
theorem PG.imp{X:Cx}{t t':TG}(h:PG X e t)(w:∀v σ H Q,t' v σ H Q->t v σ H Q):PG X e t':=fun pins s σ H v u Q I r hq=>h pins s σ H v u Q I r (w v σ H Q hq)
theorem PI.imp{X:Cx}{t t':TI}(h:PI X tg e t)(w:∀σ H Q,t' σ H Q->t σ H Q):PI X tg e t':=fun pins s σ H Q I hq=>h pins s σ H Q I (w σ H Q hq)
abbrev FD:=aq->R D
def tD(K:W.Frag)(f:FD):TE:=fun σ H Q=>∃Z B δ d,i9 K Z B H σ δ/\f δ= .ok d/\∀v H',aH H H'->Rep K B H' d v->Q v H'
def tN(K:W.Frag)(f:aq->R (List D)):TE:=fun σ H Q=>∃Z B δ ds,i9 K Z B H σ δ/\f δ= .ok ds/\∀a xs H',aH H H'->H a=none->H' a=some (.lst xs)->az K (a ::B) H' ds xs->Q (.ref a) H'
def Ha(K:W.Frag)(f:aq->R Bool):TT:=fun σ H Q=>∃Z B δ b,i9 K Z B H σ δ/\f δ= .ok b/\∀H',aH H H'->Q b H'
def R0(K:W.Frag)(f:aq->R (List D)):TA:=fun σ H Q=>∃Z B δ ds,i9 K Z B H σ δ/\f δ= .ok ds/\∀vs H',aH H H'->az K B H' ds vs->Q vs H'
abbrev PD(X:Cx)(e:Expr)(f:FD):Prop:=PE X e (tD X.K f)
abbrev PN(X:Cx)(e:Expr)(f:aq->R (List D)):Prop:=PE X e (tN X.K f)
abbrev PB(X:Cx)(e:Expr)(f:aq->R Bool):Prop:=PT X e (Ha X.K f)
abbrev Bd(X:Cx)(es:List Expr)(f:aq->R (List D)):Prop:=PA X es (R0 X.K f)
section
variable {X:Cx}
def eNew(f:aq->R (List D)):FD:=fun δ=>(f δ).bind fun ds=> .ok (.lst ds)
theorem JV{f:aq->R (List D)}(h:PN X e f):PD X e (eNew f):=h.imp fun σ H Q ⟨Z,B,δ,d,E,hf,q⟩=>by
 obtain⟨ds,h1,h2⟩:=R.af hf;cases h2;refine⟨Z,B,δ,ds,E,h1,fun a xs H' s n e r=>q _ H' s ?_⟩
 unfold Rep;refine⟨a,xs,rfl, .inl ⟨fun ha=>?_, .inl e⟩,r.bp fun b o e nb=>⟨e,fun hb=>nb (List.mem_cons_of_mem _ hb)⟩⟩
 obtain⟨o,ho⟩:=E.bs a ha;rw[n] at ho;cases ho
theorem vV{B:List Addr}{H:Hp}{p:Addr}{o:HO}(h:H p=none):eh B H (p ::B) (upd H p o):=fun b u e nb=>
 ⟨by rw[aW (bf e h)];exact e,fun hb=>by
   rcases List.mem_cons.mp hb with z | z
   .exact bf e h z
   .exact nb z⟩
def RO(f:FD):FD:=fun δ=>(f (Lx δ)).bind fun d=>R.aI d.atom (.ok d)
def Q_(f:aq->R Bool):aq->R Bool:=fun δ=>f (Lx δ)
def ag(i:Nat):FD:=fun δ=>match δ[i]? with | some (.val d)=> .ok d | _=> .no
def eC(d:D):FD:=fun _=> .ok d
theorem HF(i:Nat){x:Str}{pos:Pos}(hN:X.N[i]? =some x:=by rfl)(hv:Lu X.env.scope x:=by first | exact Or.inl rfl | exact Or.inr (Or.inl rfl) | exact Or.inr (Or.inr rfl))(hd:(x==("__debug__":Str))=false:=by decide)
 (xf:(x==("__classdict__":Str))=false:=by decide):PD X (.Name x pos) (ag i):=(Dl hN hv hd xf).imp fun σ H Q ⟨Z,B,δ,d,E,hf,q⟩=>by
 unfold ag at hf;split at hf
 .rename_i d' e;cases hf;obtain⟨v,h1,h2⟩:=E.val i d e;exact⟨v,h1,q v H (aH.refl H) h2⟩
 .cases hf
theorem pV{v:V}{d:D}(h:PE X e (tC v))(r:∀B H,Rep X.K B H d v):PD X e (eC d):=h.imp fun σ H Q ⟨Z,B,δ,d',E,hf,q⟩=>by
 cases hf;exact q v H (aH.refl H) (r B H)
theorem H_{i j pos}:PD X (.Constant (.int i) j pos) (eC (.int i)):=pV IC fun _ _=>by unfold Rep;rfl
theorem Ly{b j pos}:PD X (.Constant (.bool b) j pos) (eC (.bl b)):=pV Lq fun _ _=>by unfold Rep;rfl
theorem Hv{x j pos}:PD X (.Constant (.str x) j pos) (eC (.str x)):=pV Hn fun _ _=>by unfold Rep;rfl
def Glob(K:W.Frag)(mg:Yd)(x:Str)(d:D):Prop:=∃(u:Value) (v:V),mg x=some u/\RelV v u/\∀B H,Rep K B H d v
theorem E6{d:D}{pos:Pos}(g:Glob X.K X.mg x d)(hg:Gl X x)(hd:(x==("__debug__":Str))=false:=by decide):PD X (.Name x pos) (eC d):=by
 obtain⟨u,v,hm,r,h⟩:=g;exact pV (dk hg hm r hd) h
def aJ:aq->R (List D):=fun _=> .ok []
def ai(f:FD)(g:aq->R (List D)):aq->R (List D):=fun δ=>(f δ).bind fun d=>(g δ).bind fun ds=> .ok (d ::ds)
theorem E5:Bd X [] aJ:=lW.imp fun σ H Q ⟨Z,B,δ,d,E,hf,q⟩=>by
 cases hf;exact q [] H (aH.refl H) az.nil
theorem Cr{g:aq->R (List D)}(h:PD X e f)(t:Bd X es g)(hs:starEach (e ::es) X.env=(false,eval e X.env) ::starEach es X.env:=by rfl):Bd X (e ::es) (ai f g):=
 (fZ h t hs).imp fun σ H Q ⟨Z,B,δ,d,E,hf,q⟩=>by
   obtain⟨d1,h1,h2⟩:=R.af hf;obtain⟨ds,h3,h4⟩:=R.af h2;cases h4;exact⟨Z,B,δ,d1,E,h1,fun v H1 s1 r1=>⟨Z,B,δ,ds,E.same s1,h3,fun vs H2 s2 r2=>q _ H2 (s1.trans s2) (az.cons (r1.same s2) r2)⟩⟩
def qO(g:aq->R (List D)):FD:=fun δ=>(g δ).bind fun ds=>R.aI (decide (ds.length<=sizeLine)) (.ok (.tup ds))
def e8(g:aq->R (List D)):aq->R (List D):=fun δ=>(g δ).bind fun ds=>R.aI (decide (ds.length<=sizeLine)) (.ok ds)
theorem bz{H:Hp}{p:Addr}{o:HO}(h:H p=none):aH H (upd H p o):=fun b u e=>by rw[aW (bf e h)];exact e
theorem IF{g:aq->R (List D)}{x1 pos}(h:Bd X es g):PD X (.Tuple es x1 pos) (qO g):=(xF h).imp fun σ H Q ⟨Z,B,δ,d,E,hf,q⟩=>by
 obtain⟨ds,h1,h2⟩:=R.af hf;obtain⟨hl,h3⟩:=R.aN h2;cases h3;refine⟨Z,B,δ,ds,E,h1,fun vs H1 s1 r1=>⟨by rw[<-r1.length];exact of_decide_eq_true hl,fun p hp=>q _ _ (s1.trans (bz hp)) ?_⟩⟩
 unfold Rep;refine⟨p,vs,rfl, .inl ⟨fun ha=>?_, .inl a_⟩,r1.same (bz hp)⟩
 obtain⟨o,ho⟩:=(E.same s1).bs p ha;rw[hp] at ho;cases ho
theorem Ht{g:aq->R (List D)}{pos}(h:Bd X es g):PN X (.List es pos) (e8 g):=(BQ h).imp fun σ H Q ⟨Z,B,δ,d,E,hf,q⟩=>by
 obtain⟨ds,h1,h2⟩:=R.af hf;obtain⟨hl,h3⟩:=R.aN h2;cases h3;exact⟨Z,B,δ,_,E,h1,fun vs H1 s1 r1=>⟨by rw[<-r1.length];exact of_decide_eq_true hl,fun p hp=>q p vs _ (s1.trans (bz hp)) (s1.free hp) a_ (r1.bp (vV hp))⟩⟩
def mC(X:Cx)(f:Value->Value->Sem Value)(g:D->D->R D):Prop:=
 ∀(pins:X9) (s:Shared) (σ:St) (H:Hp) (B:List Addr) (da db d:D) (x y:V) (v u:Value),Inv X pins σ H s->(∀a∈B,∃o,H a=some o)->RelV x v->RelV y u->Rep X.K B H da x->Rep X.K B H db y->g da db= .ok d->
  wpAny (model X.prog X.w) X.A (f v u) (EP X pins σ fun z H'=>aH H H'/\Rep X.K B H' d z) X.xe s
def e2(g:D->D->R D)(fa fb:FD):FD:=fun δ=>(fa δ).bind fun a=>(fb δ).bind fun b=>g a b
theorem mC.r{f:Value->Value->Sem Value}{g:D->D->R D}(h:mC X f g):m3 X f (fun x y H Q=>∃B da db d,(∀a∈B,∃o,H a=some o)/\Rep X.K B H da x/\Rep X.K B H db y/\g da db= .ok d/\∀z H',aH H H'->Rep X.K B H' d z->Q z H'):=by
 intro pins s σ H x y v u Q I rx ry ⟨B,da,db,d,hb,ha,rp,hg,q⟩;exact cU (h pins s σ H B da db d x y v u I hb rx ry ha rp hg) fun z s' ⟨zv,H',I',r',s1,r1⟩=>⟨zv,H',I',r',q zv H' s1 r1⟩
theorem HV{K:W.Frag}{g:D->D->R D}{Q:VK}(h:tD K (e2 g fa fb) σ H Q) :
 Km (fun x y H Q=>∃B da db d,(∀a∈B,∃o,H a=some o)/\Rep K B H da x/\Rep K B H db y/\g da db= .ok d/\∀z H',aH H H'->Rep K B H' d z->Q z H') (tD K fa) (tD K fb) σ H Q:=by
 obtain⟨Z,B,δ,d,E,hf,q⟩:=h;obtain⟨d1,h1,h2⟩:=R.af hf;obtain⟨d2,h3,h4⟩:=R.af h2;exact⟨Z,B,δ,d1,E,h1,fun v1 H1 s1 r1=>⟨Z,B,δ,d2,E.same s1,h3,fun v2 H2 s2 r2=>⟨B,d1,d2,d,(E.same (s1.trans s2)).bs,r1.same s2,r2,h4,fun z H' s3 r3=>q z H' (s1.trans (s2.trans s3)) r3⟩⟩⟩
theorem KU{op:Operator}{g:D->D->R D}(ho:mC X (binaryOp op) g)(ha:PD X a fa)(hb:PD X b fb):PD X (.BinOp a op b pos) (e2 g fa fb):=
 (G6 ho.r ha hb).imp fun σ H Q h=>HV h
theorem IG{op:CmpOp}{g:D->D->R D}(ho:mC X (compareOp op) g)(ha:PD X a fa)(hb:PD X b fb)(hm:behindInMarks op b=false):PD X (.Compare a [op] [b] pos) (e2 g fa fb):=
 (EH ho.r ha hb hm).imp fun σ H Q h=>HV h
def b2(g:D->D->R D)(fa fb:FD):aq->R Bool:=fun δ=>(e2 g fa fb δ).bind fun d=>match d with | .bl b=> .ok b | _=> .no
theorem Iq{op:CmpOp}{g:D->D->R D}(ho:mC X (compareOp op) g)(ha:PD X a fa)(hb:PD X b fb)(hm:behindInMarks op b=false):PB X (.Compare a [op] [b] pos) (b2 g fa fb):=
 (yI ho.r ha hb hm).imp fun σ H Q ⟨Z,B,δ,b,E,hf,q⟩=>by
   obtain⟨d,h1,h2⟩:=R.af hf;cases d with
   | bl k=>
     cases h2;exact HV (g:=g) (Q:=fun x H'=>∃k,x= .bl k/\Q k H') ⟨Z,B,δ, .bl b,E,h1,fun v H' s r=>⟨b,by unfold Rep at r;exact r,q H' s⟩⟩
   | _=>cases h2
def qo(g g':D->D->R D)(fa fb fc:FD):FD:=fun δ=>(fa δ).bind fun a=>(fb δ).bind fun b=>(g a b).bind fun r=>match r with
 | .bl true=>(fc δ).bind fun c=>g' b c
 | .bl false=> .ok (.bl false)
 | _=> .no
theorem Gp{K:W.Frag}{g g':D->D->R D}{Q:VK}(h:tD K (qo g g' fa fb fc) σ H Q) :
 Dq (fun x y H Q=>∃B da db d,(∀a∈B,∃o,H a=some o)/\Rep K B H da x/\Rep K B H db y/\g da db= .ok d/\∀z H',aH H H'->Rep K B H' d z->Q z H')
  (fun x y H Q=>∃B da db d,(∀a∈B,∃o,H a=some o)/\Rep K B H da x/\Rep K B H db y/\g' da db= .ok d/\∀z H',aH H H'->Rep K B H' d z->Q z H') (tD K fa) (tD K fb) (tD K fc) σ H Q:=by
 obtain⟨Z,B,δ,d,E,hf,q⟩:=h;obtain⟨d1,h1,h2⟩:=R.af hf;obtain⟨d2,h3,h4⟩:=R.af h2;obtain⟨d3,h5,h6⟩:=R.af h4;refine⟨Z,B,δ,d1,E,h1,fun v1 H1 s1 r1=>⟨Z,B,δ,d2,E.same s1,h3,fun v2 H2 s2 r2=>⟨B,d1,d2,d3,(E.same (s1.trans s2)).bs,r1.same s2,r2,h5,fun z H3 s3 r3=>?_⟩⟩⟩
 cases d3 with
 | bl k=>
   refine⟨k,by unfold Rep at r3;exact r3,?_⟩
   cases k with
   | true=>
     rw[if_pos rfl];obtain⟨d4,h7,h8⟩:=R.af h6;exact⟨Z,B,δ,d4,E.same (s1.trans (s2.trans s3)),h7,fun v4 H4 s4 r4=>⟨B,d2,d4,d,(E.same (s1.trans (s2.trans (s3.trans s4)))).bs,r2.same (s3.trans s4),r4,h8,fun z H' s5 r5=>q z H' (s1.trans (s2.trans (s3.trans (s4.trans s5)))) r5⟩⟩
   | false=>
     rw[if_neg (by decide)]
     cases h6;exact q _ H3 (s1.trans (s2.trans s3)) (by unfold Rep;rfl)
 | _=>cases h6
theorem BG{op D2:CmpOp}{g g':D->D->R D}{a b c:Expr}{fa fb fc:FD}{pos:Pos}(ho:mC X (compareOp op) g)(qy:mC X (compareOp D2) g')(ha:PD X a fa)(hb:PD X b fb)(hc:PD X c fc)
 (hm:lastMarks [op,D2] [b,c]=false:=by with_unfolding_all rfl):PD X (.Compare a [op,D2] [b,c] pos) (qo g g' fa fb fc):=
 (CT ho.r qy.r ha hb hc hm).imp fun σ H Q h=>Gp h
def Jc:D->R Bool
 | .cu=> .ok false
 | .bl b=> .ok b
 | .int i=> .ok (i !=0)
 | .str x=>R.aI (decide (x.length<=sizeLine)) (.ok ((x.length:Int) !=0))
 | .lst ds=> .ok (!ds.isEmpty)
 | .tup ds=> .ok (!ds.isEmpty)
 | .dct _ _=> .no
def tq(f:FD):aq->R Bool:=fun δ=>(f δ).bind Jc
theorem az.isEmpty{K:W.Frag}{B:List Addr}{ds:List D}{xs:List V}(h:az K B H ds xs):ds.isEmpty=xs.isEmpty:=by
 have:=h.length;cases ds <;> cases xs <;> simp_all
theorem Jp{K:W.Frag}{B:List Addr}{d:D}{v:V}{b:Bool}(r:Rep K B H d v)(h:Jc d= .ok b):IQ K v H b:=by
 cases d with
 | cu=>unfold Rep at r;subst r;cases h;exact rfl
 | bl k=>unfold Rep at r;subst r;cases h;exact rfl
 | int i=>unfold Rep at r;subst r;cases h;exact rfl
 | str x=>unfold Rep at r;subst r;obtain⟨h1,h2⟩:=R.aN h;cases h2;exact⟨of_decide_eq_true h1,rfl⟩
 | lst ds=>unfold Rep at r;obtain⟨a,xs,rfl,l,r⟩:=r;cases h;exact .inl ⟨xs,l.sq,by rw[r.isEmpty]⟩
 | tup ds=>unfold Rep at r;obtain⟨a,xs,rfl,l,r⟩:=r;cases h;exact .inr (.inl ⟨xs,l.sq,by rw[r.isEmpty]⟩)
 | dct _ _=>cases h
theorem HZ{a:Expr}(ha:PD X a f)(he:∀whole,isTrue a X.env whole=(do let v <-whole;standAt a.pos;holding [v] (truthy v)):=by intro _;rfl):PB X a (tq f):=
 (wZ ha he).imp fun σ H Q ⟨Z,B,δ,b,E,hf,q⟩=>by
   obtain⟨d,h1,h2⟩:=R.af hf;exact⟨Z,B,δ,d,E,h1,fun v H' s r=>⟨b,Jp r h2,q H' s⟩⟩
def AZ(f g:aq->R Bool):aq->R Bool:=fun δ=>(f δ).bind fun b=>if b then g δ else .ok false
def AE(f g:aq->R Bool):aq->R Bool:=fun δ=>(f δ).bind fun b=>if b then .ok true else g δ
def ya(f:aq->R Bool):aq->R Bool:=fun δ=>(f δ).bind fun b=> .ok (!b)
def D_(X:Cx)(e:Expr)(f:aq->R Bool):Prop:=PW X e (Ha X.K f)
theorem D_.pb{f:aq->R Bool}(h:D_ X e f):PB X e f:=PW.pt h
theorem Bt{f:aq->R Bool}(h:PB X a f):D_ X (.BoolOp .And [a] pos) f:=Fu h
theorem EF{f:aq->R Bool}(h:PB X a f):D_ X (.BoolOp .Or [a] pos) f:=BM h
theorem Gj{rest:List Expr}{f g:aq->R Bool}(ha:PB X a f)(hb:D_ X (.BoolOp .And (b ::rest) pos) g):D_ X (.BoolOp .And (a ::b ::rest) pos) (AZ f g):=by
 intro wh pins s σ H Q I ⟨Z,B,δ,k,E,hf,q⟩;refine Iy ha hb wh pins s σ H Q I ?_;obtain⟨c,h1,h2⟩:=R.af hf;refine⟨Z,B,δ,c,E,h1,fun H1 s1=>?_⟩
 cases c with
 | true=>rw [if_pos rfl] at h2 ⊢;exact⟨Z,B,δ,k,E.same s1,h2,fun H' s2=>q H' (s1.trans s2)⟩
 | false=>rw [if_neg (by decide)] at h2 ⊢;cases h2;exact q H1 s1
theorem I_{rest:List Expr}{f g:aq->R Bool}(ha:PB X a f)(hb:D_ X (.BoolOp .Or (b ::rest) pos) g):D_ X (.BoolOp .Or (a ::b ::rest) pos) (AE f g):=by
 intro wh pins s σ H Q I ⟨Z,B,δ,k,E,hf,q⟩;refine GI ha hb wh pins s σ H Q I ?_;obtain⟨c,h1,h2⟩:=R.af hf;refine⟨Z,B,δ,c,E,h1,fun H1 s1=>?_⟩
 cases c with
 | true=>rw [if_pos rfl] at h2 ⊢;cases h2;exact q H1 s1
 | false=>rw [if_neg (by decide)] at h2 ⊢;exact⟨Z,B,δ,k,E.same s1,h2,fun H' s2=>q H' (s1.trans s2)⟩
theorem JF{f:aq->R Bool}(ha:PB X a f):PB X (.UnaryOp .Not a pos) (ya f):=(BI ha).imp fun σ H Q ⟨Z,B,δ,k,E,hf,q⟩=>by
 obtain⟨c,h1,h2⟩:=R.af hf;cases h2;exact⟨Z,B,δ,c,E,h1,fun H1 s1=>q H1 s1⟩
def Kq(f:FD):aq->R Bool:=fun δ=>(f δ).bind fun d=>match d with | .bl b=> .ok b | _=> .no
def qw(f g:FD):FD:=fun δ=>(Kq f δ).bind fun b=>if b then g δ else .ok (.bl false)
def KZ(f g:FD):FD:=fun δ=>(Kq f δ).bind fun b=>if b then .ok (.bl true) else g δ
def Gv(f:FD):FD:=fun δ=>(Kq f δ).bind fun b=> .ok (.bl (!b))
theorem ym{f:FD}{δ:aq}{b:Bool}(h:Kq f δ= .ok b):f δ= .ok (.bl b):=by
 obtain⟨d,h1,h2⟩:=R.af h;cases d with
 | bl k=>cases h2;exact h1
 | _=>cases h2
theorem HY{op}(h:PD X a f):PD X (.BoolOp op [a] pos) f:=HR h
theorem Iv{rest:List Expr}(ha:PD X a f)(hb:PD X (.BoolOp .And (b ::rest) pos) g):PD X (.BoolOp .And (a ::b ::rest) pos) (qw f g):=(HH ha hb).imp fun σ H Q ⟨Z,B,δ,k,E,hf,q⟩=>by
 obtain⟨c,h1,h2⟩:=R.af hf;refine⟨Z,B,δ, .bl c,E,ym h1,fun v H1 s1 r1=>⟨c,by unfold Rep at r1;exact r1,?_⟩⟩
 cases c with
 | true=>rw [if_pos rfl] at h2 ⊢;exact⟨Z,B,δ,k,E.same s1,h2,fun v H' s2 r2=>q v H' (s1.trans s2) r2⟩
 | false=>rw [if_neg (by decide)] at h2 ⊢;cases h2;exact q _ H1 s1 (by unfold Rep;rfl)
theorem L5{rest:List Expr}(ha:PD X a f)(hb:PD X (.BoolOp .Or (b ::rest) pos) g):PD X (.BoolOp .Or (a ::b ::rest) pos) (KZ f g):=(Mv ha hb).imp fun σ H Q ⟨Z,B,δ,k,E,hf,q⟩=>by
 obtain⟨c,h1,h2⟩:=R.af hf;refine⟨Z,B,δ, .bl c,E,ym h1,fun v H1 s1 r1=>⟨c,by unfold Rep at r1;exact r1,?_⟩⟩
 cases c with
 | true=>rw [if_pos rfl] at h2 ⊢;cases h2;exact q _ H1 s1 (by unfold Rep;rfl)
 | false=>rw [if_neg (by decide)] at h2 ⊢;exact⟨Z,B,δ,k,E.same s1,h2,fun v H' s2 r2=>q v H' (s1.trans s2) r2⟩
theorem HW(ha:PD X a f):PD X (.UnaryOp .Not a pos) (Gv f):=(Cz ha).imp fun σ H Q ⟨Z,B,δ,k,E,hf,q⟩=>by
 obtain⟨c,h1,h2⟩:=R.af hf;cases h2;exact⟨Z,B,δ, .bl c,E,ym h1,fun v H1 s1 r1=>⟨c,by unfold Rep at r1;exact r1,q _ H1 s1 (by unfold Rep;rfl)⟩⟩
def XI(c:aq->R Bool)(f g:FD):FD:=fun δ=>(c δ).bind fun b=>if b then f δ else g δ
def dG(X:Cx)(f:Value)(g:List D->R D):Prop:=
 ∀(pins:X9) (s:Shared) (σ:St) (H:Hp) (B:List Addr) (ds:List D) (d:D) (xs:List V) (us:List Value),Inv X pins σ H s->(∀a∈B,∃o,H a=some o)->Vals xs us->az X.K B H ds xs->g ds= .ok d->
  wpAny (model X.prog X.w) X.A (call f us) (EP X pins σ fun z H'=>aH H H'/\Rep X.K B H' d z) X.xe s
def aM(g:List D->R D)(fs:aq->R (List D)):FD:=fun δ=>(fs δ).bind g
theorem dG.r{f:Value}{g:List D->R D}(h:dG X f g):jS X f (fun xs H Q=>∃B ds d,(∀a∈B,∃o,H a=some o)/\az X.K B H ds xs/\g ds= .ok d/\∀z H',aH H H'->Rep X.K B H' d z->Q z H'):=by
 intro pins s σ H xs us Q I rx ⟨B,ds,d,hb,hr,hg,q⟩;exact cU (h pins s σ H B ds d xs us I hb rx hr hg) fun z s' ⟨zv,H',I',r',s1,r1⟩=>⟨zv,H',I',r',q zv H' s1 r1⟩
theorem zc{K:W.Frag}{g:List D->R D}{fs:aq->R (List D)}{Q:VK}(h:tD K (aM g fs) σ H Q) :
 R0 K fs σ H fun vs H1=>∃B ds d,(∀a∈B,∃o,H1 a=some o)/\az K B H1 ds vs/\g ds= .ok d/\∀z H',aH H1 H'->Rep K B H' d z->Q z H':=by
 obtain⟨Z,B,δ,d,E,hf,q⟩:=h;obtain⟨ds,h1,h2⟩:=R.af hf;exact⟨Z,B,δ,ds,E,h1,fun vs H1 s1 r1=>⟨B,ds,d,(E.same s1).bs,r1,h2,fun z H' s2 r2=>q z H' (s1.trans s2) r2⟩⟩
theorem Br{g:List D->R D}{x:Str}{id:String}{p pos:Pos}{e:Expr}{es:List Expr}{fs:aq->R (List D)}(hc:dG X (.builtin id) g)(hg:Gl X x)(hm:X.mg x=none)(hv:bootBuiltins x=some (.builtin id))(ha:Bd X (e ::es) fs)(hn:x≠"__name__":=by decide)(j9:(x==("__debug__":Str))=false:=by decide)
 (he:starEach (e ::es) X.env=(false,eval e X.env) ::starEach es X.env:=by rfl) (lP:(backTo pos (starEach es X.env)).any (·.1)=false:=by rfl):PD X (.Call (.Name x p) (e ::es) [] pos) (aM g fs):=
 (pJ hc.r hg hm hv ha hn j9 he lP).imp fun σ H Q h=>zc h
theorem Ae{g:List D->R D}{x:Str}{T:String}{p pos:Pos}{e:Expr}{es:List Expr}{fs:aq->R (List D)}(hc:dG X (.type T) g)(hg:Gl X x)(hm:X.mg x=none)(hv:bootBuiltins x=some (.type T))(ha:Bd X (e ::es) fs)(hn:x≠"__name__":=by decide)(j9:(x==("__debug__":Str))=false:=by decide)
 (he:starEach (e ::es) X.env=(false,eval e X.env) ::starEach es X.env:=by rfl) (lP:(backTo pos (starEach es X.env)).any (·.1)=false:=by rfl):PD X (.Call (.Name x p) (e ::es) [] pos) (aM g fs):=
 (ub hc.r hg hm hv ha hn j9 he lP).imp fun σ H Q h=>zc h
def EZ(K:W.Frag)(n:Nat)(g:List D->R D):Sp:=fun vs H Q _=>vs.length=n/\∃B ds d,(∀a∈B,∃o,H a=some o)/\az K B H ds vs/\g ds= .ok d/\∀z H',aH H H'->Rep K B H' d z->Q z H'
theorem Fv{g:List D->R D}{k n:Nat}{f:Addr}{fd:FuncData}{ps:List Str}{x:Str}{p pos:Pos}{e:Expr}{es:List Expr}{fs:aq->R (List D)}
 (F:iT X.prog X.w X.K X.mg X.base t_ k f fd ps (EZ X.K n g)) (hr:dw k X.A) (hg:Gl X x) (hm:X.mg x=some (.ref f)) (hk:PySem.W.keepIn X.K (.ref f)=true) (hb:Binds X.K fd ps []) (ha:Bd X (e ::es) fs)
 (hn:∀δ ds,fs δ= .ok ds->ds.length=n) (j9:(x==("__debug__":Str))=false:=by decide) (he:starEach (e ::es) X.env=(false,eval e X.env) ::starEach es X.env:=by rfl) (lP:(backTo pos (starEach es X.env)).any (·.1)=false:=by rfl) :
 PD X (.Call (.Name x p) (e ::es) [] pos) (aM g fs):=
 (uF F hr hg hm hk hb .nil Cq ha j9 he lP).imp fun σ H Q ⟨Z,B,δ,d,E,hf,q⟩=>by
   obtain⟨ds,h1,h2⟩:=R.af hf;refine⟨Z,B,δ,ds,E,h1,fun vs H1 s1 r1=>?_⟩
   show EZ X.K n g (vs++[]) H1 Q E0;rw[List.append_nil];exact⟨by rw[<-r1.length];exact hn δ ds h1,B,ds,d,(E.same s1).bs,r1,h2,fun z H' s2 r2=>q z H' (s1.trans s2) r2⟩
end
end L2
end
section
namespace L2
open PySem PySem.Spec PyProof.Rows
inductive Out where
 | nx (δ:aq) | rt (d:D)
abbrev FS:=aq->R Out
structure Ev (Z B:List Addr) (H:Hp) (B':List Addr) (H':Hp):Prop where
 bp:eh B H B' H'
 zs:∀b o,H b=some o->b∈Z->H' b=some o/\b∈B'
theorem Ev.refl(Z B:List Addr)(H:Hp)(zb:∀a∈Z,a∈B):Ev Z B H B H:=⟨eh.refl B H,fun b o e z=>⟨e,zb b z⟩⟩
theorem Ev.trans{Z B B' MR:List Addr}(a:Ev Z B H B' H')(b:Ev Z B' H' MR pX):Ev Z B H MR pX:=
 ⟨a.bp.trans b.bp,fun c o e z=>let⟨e1,_⟩:=a.zs c o e z;b.zs c o e1 z⟩
theorem Ev.same{Z B:List Addr}(zb:∀a∈Z,a∈B)(s:aH H H'):Ev Z B H B H':=⟨eh.same s,fun b o e z=>⟨s b o e,zb b z⟩⟩
def zr(K:W.Frag)(Z B:List Addr)(H:Hp)(D:Ends):Out->Prop
 | .nx i4=>∀cj B' H',Ev Z B H B' H'->i9 K Z B' H' cj i4->D.nx cj H'
 | .rt d=>∀v B' H',Ev Z B H B' H'->(∀a∈Z,a∈B')->Rep K B' H' d v->D.rt v H'
theorem zr.ev{K:W.Frag}{Z B B1:List Addr}{D:Ends}{o:Out}(q:zr K Z B H D o)(ev:Ev Z B H B1 H1):zr K Z B1 H1 D o:=by
 cases o with
 | nx i4=>exact fun cj B' H' Kg E'=>q cj B' H' (ev.trans Kg) E'
 | rt d=>exact fun v B' H' Kg z r=>q v B' H' (ev.trans Kg) z r
def sD(K:W.Frag)(F:FS):TS:=fun D σ H=>∃Z B δ o,i9 K Z B H σ δ/\F δ= .ok o/\zr K Z B H D o
abbrev JS(X:Cx)(st:Stmt)(F:FS):Prop:=PS X st (sD X.K F)
abbrev u7(X:Cx)(st:List Stmt)(F:FS):Prop:=uZ X st (sD X.K F)
section
variable {X:Cx}
def kJ:FS:=fun δ=> .ok (.nx δ)
def cn(F G:FS):FS:=fun δ=>(F δ).bind fun o=>match o with | .nx i4=>G i4 | .rt d=> .ok (.rt d)
theorem EC:u7 X [] kJ:=ur.imp fun D σ H ⟨Z,B,δ,o,E,hf,q⟩=>by
 cases hf;exact q σ B H (Ev.refl Z B H E.zb) E
theorem HE{K:W.Frag}{F G:FS}{D:Ends}(h:sD K (cn F G) D σ H):Lj (sD K F) (sD K G) D σ H:=by
 obtain⟨Z,B,δ,o,E,hf,q⟩:=h;obtain⟨o1,h1,h2⟩:=R.af hf;refine⟨Z,B,δ,o1,E,h1,?_⟩;cases o1 with
 | nx δ1=>
   intro Qn B1 H1 ev E1;refine⟨Z,B1,δ1,o,E1,h2,?_⟩;cases o with
   | nx kQ=>exact fun cj B' H' Kg E'=>q cj B' H' (ev.trans Kg) E'
   | rt d=>exact fun v B' H' Kg z r=>q v B' H' (ev.trans Kg) z r
 | rt d=>
   cases h2;exact q
theorem Bp{st:Stmt}{rest:List Stmt}{F G:FS}(h1:JS X st F)(h2:u7 X rest G):u7 X (st ::rest) (cn F G):=(rB h1 h2).imp fun D σ H h=>HE h
theorem Fs{st:Stmt}{F:FS}(h1:JS X st F):u7 X [st] F:=uE h1
theorem i9.set{K:W.Frag}{Z B:List Addr}{σ:St}{δ:aq}(E:i9 K Z B H σ δ){i:Nat}{d:D}{v:V}(hi:i < σ.length)(r:Rep K B H d v):i9 K Z B H (σ.set i (some v)) (δ.set i (.val d)) where
 len:=by rw[List.length_set,List.length_set];exact E.len
 bs:=E.bs
 zb:=E.zb
 val:=fun j d' e=>by
  by_cases h:i=j
  .subst h;rw[List.getElem?_set_self (by rw[E.len];exact hi)] at e
   cases e;exact⟨v,List.getElem?_set_self hi,r⟩
  .rw [List.getElem?_set_ne h] at e ⊢;exact E.val j d' e
 bld:=fun j ds e=>by
  by_cases h:i=j
  .subst h;rw[List.getElem?_set_self (by rw[E.len];exact hi)] at e
   cases e
  .rw [List.getElem?_set_ne h] at e ⊢;exact E.bld j ds e
 dis:=fun j k a ds es e1 e2 e3 e4=>by
  by_cases h:i=j
  .subst h;rw[List.getElem?_set_self (by rw[E.len];exact hi)] at e1
   cases e1
  .by_cases h':i=k
   .subst h';rw[List.getElem?_set_self (by rw[E.len];exact hi)] at e2
    cases e2
   .rw [List.getElem?_set_ne h] at e1 e3;rw[List.getElem?_set_ne h'] at e2 e4;exact E.dis j k a ds es e1 e2 e3 e4
def cD(i:Nat)(f:FD):FS:=fun δ=>(f δ).bind fun d=>R.aI (decide (i < δ.length)) (.ok (.nx (δ.set i (.val d))))
theorem Dy{K:W.Frag}{i:Nat}{D:Ends}(h:sD K (cD i f) D σ H):JC (tD K f) (wL i) D σ H:=by
 obtain⟨Z,B,δ,o,E,hf,q⟩:=h;obtain⟨d,h1,h2⟩:=R.af hf;obtain⟨hi,h3⟩:=R.aN h2;cases h3;refine⟨Z,B,δ,d,E,h1,fun v H1 s1 r1=>?_⟩
 exact q _ B H1 (Ev.same E.zb s1) ((E.same s1).set (by rw[<-E.len];exact of_decide_eq_true hi) r1)
theorem FR{i:Nat}{pos pos':Pos}(hN:X.N.Nodup)(hi:X.N[i]? =some x)(hx:Loc X.env.scope x)(he:PD X e f)(hs:swapsWith e (some (.Name x pos')) pos.line X.env=pure false:=by rfl)(hf:X.fn x=true\/X.env.scope.names.lookup x=some .local:=by first | exact .inl rfl | exact .inr rfl | assumption) :
 JS X (.Assign [.Name x pos'] e pos) (cD i f):=(Df hN hi hx he hs hf).imp fun D σ H h=>Dy h
def TC(i:Nat)(f:aq->R (List D)):FS:=fun δ=>(f δ).bind fun ds=>R.aI (decide (i < δ.length)) (.ok (.nx (δ.set i (.bld ds))))
def yY(δ:aq)(i:Nat):R (List D):=match δ[i]? with | some (.bld ds)=> .ok ds | _=> .no
def UC(i:Nat)(f:FD):FS:=fun δ=>(f δ).bind fun d=>(yY δ i).bind fun ds=>R.aI (decide (ds.length < sizeLine)) (.ok (.nx (δ.set i (.bld (ds++[d])))))
def Vi(i:Nat)(f:aq->R (List D)):FS:=fun δ=>(f δ).bind fun es=>(yY δ i).bind fun ds=>R.aI (decide (ds.length+es.length<=sizeLine)) (.ok (.nx (δ.set i (.bld (ds++es)))))
def pO(i:Nat)(δ:aq):aq:=match δ[i]? with | some (.bld ds)=>δ.set i (.val (.lst ds)) | _=>δ
def TY(i:Nat)(F:FS):FS:=fun δ=>F (pO i δ)
def ja(f:FD):FS:=fun δ=>(f δ).bind fun d=> .ok (.rt d)
theorem E4(he:PD X e f):JS X (.Return (some e) pos) (ja f):=(Cj he).imp fun D σ H ⟨Z,B,δ,o,E,hf,q⟩=>by
 obtain⟨d,h1,h2⟩:=R.af hf;cases h2;exact⟨Z,B,δ,d,E,h1,fun v H1 s1 r1=>q v B H1 (Ev.same E.zb s1) E.zb r1⟩
def qQ(c:aq->R Bool)(F G:FS):FS:=fun δ=>(c δ).bind fun b=>if b then F δ else G δ
theorem Ic{fc:aq->R Bool}{F G:FS}(hc:PB X c fc)(ha:u7 X a F)(hb:u7 X b G):JS X (.If c a b pos) (qQ fc F G):=(Di hc ha hb).imp fun D σ H ⟨Z,B,δ,o,E,hf,q⟩=>by
 obtain⟨k,h1,h2⟩:=R.af hf;refine⟨Z,B,δ,k,E,h1,fun H1 s1=>?_⟩
 have q':=q.ev (Ev.same E.zb s1);cases k with
 | true=>rw [if_pos rfl] at h2;exact BU ⟨Z,B,δ,o,E.same s1,h2,q'⟩
 | false=>rw [if_neg (by decide)] at h2;exact DJ ⟨Z,B,δ,o,E.same s1,h2,q'⟩
abbrev FT:=D->aq->R aq
def gD(K:W.Frag)(t:FT):TG:=fun v σ H Q=>∃Z B δ d i4,i9 K Z B H σ δ/\Rep K B H d v/\t d δ= .ok i4/\∀cj H',aH H H'->i9 K Z B H' cj i4->cj.length=σ.length->Q cj H'
abbrev MU(X:Cx)(tg:Expr)(t:FT):Prop:=PG X tg (gD X.K t)
def lY(i:Nat):FT:=fun d δ=>R.aI (decide (i < δ.length)) (.ok (δ.set i (.val d)))
theorem Cw{i:Nat}{pos:Pos}(hN:X.N.Nodup)(hi:X.N[i]? =some x)(hx:Loc X.env.scope x)(hf:X.fn x=true\/X.env.scope.names.lookup x=some .local:=by first | exact .inl rfl | exact .inr rfl | assumption):MU X (.Name x pos) (lY i):=
 (zL hN hi hx hf).imp fun v σ H Q ⟨Z,B,δ,d,i4,E,r,ht,q⟩=>by
   obtain⟨hi,h⟩:=R.aN ht;cases h;exact q _ H (aH.refl H) (E.set (by rw[<-E.len];exact of_decide_eq_true hi) r) (List.length_set ..)
abbrev GR:=List D->aq->R aq
def TK(K:W.Frag)(t:GR):GV:=fun vs σ H Q=>∃Z B δ ds i4,i9 K Z B H σ δ/\az K B H ds vs/\t ds δ= .ok i4/\∀cj H',aH H H'->i9 K Z B H' cj i4->cj.length=σ.length->Q cj H'
abbrev OL(X:Cx)(ts:List Expr)(t:GR):Prop:=RJ X ts (TK X.K t)
def Rg:GR:=fun ds δ=>match ds with | []=> .ok δ | _=> .no
def NB(t:FT)(u:GR):GR:=fun ds δ=>match ds with | d ::r=>(t d δ).bind fun i4=>u r i4 | []=> .no
def Ru(n:Nat)(t:GR):FT:=fun d δ=>match d with | .tup ds=>R.aI (decide (ds.length=n)) (t ds δ) | _=> .no
def TH(f:FD)(t:FT):FS:=fun δ=>(f δ).bind fun d=>(t d δ).bind fun i4=> .ok (.nx i4)
def CB(K:W.Frag)(B:List Addr)(H:Hp)(J:It)(ds:List D):Prop:=∀B' H',eh B H B' H'->(∀(i:Nat) (d:D),ds[i]? =some d->J.go i H'/\∀x pX,J.yld i H' x pX->(∀a∈B',∃o,H' a=some o)->aH H' pX/\Rep K B' pX d x)/\J.stop ds.length H'
def iD(K:W.Frag)(f:aq->R (List D)):TI:=fun σ H R=>∃Z B δ ds,i9 K Z B H σ δ/\f δ= .ok ds/\∀J H1,aH H H1->CB K B H1 J ds->R J H1
abbrev Ks(X:Cx)(tg e:Expr)(f:aq->R (List D)):Prop:=PI X tg e (iD X.K f)
def oa(f:FD):aq->R (List D):=fun δ=>(f δ).bind fun d=>match d with | .lst ds=> .ok ds | .tup ds=> .ok ds | _=> .no
theorem Fh(h:PD X e f):Ks X tg e (oa f):=by
 intro pins s σ H RR I ⟨Z,B,δ,ds,E,hf,q⟩;obtain⟨d,h1,h2⟩:=R.af hf;refine cU (h pins s σ H (fun v H1=>aH H H1/\Rep X.K B H1 d v) I ⟨Z,B,δ,d,E,h1,fun v H1 s1 r1=>⟨s1,r1⟩⟩) fun v s1 ⟨x,H1,I1,r1,ss,rr⟩=>?_
 cases d with
 | lst es=>
   cases h2;unfold Rep at rr;obtain⟨a,xs,rfl,l,rr⟩:=rr;cases r1;obtain⟨its,rv,p,hz⟩:=I1.list l.sq;refine wpAny_pyIter_list p.isList ?_;refine⟨s1.heap.objs.size,[s1.heap.objs.size],_,_,H1,rfl,I1.kept (t':=s1.toks) fun b o e=>Heap.get?_push_of_some _ e,AM a _,⟨_,Heap.get?_push_size _ rfl,rfl,rfl⟩,fun b hb=>?_,q _ H1 ss fun B' H' pr=>?_⟩
   .have e:b=s1.heap.objs.size:=by simpa using hb
    subst e;exact I1.Ag (Nat.le_refl _) (I1.hok.fresh (Nat.le_refl _))
   .have l':wJ X.K B' H' a xs:=l.bp pr;have rr':=rr.bp pr;refine⟨fun i d hd=>?_,⟨xs,l'.sq,by rw[rr.length];exact Nat.le_refl _⟩⟩
    obtain⟨x,hx,rx⟩:=rr'.get hd;exact⟨⟨xs,x,l'.sq,hx⟩,fun y pX ⟨e1,e2⟩ _=>by
     subst e1;have:=e2 xs l'.sq;rw[hx] at this;cases this;exact⟨aH.refl _,rx⟩⟩
 | tup es=>
   cases h2;unfold Rep at rr;obtain⟨a,xs,rfl,l,rr⟩:=rr;cases r1;obtain⟨its,rv,p,hz⟩:=I1.tuple l.sq;refine wpAny_pyIter_tuple (show s1.heap.IsTuple a its.toArray from p) ?_
   refine⟨s1.heap.objs.size,[s1.heap.objs.size],_,_,H1,rfl,I1.kept (t':=s1.toks) fun b o e=>Heap.get?_push_of_some _ e,yj a _,⟨_,Heap.get?_push_size _ rfl,rfl,rfl⟩,fun b hb=>?_,q _ H1 ss fun B' H' pr=>?_⟩
   .have e:b=s1.heap.objs.size:=by simpa using hb
    subst e;exact I1.Ag (Nat.le_refl _) (I1.hok.fresh (Nat.le_refl _))
   .have l':zh X.K B' H' a xs:=l.elim (fun z=> .inl ⟨(pr.rd z.2 z.1).2,(pr.rd z.2 z.1).1⟩) .inr
    have rr':=rr.bp pr;refine⟨fun i d hd=>?_,⟨xs,l'.sq,by rw[rr.length];exact Nat.le_refl _⟩⟩
    obtain⟨x,hx,rx⟩:=rr'.get hd;exact⟨⟨xs,x,l'.sq,hx⟩,fun y pX ⟨e1,e2⟩ _=>by
     subst e1;have:=e2 xs l'.sq;rw[hx] at this;cases this;exact⟨aH.refl _,rx⟩⟩
 | _=>cases h2
def qN(lo:Int)(n:Nat):List D:=(List.range n).map fun(i:Nat)=>D.int (lo+i)
theorem JB{K:W.Frag}{B:List Addr}(lo:Int)(n:Nat):CB K B H (L9 lo n) (qN lo n):=fun B' H' _=>by
 refine⟨fun i d hd=>?_,?_⟩
 .unfold qN at hd;rw[List.getElem?_map] at hd;cases e:(List.range n)[i]? with
  | none=>rw [e] at hd;cases hd
  | some j=>
    rw[e] at hd;cases hd;obtain⟨hi,ej⟩:=List.getElem?_eq_some_iff.mp e;rw[List.getElem_range] at ej;subst ej;rw[List.length_range] at hi;exact⟨hi,fun x pX ⟨e1,e2⟩ _=>by subst e1 e2;exact⟨aH.refl _,by unfold Rep;rfl⟩⟩
 .show n<=(qN lo n).length;unfold qN;rw[List.length_map,List.length_range];exact Nat.le_refl _
def l_(f:FD):aq->R (List D):=fun δ=>(f δ).bind fun d=>match d with | .int j=>R.aI (decide (-(2 ^ 62)<=j/\j < 2 ^ 62)) (.ok (qN 0 j.toNat)) | _=> .no
theorem x5{tg a:Expr}{p pos:Pos}(h:PD X a f)(hg:Gl X "range")(hm:X.mg "range"=none)(hs:starEach [a] X.env=[(false,eval a X.env)]:=by rfl):Ks X tg (.Call (.Name "range" p) [a] [] pos) (l_ f):=
 (z0 hg hm (fZ h lW hs) hs).imp fun σ H RR ⟨Z,B,δ,ds,E,hf,q⟩=>by
   obtain⟨d,h1,h2⟩:=R.af hf;cases d with
   | int j=>
     obtain⟨hb,h3⟩:=R.aN h2;cases h3;have hb:=of_decide_eq_true hb;refine⟨Z,B,δ, .int j,E,h1,fun v H1 s1 r1=>⟨j,?_,hb.1,hb.2,q _ H1 s1 (JB 0 _)⟩⟩
     unfold Rep at r1;rw[r1]
   | _=>cases h2
def NV(f g:FD):aq->R (List D):=fun δ=>(f δ).bind fun d=>(g δ).bind fun e=>match d,e with
 | .int i, .int j=>R.aI (decide (-(2 ^ 62)<=i/\i < 2 ^ 62/\ -(2 ^ 62)<=j/\j < 2 ^ 62)) (.ok (qN i (j - i).toNat)) | _,_=> .no
def Hc(t:FT)(body:FS):List D->FS
 | [],δ=> .ok (.nx δ)
 | d ::ds,δ=>(t d δ).bind fun δ1=>(body δ1).bind fun o=>match o with | .nx kQ=>Hc t body ds kQ | .rt r=> .ok (.rt r)
def Ue(it:aq->R (List D))(t:FT)(body:FS):FS:=fun δ=>(it δ).bind fun ds=>Hc t body ds δ
def Bx(c:aq->R Bool)(body:FS):Nat->FS
 | 0,_=> .no
 | n+1,δ=>(c δ).bind fun b=>if b then(body δ).bind fun o=>match o with | .nx kQ=>Bx c body n kQ | .rt r=> .ok (.rt r) else .ok (.nx δ)
def NI(n:Nat)(c:aq->R Bool)(body:FS):FS:=fun δ=>Bx c body n δ
def se(δ:aq)(i:Nat):Sl:=match δ[i]? with | some (.val d)=> .val d | _=> .un
def tH(own:List Str)(kp:List Nat)(δ:aq):aq:=List.replicate own.length .un++kp.map (se δ)
def ph(t:FT)(c:aq->R Bool)(f:FD)(δ:aq):List D->R (List D)
 | []=> .ok []
 | d ::ds=>(t d δ).bind fun δ1=>(c δ1).bind fun b=>if b then(f δ1).bind fun y=>(ph t c f δ ds).bind fun ys=> .ok (y ::ys) else ph t c f δ ds
def kB(it:aq->R (List D))(t:FT)(c:aq->R Bool)(f:FD)(own:List Str)(kp:List Nat):aq->R (List D):=fun δ=>(it δ).bind fun ds=>R.aI (decide (ds.length<=sizeLine)) (ph t c f (tH own kp δ) ds)
theorem IM{K:W.Frag}{Z B B':List Addr}{H H':Hp}{δ:aq}{own:List Str}{kp:List Nat}(E:i9 K Z B H σ δ)(p:eh B H B' H')(hB:∀a∈B',∃o,H' a=some o):i9 K [] B' H' (cW own kp σ) (tH own kp δ) where
 len:=by unfold cW tH;simp
 bs:=hB
 zb:=fun a ha=>by cases ha
 val:=fun i d e=>by
  unfold tH at e;unfold cW;by_cases hi:i < own.length
  .rw [List.getElem?_append_left (by simpa using hi),List.getElem?_replicate] at e
   split at e <;> cases e
  .rw [List.getElem?_append_right (by simpa using hi),List.length_replicate,List.getElem?_map] at e ⊢
   cases q:kp[i - own.length]? with
   | none=>rw [q] at e;cases e
   | some j=>
     rw[q] at e;have e:se δ j= .val d:=Option.some.inj e;unfold se at e;split at e
     .rename_i d' ed;cases e;obtain⟨v,h1,h2⟩:=E.val j d ed;exact⟨v,by simp [h1],h2.bp p⟩
     .cases e
 bld:=fun i ds e=>by
  unfold tH at e;by_cases hi:i < own.length
  .rw [List.getElem?_append_left (by simpa using hi),List.getElem?_replicate] at e
   split at e <;> cases e
  .rw [List.getElem?_append_right (by simpa using hi),List.length_replicate,List.getElem?_map] at e
   cases q:kp[i - own.length]? with
   | none=>rw [q] at e;cases e
   | some j=>
     rw[q] at e;have e:se δ j= .bld ds:=Option.some.inj e;unfold se at e;split at e <;> cases e
 dis:=fun i j a ds es e=>by
  unfold tH at e;by_cases hi:i < own.length
  .rw [List.getElem?_append_left (by simpa using hi),List.getElem?_replicate] at e
   split at e <;> cases e
  .rw [List.getElem?_append_right (by simpa using hi),List.length_replicate,List.getElem?_map] at e
   cases q:kp[i - own.length]? with
   | none=>rw [q] at e;cases e
   | some j=>
     rw[q] at e;have e:se δ j= .bld ds:=Option.some.inj e;unfold se at e;split at e <;> cases e
theorem zO{K:W.Frag}{it:aq->R (List D)}{c:aq->R Bool}{own:List Str}{kp:List Nat}{Q:VK}(h:tN K (kB it t c f own kp) σ H Q) :
 y6 (iD K it) (gD K t) (Ha K c) (tD K f) own kp σ H Q:=by
 obtain⟨Z,B,δ,ds,E,hf,q⟩:=h;obtain⟨es,h1,h2⟩:=R.af hf;obtain⟨hl,h3⟩:=R.aN h2;have hl:=of_decide_eq_true hl;refine⟨Z,B,δ,es,E,h1,fun J H1 s1 ir Dd hD=>?_⟩
 have E1:=E.same s1;have pD:eh B H1 (Dd ::B) (upd H1 Dd (.lst [])):=vV hD;refine⟨fun i m ys H'=>m=es.length - i/\i<=es.length/\ys.length<=i/\H' Dd=some (.lst ys)/\aH H1 H'/\∃done rest,ds=done++rest/\az K (Dd ::B) H' done ys/\ph t c f (tH own kp δ) (es.drop i)= .ok rest,
  ⟨es.length,rfl,Nat.zero_le _,Nat.le_refl _,a_,bz hD,[],ds,rfl,az.nil,by simpa using h3⟩,?_⟩
 rintro i m ys H' ⟨rfl,hi,hy,hDl,ss,done,rest,rfl,rd,hc⟩;have dB:Dd ∉ B:=fun hb=>by obtain⟨o,ho⟩:=E1.bs Dd hb;rw [hD] at ho;cases ho
 have p':eh B H1 (Dd ::B) H':=fun b o e nb=>⟨ss b o e,fun hb=>by
  rcases List.mem_cons.mp hb with z | z
  .exact bf e hD z
  .exact nb z⟩
 have hB':∀a∈Dd ::B,∃o,H' a=some o:=fun a ha=>by
  rcases List.mem_cons.mp ha with z | z
  .subst z;exact⟨_,hDl⟩
  .obtain⟨o,ho⟩:=E1.bs a z;exact⟨o,ss a o ho⟩
 obtain⟨go,stop⟩:=ir (Dd ::B) H' p';by_cases n4:i < es.length
 .have hd:es[i]? =some es[i]:=List.getElem?_eq_getElem n4;have hdrop:es.drop i=es[i] ::es.drop (i+1):=List.drop_eq_getElem_cons n4;rw[hdrop] at hc;obtain⟨δ1,h4,h5⟩:=R.af hc;obtain⟨b,h6,h7⟩:=R.af h5;obtain⟨g1,g2⟩:=go i _ hd;refine .inr ⟨g1,fun x H2 y=>?_⟩
  obtain⟨sy,ry⟩:=g2 x H2 y hB';have Ec:i9 K [] (Dd ::B) H2 (cW own kp σ) (tH own kp δ):=IM E1 (p'.trans (eh.same sy)) fun a ha=>let⟨o,ho⟩:=hB' a ha;⟨o,sy a o ho⟩
  refine⟨[],Dd ::B,tH own kp δ,es[i],δ1,Ec,ry,h4,fun GG H3 s3 E3 _=>⟨[],Dd ::B,δ1,b,E3,h6,fun H4 s4=>?_⟩⟩
  have sAll:aH H' H4:=sy.trans (s3.trans s4);cases b with
  | true=>
    rw[if_pos rfl] at h7;refine BU ?_;obtain⟨yv,h8,h9⟩:=R.af h7;obtain⟨rs,Pm,PR⟩:=R.af h9;cases PR;refine⟨[],Dd ::B,δ1,yv,E3.same s4,h8,fun v H5 s5 r5=>?_⟩
    have s':aH H' H5:=sAll.trans s5;have QW:H5 Dd=some (.lst ys):=s' Dd _ hDl;have pu:eh (Dd ::B) H5 (Dd ::B) (upd H5 Dd (.lst (ys++[v]))):=fun b o e nb=>⟨by rw[aW (fun(z:b=Dd)=>nb (by rw[z];exact List.mem_cons_self))];exact e,nb⟩
    refine⟨QW,by omega,es.length - (i+1),by omega,rfl,n4,by rw[List.length_append,List.length_singleton];omega,a_,fun b o e=>?_,done++[yv],rs,by simp,((rd.same s').append (az.cons r5 az.nil)).bp pu,Pm⟩
    rw[aW (bf e hD)];exact s' b o (ss b o e)
  | false=>
    rw[if_neg (by decide)] at h7
    refine DJ ?_;exact⟨es.length - (i+1),by omega,rfl,n4,by omega,sAll Dd _ hDl,ss.trans sAll,done,rest,rfl,rd.same sAll,h7⟩
 .have e:i=es.length:=by omega
  subst e;rw[List.drop_length] at hc;cases hc;rw[List.append_nil] at q;exact .inl ⟨stop,q Dd ys H' (s1.trans ss) (s1.free hD) hDl rd⟩
theorem EU{scope:Scope}{own:List Str}{kp:List Nat}{kn:List Str}{tg iter elt:Expr}{ifs:List Expr}{it:aq->R (List D)}{t:FT}{c:aq->R Bool}{f:FD}{pos:Pos}(hc:X.calm=true)(C:di X scope own kp kn)(hi:Ks X tg iter it)
 (hg:∀fp s H,MU (aZ X scope (own++kn) fp s H) tg t) (A4:∀fp s H,qM (aZ X scope (own++kn) fp s H) ifs (Ha X.K c)) (he:∀fp s H,PD (aZ X scope (own++kn) fp s H) elt f)
 (hs:∀x,foldedSetIterable iter X.env x=pure x:=by intro _;rfl):PN X (.ListComp elt [⟨tg,iter,ifs,0⟩] scope pos) (kB it t c f own kp):=
 (zy hc C hi hg A4 he hs).imp fun σ H Q h=>zO h
def wA:aq->R Bool:=fun _=> .ok true
theorem CN:qM X [] (Ha X.K wA):=fun pins s σ H Q I ⟨Z,B,δ,b,E,hf,q⟩=>vN pins s σ H Q I (by cases hf;exact q H (aH.refl H))
theorem FY{c:aq->R Bool}(h:PB X e c):qM X [e] (Ha X.K c):=Cc h
theorem vE{i:Nat}{x:Str}{pos' sV:Pos}{scope:Scope}{own:List Str}{kp:List Nat}{kn:List Str}{tg iter elt:Expr}{ifs:List Expr}{it:aq->R (List D)}{t:FT}{c:aq->R Bool}{f:FD}{pos:Pos}(hc:X.calm=true)
 (hN:X.N.Nodup) (hx:X.N[i]? =some x) (Bi:X.env.scope.names.lookup x=some .local) (C:di X scope own kp kn) (hi:Ks X tg iter it)
 (hg:∀fp s H,MU (aZ X scope (own++kn) fp s H) tg t) (A4:∀fp s H,qM (aZ X scope (own++kn) fp s H) ifs (Ha X.K c)) (he:∀fp s H,PD (aZ X scope (own++kn) fp s H) elt f)
 (D4:swapsWith (.ListComp elt [⟨tg,iter,ifs,0⟩] scope pos) (some (.Name x pos')) sV.line X.env=pure true:=by rfl)
 (hs:∀x,foldedSetIterable iter X.env x=pure x:=by intro _;rfl):JS X (.Assign [.Name x pos'] (.ListComp elt [⟨tg,iter,ifs,0⟩] scope pos) sV) (cD i (eNew (kB it t c f own kp))):=
 (yc hc hN hx Bi C hi hg A4 he D4 hs).imp fun D σ H h=>by
   have h1:=Dy h;obtain⟨Z,B,δ,d,E,hf,q⟩:=h1;obtain⟨ds,h2,h3⟩:=R.af hf;cases h3;refine zO ⟨Z,B,δ,ds,E,h2,fun a xs H' s n e r=>q _ H' s ?_⟩
   unfold Rep;refine⟨a,xs,rfl, .inl ⟨fun ha=>?_, .inl e⟩,r.bp fun b o e nb=>⟨e,fun hb=>nb (List.mem_cons_of_mem _ hb)⟩⟩
   obtain⟨o,ho⟩:=E.bs a ha;rw[n] at ho;cases ho
end
def c5(N:List Str)(ds:List D):aq:=ds.map .val++List.replicate (N.length - ds.length) .un
def wa(N:List Str)(F:FS):List D->R D:=fun ds=>(F (c5 N ds)).bind fun o=>match o with | .rt d=> .ok d | .nx _=> .ok .cu
theorem Gd{K:W.Frag}{B:List Addr}{H:Hp}{N:List Str}{ds:List D}{vs:List V}(hB:∀a∈B,∃o,H a=some o)(r:az K B H ds vs):i9 K B B H (start N vs) (c5 N ds) where
 len:=by unfold start c5;simp [r.length]
 bs:=hB
 zb:=fun a ha=>ha
 val:=fun i d e=>by
  unfold c5 at e;unfold start;by_cases hi:i < ds.length
  .rw [List.getElem?_append_left (by simpa using hi),List.getElem?_map] at e
   cases q:ds[i]? with
   | none=>rw [q] at e;cases e
   | some d'=>
     rw[q] at e;cases e;obtain⟨x,h1,h2⟩:=r.get q;exact⟨x,by rw[List.getElem?_append_left (by rw[List.length_map,<-r.length];exact hi),List.getElem?_map,h1];rfl,h2⟩
  .rw [List.getElem?_append_right (by simpa using hi),List.getElem?_replicate] at e
   split at e <;> cases e
 bld:=fun i es e=>by
  unfold c5 at e;by_cases hi:i < ds.length
  .rw [List.getElem?_append_left (by simpa using hi),List.getElem?_map] at e
   cases q:ds[i]? with
   | none=>rw [q] at e;cases e
   | some d'=>rw [q] at e;cases e
  .rw [List.getElem?_append_right (by simpa using hi),List.getElem?_replicate] at e
   split at e <;> cases e
 dis:=fun i j a es fs e=>by
  unfold c5 at e;by_cases hi:i < ds.length
  .rw [List.getElem?_append_left (by simpa using hi),List.getElem?_map] at e
   cases q:ds[i]? with
   | none=>rw [q] at e;cases e
   | some d'=>rw [q] at e;cases e
  .rw [List.getElem?_append_right (by simpa using hi),List.getElem?_replicate] at e
   split at e <;> cases e
theorem E9{P:Program}{w:World}{K:W.Frag}{mg:Yd}{base:Heap}{x qual:Str}{st:Stmt}{f:Addr}{fd:FuncData}{N ps:List Str}{k:Nat}{F:FS}(Fn:xl K x qual st f fd)(S:bb N ps (aD st))
 (g5:∀(dJ:Value) (A:Around) (outer:List Env) (s:Shared) (H:Hp) (E:XK),dw k (A.deeper (envOfC qual (aD st) s.heap.objs.size f dJ))->
   u7 (lz t_ P w K mg base N qual (aD st) f dJ A outer s H E).E_ (aQ st) F):iT P w K mg base t_ (k+1) f fd ps (EZ K ps.length (wa N F)):=by
 refine Fn.ok S (fun vs H Q E h=>h.1) (fun dJ A outer s H vs Q E hr h=>⟨_,g5 dJ A outer s H E hr,?_⟩)
 obtain⟨_,B,ds,d,hB,r,hg,q⟩:=h;obtain⟨o,h1,h2⟩:=R.af hg;refine⟨B,B,c5 N ds,o,Gd hB r,h1,?_⟩;have sm:∀{B':List Addr} {H':Hp},Ev B B H B' H'->aH H H':=fun {B' H'} ev b u e=>by
  by_cases hb:b∈B
  .exact(ev.zs b u e hb).1
  .exact(ev.bp b u e hb).1
 cases o with
 | nx i4=>
   cases h2;exact fun cj B' H' ev _=>q _ H' (sm ev) (by unfold Rep;rfl)
 | rt d'=>
   cases h2;exact fun v B' H' ev z rr=>q v H' (sm ev) (rr.bp fun b o e nb=>⟨e,fun hb=>nb (z b hb)⟩)
end L2
end
section
namespace L2
open PySem PySem.Spec PyProof.Rows
theorem Rep.int{K:W.Frag}{B:List Addr}{i:Int}{v:V}:Rep K B H (.int i) v↔v= .int i:=by unfold Rep;exact Iff.rfl
theorem Rep.bl{K:W.Frag}{B:List Addr}{i:Bool}{v:V}:Rep K B H (.bl i) v↔v= .bl i:=by unfold Rep;exact Iff.rfl
theorem Rep.str{K:W.Frag}{B:List Addr}{v:V}:Rep K B H (.str i) v↔v= .str i:=by unfold Rep;exact Iff.rfl
theorem Rep.cu{K:W.Frag}{B:List Addr}{v:V}:Rep K B H .cu v↔v= .cu:=by unfold Rep;exact Iff.rfl
theorem Rep.lst{K:W.Frag}{B:List Addr}{ds:List D}{v:V}:Rep K B H (.lst ds) v↔∃a xs,v= .ref a/\wJ K B H a xs/\az K B H ds xs:=by rw[Rep]
theorem Rep.tup{K:W.Frag}{B:List Addr}{ds:List D}{v:V}:Rep K B H (.tup ds) v↔∃a xs,v= .ref a/\zh K B H a xs/\az K B H ds xs:=by rw[Rep]
section
variable {X:Cx}
theorem mC.of{f:Value->Value->Sem Value}{r:R2}{g:D->D->R D}(h:m3 X f r)
 (w:∀(B:List Addr) (H:Hp) (da db d:D) (x y:V) (Q:VK),(∀a∈B,∃o,H a=some o)->Rep X.K B H da x->Rep X.K B H db y->g da db= .ok d->(∀z H',aH H H'->Rep X.K B H' d z->Q z H')->r x y H Q):mC X f g:=by
 intro pins s σ H B da db d x y v u I hb rx ry ra rb hg;exact h pins s σ H x y v u _ I rx ry (w B H da db d x y _ hb ra rb hg fun z H' s1 r1=>⟨s1,r1⟩)
theorem dG.of{f:Value}{r:List V->Hp->VK->Prop}{g:List D->R D}(h:jS X f r)
 (w:∀(B:List Addr) (H:Hp) (ds:List D) (d:D) (xs:List V) (Q:VK),(∀a∈B,∃o,H a=some o)->az X.K B H ds xs->g ds= .ok d->(∀z H',aH H H'->Rep X.K B H' d z->Q z H')->r xs H Q):dG X f g:=by
 intro pins s σ H B ds d xs us I hb rx rs hg;exact h pins s σ H xs us _ I rx (w B H ds d xs _ hb rs hg fun z H' s1 r1=>⟨s1,r1⟩)
theorem dG.or{f:Value}{g g1 g2:List D->R D}(h1:dG X f g1)(h2:dG X f g2)(e:∀a d,g a= .ok d->g1 a= .ok d\/g2 a= .ok d):dG X f g:=by
 intro pins s σ H B ds d xs us I hb rx rs hg;rcases e ds d hg with q | q
 .exact h1 pins s σ H B ds d xs us I hb rx rs q
 .exact h2 pins s σ H B ds d xs us I hb rx rs q
def Eg(C:Int->Int->Bool)(g:Int->Int->Int):D->D->R D
 | .int i, .int j=>R.aI (C i j) (.ok (.int (g i j)))
 | _,_=> .no
theorem yQ{f:Value->Value->Sem Value}{C:Int->Int->Bool}{Cp:Int->Int->Prop}{g:Int->Int->Int}(h:m3 X f (rI Cp fun i j=> .int (g i j)))(hc:∀i j,C i j=true->Cp i j):mC X f (Eg C g):=
 mC.of h fun B H da db d x y Q _ ra rb hg q=>by
  unfold Eg at hg;split at hg
  .obtain⟨h1,h2⟩:=R.aN hg;cases h2;exact⟨_,_,Rep.int.mp ra,Rep.int.mp rb,hc _ _ h1,q _ H (aH.refl H) (Rep.int.mpr rfl)⟩
  .cases hg
def AN(g:Int->Int->Int):D->D->R D
 | .int i, .int j=> .ok (.int (g i j))
 | _,_=> .no
theorem Ji{f:Value->Value->Sem Value}{g:Int->Int->Int}(h:m3 X f (Ef fun i j=> .int (g i j))):mC X f (AN g):=
 mC.of h fun B H da db d x y Q _ ra rb hg q=>by
  unfold AN at hg;split at hg
  .cases hg;exact⟨_,_,Rep.int.mp ra,Rep.int.mp rb,q _ H (aH.refl H) (Rep.int.mpr rfl)⟩
  .cases hg
def Ko(g:Int->Int->Bool):D->D->R D
 | .int i, .int j=> .ok (.bl (g i j))
 | _,_=> .no
theorem yU{f:Value->Value->Sem Value}{g:Int->Int->Bool}(h:m3 X f (Ef fun i j=> .bl (g i j))):mC X f (Ko g):=
 mC.of h fun B H da db d x y Q _ ra rb hg q=>by
  unfold Ko at hg;split at hg
  .cases hg;exact⟨_,_,Rep.int.mp ra,Rep.int.mp rb,q _ H (aH.refl H) (Rep.bl.mpr rfl)⟩
  .cases hg
abbrev L8:D->D->R D:=AN fun i j=>i - j
theorem LL:mC X (binaryOp .Sub) L8:=Ji HC
abbrev eD:D->D->R D:=Eg (fun _ j=>decide (0 < j/\j < 1073741824)) fun i j=>i / j
theorem kN:mC X (binaryOp .FloorDiv) eD:=yQ FK fun i j h=>(of_decide_eq_true h:0 < j/\j < 1073741824)
abbrev cC:D->D->R D:=Eg (fun _ j=>decide (0 < j)) fun i j=>i % j
theorem dR:mC X (binaryOp .Mod) cC:=yQ Jg fun i j h=>of_decide_eq_true h
abbrev z7:D->D->R D:=Eg (fun i j=>decide (0<=j/\j<=1000000/\i.natAbs < 2 ^ 64)) fun i j=>i ^ j.toNat
theorem CM:mC X (binaryOp .Pow) z7:=yQ IP fun i j h=>(of_decide_eq_true h:0<=j/\j<=1000000/\i.natAbs < 2 ^ 64)
abbrev LA:D->D->R D:=Eg (fun _ j=>decide (0<=j)) fun i j=>i / 2 ^ j.toNat
theorem KR:mC X (binaryOp .RShift) LA:=yQ Jq fun i j h=>of_decide_eq_true h
abbrev WW:D->D->R D:=AN fun i j=>Builtin.bitAnd i j
abbrev W0:D->D->R D:=AN fun i j=>Builtin.bitOr i j
abbrev W8:D->D->R D:=AN fun i j=>Builtin.bitXor i j
abbrev Bg:D->D->R D:=Ko fun i j=>decide (i < j)
theorem AO:mC X (compareOp .Lt) Bg:=yU LD
abbrev Hb:D->D->R D:=Ko fun i j=>decide (i<=j)
theorem Hx:mC X (compareOp .LtE) Hb:=yU Mz
abbrev MX:D->D->R D:=Ko fun i j=>decide (j < i)
theorem Lh:mC X (compareOp .Gt) MX:=yU L7
abbrev HJ:D->D->R D:=Ko fun i j=>decide (j<=i)
theorem Gk:mC X (compareOp .GtE) HJ:=yU Mc
theorem wJ.Dz{K:W.Frag}{B:List Addr}{H:Hp}{a:Addr}{xs:List V}(h:H a=some (.lst xs))(n:a ∉ B):wJ K B H a xs:= .inl ⟨n, .inl h⟩
theorem Inv.LU{pins:X9}{s:Shared}{a:Addr}{xs:List V}{B:List Addr}(I:Inv X pins σ H s)(h:wJ X.K B H a xs):∃(its:List Value) (n:Nat),Vals xs its/\s.heap.get? a=some {cls:= .type "list",data:= .seq its.toArray n}/\xs.length<=sizeLine:=by
 rcases h with⟨_,h⟩ | ⟨its,n,hk,hz,r⟩
 .obtain⟨z,its,n,r,e⟩:=h.ok I.hok;exact⟨its,n,r,e,z⟩
 .exact⟨its,n,r,I.nZ a _ hk,hz⟩
theorem EO:m3 X (binaryOp .Add) (fun x y H Q=>∃B l b xs zs,x= .ref l/\y= .ref b/\wJ X.K B H l xs/\wJ X.K B H b zs/\xs.length+zs.length<=sizeLine/\∀p,H p=none->Q (.ref p) (upd H p (.lst (xs++zs)))):=by
 intro pins s σ H x y v u Q I rx ry h;obtain⟨B,l,b,xs,zs,rfl,rfl,hH,hB,hz,q⟩:=h;cases rx;cases ry;obtain⟨its,n,r,e,_⟩:=I.LU hH;obtain⟨Kh,n2,r2,e2,_⟩:=I.LU hB;have l1:=r.length;have l2:=r2.length;refine PySem.P.add_list e e2 ?_ (by rw[List.size_toArray,List.size_toArray];omega)
 have ea:its.toArray++Kh.toArray=(its++Kh).toArray:=by simp
 rw[ea];exact⟨.ref _,_,I.IW (t':=s.toks) (r.append r2) (by rw[List.length_append];omega),rfl,q _ I.fresh⟩
def bO:D->D->R D
 | .int i, .int j=> .ok (.int (i+j))
 | .str a, .str b=>R.aI (decide (a.length+b.length<=sizeLine)) (.ok (.str (a++b)))
 | .lst a, .lst b=>R.aI (decide (a.length+b.length<=sizeLine)) (.ok (.lst (a++b)))
 | _,_=> .no
theorem bS:mC X (binaryOp .Add) bO:=by
 intro pins s σ H B da db d x y v u I hb rx ry ra rb hg;unfold bO at hg;split at hg
 .cases hg;exact Ia pins s σ H x y v u _ I rx ry ⟨_,_,Rep.int.mp ra,Rep.int.mp rb,aH.refl H,Rep.int.mpr rfl⟩
 .obtain⟨h1,h2⟩:=R.aN hg;cases h2;exact xN pins s σ H x y v u _ I rx ry ⟨_,_,Rep.str.mp ra,Rep.str.mp rb,of_decide_eq_true h1,aH.refl H,Rep.str.mpr rfl⟩
 .obtain⟨h1,h2⟩:=R.aN hg;cases h2;obtain⟨a1,Wd,rfl,l1,r1⟩:=Rep.lst.mp ra;obtain⟨a2,VD,rfl,l2,r2⟩:=Rep.lst.mp rb;refine EO pins s σ H _ _ v u _ I rx ry ⟨B,a1,a2,Wd,VD,rfl,rfl,l1,l2,by rw[<-r1.length,<-r2.length];exact of_decide_eq_true h1,fun p hp=>⟨bz hp,Rep.lst.mpr ⟨p,_,rfl, .Dz a_ fun ha=>?_,(r1.append r2).same (bz hp)⟩⟩⟩
  obtain⟨o,ho⟩:=hb p ha;rw[hp] at ho;cases ho
 .cases hg
theorem FF:m3 X (binaryOp .Mult) (fun x y H Q=>∃z n,x= .str z/\y= .int n/\MulOk z n/\Q (.str (Txt.mul z n)) H):=by
 intro pins s σ H x y v u Q I rx ry h;obtain⟨z,n,rfl,rfl,hm,q⟩:=h;obtain⟨t,rfl⟩:=rx;obtain⟨t',rfl⟩:=ry;exact SB.mul hm fun t2 k=>⟨.str _,H,I.tok _,⟨_,rfl⟩,q⟩
end
end L2
end
section
namespace L2
open PySem PySem.Spec PyProof.Rows
section
variable {X:Cx}
theorem mulOk_of{x:Str}{n:Int}(h1: -(2 ^ 63)<=n)(h2:n < 2 ^ 63)(h3:x.length*n.toNat<=sizeLine):MulOk x n:=by
 refine⟨by simp only[Bool.or_eq_false_iff,decide_eq_false_iff_not];omega,fun hn _=>?_,fun hn _=>?_⟩
 .have hz:sizeLine=16777216:=sizeLine_eq;have e:(n.toNat:Int)=n:=by omega
  have h4:(x.length:Int)*n<=16777216:=by
   have:((x.length*n.toNat:Nat):Int)<=((16777216:Nat):Int):=Int.ofNat_le.mpr (by omega)
   rw[Int.natCast_mul,e] at this;exact this
  have:(x.length:Int)<=(2 ^ 63 - 1) / n:=(Int.le_ediv_iff_mul_le (by omega)).mpr (by omega)
  omega
 .unfold Builtin.Str.tooLong;exact decide_eq_false (by omega)
def nV:D->D->R D
 | .int i, .int j=>R.aI (decide ((-(2 ^ 64) < i/\i < 2 ^ 64)\/(-(2 ^ 64) < j/\j < 2 ^ 64))) (.ok (.int (i*j)))
 | .str x, .int n=>R.aI (decide (-(2 ^ 63)<=n/\n < 2 ^ 63/\x.length*n.toNat<=sizeLine)) (.ok (.str (Txt.mul x n)))
 | _,_=> .no
theorem sr:mC X (binaryOp .Mult) nV:=by
 intro pins s σ H B da db d x y v u I hb rx ry ra rb hg;unfold nV at hg;split at hg
 .obtain⟨h1,h2⟩:=R.aN hg;cases h2;have h1:=of_decide_eq_true h1;exact IJ pins s σ H x y v u _ I rx ry ⟨_,_,Rep.int.mp ra,Rep.int.mp rb,h1,aH.refl H,Rep.int.mpr rfl⟩
 .obtain⟨h1,h2⟩:=R.aN hg;cases h2;have h1:=of_decide_eq_true h1;exact FF pins s σ H x y v u _ I rx ry ⟨_,_,Rep.str.mp ra,Rep.int.mp rb,mulOk_of h1.1 h1.2.1 h1.2.2,aH.refl H,Rep.str.mpr rfl⟩
 .cases hg
mutual
def toPy:D->PyData
 | .cu=> .none
 | .bl b=> .bool b
 | .int i=> .int i
 | .str x=> .str x
 | .lst ds=> .list (jK ds)
 | .tup ds=> .tuple (jK ds)
 | .dct _ _=> .dict []
def jK:List D->List PyData
 | []=>[]
 | d ::ds=>toPy d ::jK ds
end
mutual
def cx:D->Bool
 | .dct _ _=>false
 | .lst ds=>fT ds
 | .tup ds=>fT ds
 | _=>true
def fT:List D->Bool
 | []=>true
 | d ::ds=>cx d && fT ds
end
mutual
theorem Rep.reads{pins:X9}{s:Shared}{B:List Addr}(I:Inv X pins σ H s):∀{d:D} {v:V} {u:Value},cx d=true->Rep X.K B H d v->RelV v u->∃as,Reads s.heap u (toPy d) as
 | .cu,v,u,_,r,q=>by rw[Rep.cu.mp r] at q;cases q;unfold toPy;exact⟨_, .none⟩
 | .bl b,v,u,_,r,q=>by rw[Rep.bl.mp r] at q;cases q;unfold toPy;exact⟨_, .bool b⟩
 | .int i,v,u,_,r,q=>by rw[Rep.int.mp r] at q;obtain⟨t,rfl⟩:=q;unfold toPy;exact⟨_, .int i t⟩
 | .str x,v,u,_,r,q=>by rw[Rep.str.mp r] at q;obtain⟨t,rfl⟩:=q;unfold toPy;exact⟨_, .str x t⟩
 | .lst ds,v,u,hp,r,q=>by
   obtain⟨a,xs,rfl,l,rs⟩:=Rep.lst.mp r;cases q;obtain⟨its,rv,⟨o,n,e,hc,hd,he⟩,_⟩:=I.list l.sq;obtain⟨as,ra⟩:=az.reads I (by unfold cx at hp;exact hp) rs rv
   unfold toPy;exact⟨_, .list e hc he (by simpa using ra)⟩
 | .tup ds,v,u,hp,r,q=>by
   obtain⟨a,xs,rfl,l,rs⟩:=Rep.tup.mp r;cases q;obtain⟨its,rv,⟨o,e,hc,n,hd⟩,_⟩:=I.tuple l.sq;obtain⟨as,ra⟩:=az.reads I (by unfold cx at hp;exact hp) rs rv
   unfold toPy;exact⟨_, .tuple e hc hd (by simpa using ra)⟩
 | .dct _ _,v,u,hp,r,q=>by unfold cx at hp;cases hp
theorem az.reads{pins:X9}{s:Shared}{B:List Addr}(I:Inv X pins σ H s):∀{ds:List D} {vs:List V} {us:List Value},fT ds=true->az X.K B H ds vs->Vals vs us->∃as,ReadsAll s.heap us (jK ds) as
 | [],vs,us,_,r,q=>by unfold az at r;subst r;cases q;unfold jK;exact⟨_, .nil⟩
 | d ::ds,vs,us,hp,r,q=>by
   obtain⟨x,xs,rfl,r1,r2⟩:=r.cq;cases q with
   | cons q1 q2=>
     unfold fT at hp;obtain⟨h1,h2⟩:=Bool.and_eq_true_iff.mp hp;obtain⟨as,a1⟩:=Rep.reads I h1 r1 q1;obtain⟨bs,a2⟩:=az.reads I h2 r2 q2;unfold jK;exact⟨_, .cons a1 a2⟩
end
def Ed:D->D->R Bool
 | .int i, .int j=> .ok (decide (i=j))
 | .str x, .str y=> .ok (decide (x=y))
 | .bl a, .bl b=> .ok (decide (a=b))
 | d,e=>R.aI (cx d && cx e && SeqAt.shaped (toPy d) && SeqAt.shaped (toPy e)) (.ok (PyData.eqv (toPy d) (toPy e)))
def pP(d e:D):R D:=(Ed d e).bind fun b=> .ok (.bl b)
def zu(d e:D):R D:=(Ed d e).bind fun b=> .ok (.bl (!b))
theorem qV(hu:X.A.units+64 < cLine):mC X (compareOp .Eq) pP:=by
 intro pins s σ H B da db d x y v u I hb rx ry ra rb hg;obtain⟨b,h1,h2⟩:=R.af hg;cases h2;unfold Ed at h1;split at h1
 .cases h1;rename_i i j;have:=DU pins s σ H x y v u (fun z H'=>aH H H'/\Rep X.K B H' (.bl (decide (i=j))) z) I rx ry
  rw[Rep.int.mp ra,Rep.int.mp rb] at this;refine this ⟨rfl,aH.refl H,Rep.bl.mpr ?_⟩;simp [V.int.injEq]
 .cases h1;rename_i i j;have:=DU pins s σ H x y v u (fun z H'=>aH H H'/\Rep X.K B H' (.bl (decide (i=j))) z) I rx ry
  rw[Rep.str.mp ra,Rep.str.mp rb] at this;refine this ⟨rfl,aH.refl H,Rep.bl.mpr ?_⟩;simp [V.str.injEq]
 .cases h1;rename_i i j;have:=DU pins s σ H x y v u (fun z H'=>aH H H'/\Rep X.K B H' (.bl (decide (i=j))) z) I rx ry
  rw[Rep.bl.mp ra,Rep.bl.mp rb] at this;refine this ⟨rfl,aH.refl H,Rep.bl.mpr ?_⟩;simp [V.bl.injEq]
 .obtain⟨h3,h4⟩:=R.aN h1;cases h4;simp only[Bool.and_eq_true] at h3;obtain⟨⟨⟨p1,p2⟩,s1⟩,s2⟩:=h3;obtain⟨as,r1⟩:=ra.reads I p1 rx;obtain⟨bs,r2⟩:=rb.reads I p2 ry;exact eq_dataH r1 r2 s1 s2 hu ⟨.bl _,H,I,rfl,aH.refl H,Rep.bl.mpr rfl⟩
theorem C_(hu:X.A.units+64 < cLine):mC X (compareOp .NotEq) zu:=by
 intro pins s σ H B da db d x y v u I hb rx ry ra rb hg;obtain⟨b,h1,h2⟩:=R.af hg;cases h2;unfold Ed at h1;split at h1
 .cases h1;rename_i i j;have:=Ce pins s σ H x y v u (fun z H'=>aH H H'/\Rep X.K B H' (.bl (!decide (i=j))) z) I rx ry
  rw[Rep.int.mp ra,Rep.int.mp rb] at this;refine this ⟨rfl,aH.refl H,Rep.bl.mpr ?_⟩;simp [V.int.injEq]
 .cases h1;rename_i i j;have:=Ce pins s σ H x y v u (fun z H'=>aH H H'/\Rep X.K B H' (.bl (!decide (i=j))) z) I rx ry
  rw[Rep.str.mp ra,Rep.str.mp rb] at this;refine this ⟨rfl,aH.refl H,Rep.bl.mpr ?_⟩;simp [V.str.injEq]
 .cases h1;rename_i i j;have:=Ce pins s σ H x y v u (fun z H'=>aH H H'/\Rep X.K B H' (.bl (!decide (i=j))) z) I rx ry
  rw[Rep.bl.mp ra,Rep.bl.mp rb] at this;refine this ⟨rfl,aH.refl H,Rep.bl.mpr ?_⟩;simp [V.bl.injEq]
 .obtain⟨h3,h4⟩:=R.aN h1;cases h4;simp only[Bool.and_eq_true] at h3;obtain⟨⟨⟨p1,p2⟩,s1⟩,s2⟩:=h3;obtain⟨as,r1⟩:=ra.reads I p1 rx;obtain⟨bs,r2⟩:=rb.reads I p2 ry;exact ne_dataH r1 r2 s1 s2 hu ⟨.bl _,H,I,rfl,aH.refl H,Rep.bl.mpr rfl⟩
def strs?:List D->Option (List Str)
 | []=>some []
 | .str x ::ds=>(strs? ds).map (x ::·)
 | _ ::_=>none
theorem g8{K:W.Frag}{B:List Addr}:∀{ds:List D} {xs:List V} {ss:List Str},az K B H ds xs->strs? ds=some ss->xs=ss.map V.str
 | [],xs,ss,r,h=>by unfold az at r;subst r;cases h;rfl
 | d ::ds,xs,ss,r,h=>by
   obtain⟨x,r',rfl,r1,r2⟩:=r.cq;cases d with
   | str z=>
     unfold strs? at h;cases e:strs? ds with
     | none=>rw [e] at h;cases h
     | some tt=>
       rw[e] at h;cases h;rw[Rep.str.mp r1,g8 r2 e];rfl
   | _=>cases h
def ints?:List D->Option (List Int)
 | []=>some []
 | .int x ::ds=>(ints? ds).map (x ::·)
 | _ ::_=>none
theorem lH{K:W.Frag}{B:List Addr}:∀{ds:List D} {xs:List V} {ss:List Int},az K B H ds xs->ints? ds=some ss->xs=ss.map V.int
 | [],xs,ss,r,h=>by unfold az at r;subst r;cases h;rfl
 | d ::ds,xs,ss,r,h=>by
   obtain⟨x,r',rfl,r1,r2⟩:=r.cq;cases d with
   | int z=>
     unfold ints? at h;cases e:ints? ds with
     | none=>rw [e] at h;cases h
     | some tt=>
       rw[e] at h;cases h;rw[Rep.int.mp r1,lH r2 e];rfl
   | _=>cases h
def inD(d e:D):R Bool:=match d,e with
 | .str x, .lst ds=>(match strs? ds with | some ss=> .ok (ss.contains x) | none=> .no)
 | .str x, .tup ds=>(match strs? ds with | some ss=> .ok (ss.contains x) | none=> .no)
 | .str x, .str y=> .ok (!(Builtin.Str.occurrences y x 0 y.length 1).isEmpty)
 | .int x, .lst ds=>(match ints? ds with | some ss=> .ok (ss.contains x) | none=> .no)
 | .int x, .tup ds=>(match ints? ds with | some ss=> .ok (ss.contains x) | none=> .no)
 | _,_=> .no
def F0(d e:D):R D:=(inD d e).bind fun b=> .ok (.bl b)
def jb(d e:D):R D:=(inD d e).bind fun b=> .ok (.bl (!b))
theorem rZ(x:Str):∀ss:List Str,GP (.str x) (ss.map V.str)=ss.contains x
 | []=>rfl
 | y ::ss=>by
   unfold GP;rw[List.map_cons,List.any_cons];have ih:=rZ x ss;unfold GP at ih;rw[ih];show(y==x || ss.contains x)=_
   rw[List.contains_cons];congr 1;exact Bool.eq_iff_iff.mpr ⟨fun h=>by simpa using(beq_iff_eq.mp h).symm,fun h=>by simpa using(beq_iff_eq.mp h).symm⟩
theorem sR(x:Int):∀ss:List Int,GP (.int x) (ss.map V.int)=ss.contains x
 | []=>rfl
 | y ::ss=>by
   unfold GP;rw[List.map_cons,List.any_cons];have ih:=sR x ss;unfold GP at ih;rw[ih];show(y==x || ss.contains x)=_
   rw[List.contains_cons];congr 1;exact Bool.eq_iff_iff.mpr ⟨fun h=>by simpa using(beq_iff_eq.mp h).symm,fun h=>by simpa using(beq_iff_eq.mp h).symm⟩
theorem ui(ss:List Int):(ss.map V.int).all kE=true:=by
 rw[List.all_map];simp [List.all_eq_true,kE]
theorem qi(ss:List Str):(ss.map V.str).all kE=true:=by
 rw[List.all_map];simp [List.all_eq_true,kE]
theorem CD{neg:Bool}{op:CmpOp}{g:D->D->R D}(h1:m3 X (compareOp op) (OW X.K neg))(h2:m3 X (compareOp op) (fun x y H Q=>∃i j,x= .str i/\y= .str j/\Q (.bl (if neg then !(!(Builtin.Str.occurrences j i 0 j.length 1).isEmpty) else(!(Builtin.Str.occurrences j i 0 j.length 1).isEmpty))) H))
 (hg:∀d e r,g d e= .ok r->∃b,inD d e= .ok b/\r= .bl (if neg then !b else b)):mC X (compareOp op) g:=by
 intro pins s σ H B da db d x y v u I hb rx ry ra rb hg';obtain⟨b,hi,rfl⟩:=hg da db d hg';unfold inD at hi;split at hi
 .rename_i z ds;split at hi
  .rename_i ss e;cases hi;obtain⟨a,xs,rfl,l,rs⟩:=Rep.lst.mp rb;refine h1 pins s σ H x _ v u _ I rx ry ⟨a,xs,rfl, .inl l.sq,by rw[Rep.str.mp ra];rfl,by rw[g8 rs e];exact qi _,aH.refl H,Rep.bl.mpr ?_⟩
   rw[g8 rs e,Rep.str.mp ra,rZ]
  .cases hi
 .rename_i z ds;split at hi
  .rename_i ss e;cases hi;obtain⟨a,xs,rfl,l,rs⟩:=Rep.tup.mp rb;refine h1 pins s σ H x _ v u _ I rx ry ⟨a,xs,rfl, .inr l.sq,by rw[Rep.str.mp ra];rfl,by rw[g8 rs e];exact qi _,aH.refl H,Rep.bl.mpr ?_⟩
   rw[g8 rs e,Rep.str.mp ra,rZ]
  .cases hi
 .cases hi;exact h2 pins s σ H x y v u _ I rx ry ⟨_,_,Rep.str.mp ra,Rep.str.mp rb,aH.refl H,Rep.bl.mpr rfl⟩
 .rename_i z ds;split at hi
  .rename_i ss e;cases hi;obtain⟨a,xs,rfl,l,rs⟩:=Rep.lst.mp rb;refine h1 pins s σ H x _ v u _ I rx ry ⟨a,xs,rfl, .inl l.sq,by rw[Rep.int.mp ra];rfl,by rw[lH rs e];exact ui _,aH.refl H,Rep.bl.mpr ?_⟩
   rw[lH rs e,Rep.int.mp ra,sR]
  .cases hi
 .rename_i z ds;split at hi
  .rename_i ss e;cases hi;obtain⟨a,xs,rfl,l,rs⟩:=Rep.tup.mp rb;refine h1 pins s σ H x _ v u _ I rx ry ⟨a,xs,rfl, .inr l.sq,by rw[Rep.int.mp ra];rfl,by rw[lH rs e];exact ui _,aH.refl H,Rep.bl.mpr ?_⟩
   rw[lH rs e,Rep.int.mp ra,sR]
  .cases hi
 .cases hi
theorem Fi:mC X (compareOp .In) F0:=CD (neg:=false) z6 z_ fun d e r h=>by
 obtain⟨b,h1,h2⟩:=R.af h;cases h2;exact⟨b,h1,rfl⟩
theorem rk:mC X (compareOp .NotIn) jb:=CD (neg:=true) uI uD fun d e r h=>by
 obtain⟨b,h1,h2⟩:=R.af h;cases h2;exact⟨b,h1,rfl⟩
def c9(d e:D):R D:=match d,e with
 | .lst ds, .int i=>(match uA ds i with | some x=> .ok x | none=> .no)
 | .tup ds, .int i=>(match uA ds i with | some x=> .ok x | none=> .no)
 | .str x, .int i=>R.aI (decide (x.length<=sizeLine)) (match uA x.cps.toList i with | some c=> .ok (.str ⟨#[c]⟩) | none=> .no)
 | _,_=> .no
theorem wq{K:W.Frag}{B:List Addr}{ds:List D}{xs:List V}{i:Int}{d:D}(r:az K B H ds xs)(h:uA ds i=some d):∃x,uA xs i=some x/\Rep K B H d x:=by
 unfold uA at h ⊢;rw[<-r.length];cases e:DK ds.length i with
 | none=>rw [e] at h;cases h
 | some j=>
   rw[e] at h;exact r.get h
theorem Ld(ha:PD X a fa)(hb:PD X b fb)(hs:uO b):PD X (.Subscript a b pos) (e2 c9 fa fb):=by
 refine(KJ (r:=Rk X.K) Ja ha hb hs).imp fun σ H Q ⟨Z,B,δ,d,E,hf,q⟩=>?_
 obtain⟨d1,h1,h2⟩:=R.af hf;obtain⟨d2,h3,h4⟩:=R.af h2;refine⟨Z,B,δ,d1,E,h1,fun v1 H1 s1 r1=>⟨Z,B,δ,d2,E.same s1,h3,fun v2 H2 s2 r2=>?_⟩⟩
 have zX:=r1.same s2;unfold c9 at h4;split at h4
 .split at h4
  .rename_i e;cases h4;obtain⟨p,xs,rfl,l,rs⟩:=Rep.lst.mp zX;obtain⟨y,e1,e2⟩:=wq rs e;exact .inl ⟨p,xs,_,y,rfl,Rep.int.mp r2,l.sq,e1,q y H2 (s1.trans s2) e2⟩
  .cases h4
 .split at h4
  .rename_i e;cases h4;obtain⟨p,xs,rfl,l,rs⟩:=Rep.tup.mp zX;obtain⟨y,e1,e2⟩:=wq rs e;exact .inr (.inl ⟨p,xs,_,y,rfl,Rep.int.mp r2,l.sq,e1,q y H2 (s1.trans s2) e2⟩)
  .cases h4
 .obtain⟨hl,h5⟩:=R.aN h4;split at h5
  .rename_i e;cases h5;exact .inr (.inr ⟨_,_,_,Rep.str.mp zX,Rep.int.mp r2,of_decide_eq_true hl,e,q _ H2 (s1.trans s2) (Rep.str.mpr rfl)⟩)
  .cases h5
 .cases h4
abbrev FO:=aq->R (Option Int)
def Ud(K:W.Frag)(f:FO):TO:=fun σ H Q=>∃Z B δ o,i9 K Z B H σ δ/\f δ= .ok o/\∀H',aH H H'->Q o H'
theorem PO.imp{X:Cx}{e:Option Expr}{t t':TO}(h:PO X e t)(w:∀σ H Q,t' σ H Q->t σ H Q):PO X e t':=fun pins s σ H Q I hq=>h pins s σ H Q I (w σ H Q hq)
abbrev PP(X:Cx)(e:Option Expr)(f:FO):Prop:=PO X e (Ud X.K f)
def eB:FO:=fun _=> .ok none
def dF(f:FD):FO:=fun δ=>(f δ).bind fun d=>match d with | .int i=> .ok (some i) | _=> .no
theorem ET:PP X none eB:=FJ.imp fun σ H Q ⟨Z,B,δ,o,E,hf,q⟩=>by cases hf;exact q H (aH.refl H)
theorem Gq(h:PD X e f):PP X (some e) (dF f):=(F3 h).imp fun σ H Q ⟨Z,B,δ,o,E,hf,q⟩=>by
 obtain⟨d,h1,h2⟩:=R.af hf;cases d with
 | int i=>cases h2;exact⟨Z,B,δ, .int i,E,h1,fun v H1 s1 r1=>⟨i,Rep.int.mp r1,q H1 s1⟩⟩
 | _=>cases h2
theorem JW:Jn X (fun x lo hi H Q=>∃z,x= .str z/\z.length<=sizeLine/\Q (.str (Txt.slice z lo hi)) H):=by
 intro pins s σ H x v vl vu lo hi sl Q I rx hs pl pu h;obtain⟨z,rfl,hz,q⟩:=h;obtain⟨t,rfl⟩:=rx;refine⟨"str",_,F.slot_str_getitem.lookup,typeIs_str _ _ _,?_⟩;have fin:∀t' k,EP X pins σ Q (.str (Txt.slice z lo hi) t') {s with toks:=k}:=fun t' k=>⟨.str _,H,I.tok _,⟨_,rfl⟩,q⟩
 obtain⟨o,ho,hc,hd⟩:=hs;cases pl with
 | none=>
   cases pu with
   | none=>exact wpAny_getItem_str_slice (l:=none) (u:=none) (st:=none) ⟨o,ho,hc,hd⟩ rfl (post_val_or_str ⟨Nat.le_trans (Txt.slice_le z _ _) hz,fin⟩)
   | int j u=>exact wpAny_getItem_str_slice (l:=none) (u:=some (j,u)) (st:=none) ⟨o,ho,hc,hd⟩ rfl (post_val_or_str ⟨Nat.le_trans (Txt.slice_le z _ _) hz,fin⟩)
 | int i t1=>
   cases pu with
   | none=>exact wpAny_getItem_str_slice (l:=some (i,t1)) (u:=none) (st:=none) ⟨o,ho,hc,hd⟩ rfl (post_val_or_str ⟨Nat.le_trans (Txt.slice_le z _ _) hz,fin⟩)
   | int j u=>exact wpAny_getItem_str_slice (l:=some (i,t1)) (u:=some (j,u)) (st:=none) ⟨o,ho,hc,hd⟩ rfl (post_val_or_str ⟨Nat.le_trans (Txt.slice_le z _ _) hz,fin⟩)
def cutD{α:Type}(xs:List α)(lo hi:Option Int):List α:=(xs.drop (HT.rm xs.length 0 lo)).take (HT.rm xs.length xs.length hi - HT.rm xs.length 0 lo)
def DM(d:D)(lo hi:Option Int):R D:=match d with
 | .str x=>R.aI (decide (x.length<=sizeLine)) (.ok (.str (Txt.slice x lo hi)))
 | .lst ds=> .ok (.lst (cutD ds lo hi))
 | _=> .no
theorem DB{K:W.Frag}{B:List Addr}{ds:List D}{xs:List V}(r:az K B H ds xs)(lo hi:Option Int):az K B H (cutD ds lo hi) (x8 xs lo hi):=by
 unfold cutD x8;rw[<-r.length];exact(r.drop _).take _
def q8(f:FD)(fl fh:FO):FD:=fun δ=>(f δ).bind fun d=>(fl δ).bind fun lo=>(fh δ).bind fun hi=>DM d lo hi
theorem LK{lo hi:Option Expr}{fl fh:FO}(he:PD X e f)(hl:PP X lo fl)(hh:PP X hi fh):PD X (.Subscript e (.Slice lo hi none p2) pos) (q8 f fl fh):=by
 refine(Cs (JW.or Ge) he hl hh).imp fun σ H Q ⟨Z,B,δ,d,E,hf,q⟩=>?_
 obtain⟨d1,h1,h2⟩:=R.af hf;obtain⟨l,h3,h4⟩:=R.af h2;obtain⟨h,h5,h6⟩:=R.af h4;refine⟨Z,B,δ,d1,E,h1,fun v1 H1 s1 r1=>⟨Z,B,δ,l,E.same s1,h3,fun H2 s2=>⟨Z,B,δ,h,(E.same s1).same s2,h5,fun H3 s3=>?_⟩⟩⟩
 have sA:aH H H3:=s1.trans (s2.trans s3);have zX:=r1.same (s2.trans s3);unfold DM at h6;split at h6
 .obtain⟨hz,h7⟩:=R.aN h6;cases h7;exact .inl ⟨_,Rep.str.mp zX,of_decide_eq_true hz,q _ H3 sA (Rep.str.mpr rfl)⟩
 .cases h6;obtain⟨a,xs,rfl,ls,rs⟩:=Rep.lst.mp zX;refine .inr ⟨a,xs,rfl,ls.sq,fun p hp=>q _ _ (sA.trans (bz hp)) (Rep.lst.mpr ⟨p,_,rfl, .Dz a_ fun ha=>?_,(DB rs l h).same (bz hp)⟩)⟩
  obtain⟨o,ho⟩:=(E.same sA).bs p ha;rw[hp] at ho;cases ho
 .cases h6
end
end L2
end
section
namespace L2
open PySem PySem.Spec PyProof.Rows
section
variable {X:Cx}
theorem az.one{K:W.Frag}{B:List Addr}{d:D}{xs:List V}(h:az K B H [d] xs):∃x,xs=[x]/\Rep K B H d x:=by
 obtain⟨x,r,rfl,h1,h2⟩:=h.cq;unfold az at h2;subst h2;exact⟨x,rfl,h1⟩
def eT:List D->R D
 | [.str x]=>R.aI (decide (x.length<=sizeLine)) (.ok (.int x.length))
 | [.lst ds]=> .ok (.int ds.length)
 | [.tup ds]=> .ok (.int ds.length)
 | _=> .no
theorem jC:dG X (.builtin "len") eT:=dG.of Dn fun B H ds d xs Q _ rs hg q=>by
 unfold eT at hg;split at hg
 .obtain⟨h1,h2⟩:=R.aN hg;cases h2;obtain⟨x,rfl,r⟩:=rs.one;exact⟨x,_,rfl,by rw[Rep.str.mp r];exact⟨of_decide_eq_true h1,rfl⟩,q _ H (aH.refl H) (Rep.int.mpr rfl)⟩
 .cases hg;obtain⟨x,rfl,r⟩:=rs.one;obtain⟨a,ys,rfl,l,r⟩:=Rep.lst.mp r;exact⟨_,_,rfl, .inl ⟨ys,l.sq,rfl⟩,q _ H (aH.refl H) (Rep.int.mpr (by rw[r.length]))⟩
 .cases hg;obtain⟨x,rfl,r⟩:=rs.one;obtain⟨a,ys,rfl,l,r⟩:=Rep.tup.mp r;exact⟨_,_,rfl, .inr ⟨ys,l.sq,rfl⟩,q _ H (aH.refl H) (Rep.int.mpr (by rw[r.length]))⟩
 .cases hg
def cInt:List D->R D
 | [.int i]=> .ok (.int i)
 | [.bl b]=> .ok (.int (if b then 1 else 0))
 | _=> .no
theorem LB:dG X (.type "int") cInt:=dG.of Ay fun B H ds d xs Q _ rs hg q=>by
 unfold cInt at hg;split at hg
 .cases hg;obtain⟨x,rfl,r⟩:=rs.one;exact .inl ⟨_,by rw[Rep.int.mp r],q _ H (aH.refl H) (Rep.int.mpr rfl)⟩
 .cases hg;obtain⟨x,rfl,r⟩:=rs.one;exact .inr ⟨_,by rw[Rep.bl.mp r],q _ H (aH.refl H) (Rep.int.mpr rfl)⟩
 .cases hg
def cStr:List D->R D
 | [.int i]=>R.aI (decide (i.natAbs.log2 < 1920)) (.ok (.str (toString i)))
 | _=> .no
def Oa:List D->R D
 | [.int i, .int j]=> .ok (.int (if j < i then j else i))
 | _=> .no
def Ot:List D->R D
 | [.int i, .int j]=> .ok (.int (if j > i then j else i))
 | _=> .no
def xi:List D->R D
 | [.lst ds]=> .ok (.tup ds)
 | [.tup ds]=> .ok (.tup ds)
 | _=> .no
theorem Fo:dG X (.type "tuple") xi:=dG.of tF fun B H ds d xs Q hb rs hg q=>by
 unfold xi at hg;split at hg
 .cases hg;obtain⟨x,rfl,r⟩:=rs.one;obtain⟨a,ys,rfl,l,r⟩:=Rep.lst.mp r;refine⟨a,ys,rfl, .inl ⟨l.sq,fun p hp=>q _ _ (bz hp) (Rep.tup.mpr ⟨p,ys,rfl, .inl ⟨fun ha=>?_, .inl a_⟩,r.same (bz hp)⟩)⟩⟩
  obtain⟨o,ho⟩:=hb p ha;rw[hp] at ho;cases ho
 .cases hg;obtain⟨x,rfl,r⟩:=rs.one;have r0:=r;obtain⟨a,ys,rfl,l,r⟩:=Rep.tup.mp r;exact⟨a,ys,rfl, .inr ⟨l.sq,q _ H (aH.refl H) r0⟩⟩
 .cases hg
def Rn:List D->R D
 | [.lst ds]=> .ok (.lst ds)
 | [.tup ds]=> .ok (.lst ds)
 | _=> .no
def cAbs:List D->R D
 | [.int i]=> .ok (.int (if i < 0 then -i else i))
 | _=> .no
def Nu:List D->R D
 | [.lst ds]=>(match ints? ds with | some ns=> .ok (.int ns.sum) | none=> .no)
 | _=> .no
def tyName:D->String
 | .cu=>"NoneType" | .bl _=>"bool" | .int _=>"int" | .str _=>"str" | .lst _=>"list" | .tup _=>"tuple" | .dct _ _=>"dict"
def TR(T:String)(f:FD):FD:=fun δ=>(f δ).bind fun d=>R.aI (tyName d==T && d.atom) (.ok (.bl true))
def HG(X:Cx)(id:String)(g:D->List D->R D):Prop:=
 ∀(pins:X9) (s:Shared) (σ:St) (H:Hp) (B:List Addr) (da d:D) (ds:List D) (x:V) (xs:List V) (v:Value) (us:List Value),Inv X pins σ H s->(∀a∈B,∃o,H a=some o)->RelV x v->Vals xs us->Rep X.K B H da x->az X.K B H ds xs->g da ds= .ok d->
  wpAny (model X.prog X.w) X.A (call (.builtin id) (v ::us)) (EP X pins σ fun z H'=>aH H H'/\Rep X.K B H' d z) X.xe s
def u_(T:String)(g:D->List D->R D)(f:FD)(fs:aq->R (List D)):FD:=fun δ=>(f δ).bind fun d=>R.aI (tyName d==T && (d.atom || T=="list")) ((fs δ).bind fun ds=>g d ds)
theorem HG.r{id:String}{g:D->List D->R D}(h:HG X id g):RL X id (fun x xs H Q=>∃B da ds d,(∀a∈B,∃o,H a=some o)/\Rep X.K B H da x/\az X.K B H ds xs/\g da ds= .ok d/\∀z H',aH H H'->Rep X.K B H' d z->Q z H'):=by
 intro pins s σ H x xs v us Q I rx rxs ⟨B,da,ds,d,hb,ra,rs,hg,q⟩;exact cU (h pins s σ H B da d ds x xs v us I hb rx rxs ra rs hg) fun z s' ⟨zv,H',I',r',s1,r1⟩=>⟨zv,H',I',r',q zv H' s1 r1⟩
theorem yP{T id:String}{name:Str}{g:D->List D->R D}{o e:Expr}{es:List Expr}{f:FD}{fs:aq->R (List D)}{apos bx:Pos}(pa:PlainAttrs T)(slot:Slot T name id)(Er:typeOf (.builtin id)=pure (.type "method_descriptor"))(hm:HG X id g)(ho:PD X o f)(ha:Bd X (e ::es) fs)
 (hT:T="str"\/T="int"\/T="list")
 (i0:attributeBase o name X.env (eval o X.env)=eval o X.env:=by rfl)
 (mm:((backTo bx (starEach (e ::es) X.env)).all (fun x=>!x.1) && (backToKw bx (keywordEach [] X.env)).all (fun x=>x.1.isSome)
   && decide ((e ::es).length+([]:List Keyword).length+(if([]:List Keyword).isEmpty then 0 else 1) < 30))=true:=by rfl)
 (i3:(apos.endLine==bx.line)=true:=by rfl) (hs:starEach (e ::es) X.env=(false,eval e X.env) ::starEach es X.env:=by rfl) (yF:(backTo bx (starEach es X.env)).any (·.1)=false:=by rfl) :
 PD X (.Call (.Attribute o name apos) (e ::es) [] bx) (u_ T g f fs):=by
 refine(BF pa slot Er hm.r ho ha i0 mm i3 hs yF).imp fun σ H Q ⟨Z,B,δ,d,E,hf,q⟩=>?_
 obtain⟨d1,h1,h2⟩:=R.af hf;obtain⟨h3,h4⟩:=R.aN h2;obtain⟨ds,h5,h6⟩:=R.af h4;obtain⟨h7,h8⟩:=Bool.and_eq_true_iff.mp h3;have h7:tyName d1=T:=by simpa using h7
 refine⟨Z,B,δ,d1,E,h1,fun v1 H1 s1 r1=>⟨?_,Z,B,δ,ds,E.same s1,h5,fun vs H2 s2 r2=>⟨B,d1,ds,d,(E.same (s1.trans s2)).bs,r1.same s2,r2,h6,fun z H' s3 r3=>q z H' (s1.trans (s2.trans s3)) r3⟩⟩⟩
 cases d1 with
 | str z=>rw [Rep.str.mp r1];exact h7.symm
 | int i=>rw [Rep.int.mp r1];exact h7.symm
 | lst es=>obtain⟨a,xs,rfl,l,_⟩:=Rep.lst.mp r1;exact .inl ⟨h7.symm,xs,l.sq⟩
 | cu=>rcases hT with z | z | z <;> (rw [z] at h7;exact absurd (show("NoneType":String)=_ from h7) (by decide))
 | bl _=>rcases hT with z | z | z <;> (rw [z] at h7;exact absurd (show("bool":String)=_ from h7) (by decide))
 | tup _=>rcases hT with z | z | z <;> (rw [z] at h7;exact absurd (show("tuple":String)=_ from h7) (by decide))
 | dct _ _=>rcases hT with z | z | z <;> (rw [z] at h7;exact absurd (show("dict":String)=_ from h7) (by decide))
theorem tS:∀{ss:List Str} {us:List Value},Vals (ss.map V.str) us->∃l:List (Str × Tok),us=strValues l/\l.map (·.1)=ss
 | [],_, .nil=>⟨[],rfl,rfl⟩
 | n ::ns,_, .cons r t=>by
   obtain⟨l,rfl,e⟩:=tS t;obtain⟨tk,rfl⟩:=r;exact⟨(n,tk) ::l,rfl,by rw[List.map_cons,e]⟩
def mJ(d:D)(ds:List D):R D:=match d,ds with
 | .str sep,[.lst es]=>(match strs? es with | some ss=>R.aI (JoinOk sep ss) (.ok (.str (Str.join sep ss))) | none=> .no)
 | _,_=> .no
theorem Ip:HG X "str.join" mJ:=by
 intro pins s σ H B da d ds x xs v us I hb rx rxs ra rs hg;unfold mJ at hg;split at hg
 .split at hg
  .rename_i sep es ss e;obtain⟨h1,h2⟩:=R.aN hg;cases h2;rw[Rep.str.mp ra] at rx;obtain⟨t,rfl⟩:=rx;obtain⟨y,rfl,r⟩:=rs.one;obtain⟨a,ys,rfl,l,r⟩:=Rep.lst.mp r;obtain⟨u,rfl,ru⟩:=vals1 rxs;cases ru;obtain⟨its,n,rv,e1,hz⟩:=I.LU l;rw[g8 r e] at rv;obtain⟨ps,rfl,rfl⟩:=tS rv;refine SC.join (D:=a) (l:=ps) ⟨_,e1,rfl,n,rfl⟩ rfl h1 fun t' k=>⟨.str _,H,I.tok _,⟨t',rfl⟩,aH.refl H,Rep.str.mpr ?_⟩
   rw[<-StrLaws.glued_eq_join];rfl
  .cases hg
 .cases hg
theorem Et{o e:Expr}{f:FD}{fs:aq->R (List D)}{apos bx:Pos}(ho:PD X o f)(ha:Bd X [e] fs)
 (i0:attributeBase o "join" X.env (eval o X.env)=eval o X.env:=by rfl)
 (mm:((backTo bx (starEach [e] X.env)).all (fun x=>!x.1) && (backToKw bx (keywordEach [] X.env)).all (fun x=>x.1.isSome)
   && decide (([e]:List Expr).length+([]:List Keyword).length+(if([]:List Keyword).isEmpty then 0 else 1) < 30))=true:=by rfl)
 (i3:(apos.endLine==bx.line)=true:=by rfl) (hs:starEach [e] X.env=(false,eval e X.env) ::starEach [] X.env:=by rfl) :
 PD X (.Call (.Attribute o "join" apos) [e] [] bx) (u_ "str" mJ f fs):=yP F.plainAttrs_str F.slot_str_join F.type_str_join Ip ho ha (.inl rfl) i0 mm i3 hs
abbrev PJ(X:Cx)(es:List Expr)(f:aq->R (List Str)):Prop:=
 ∀(pins:X9) (s:Shared) (σ:St) (H:Hp) (Z B:List Addr) (δ:aq) (acc:Str) (ss:List Str) (Q:VK),Inv X pins σ H s->i9 X.K Z B H σ δ->f δ= .ok ss->(ss.foldl (·++·) acc).length<=sizeLine->(∀H',aH H H'->Q (.str (ss.foldl (·++·) acc)) H')->
  wpAny (model X.prog X.w) X.A (joinParts acc (evalEach es X.env)) (EP X pins σ Q) X.xe s
theorem t8:∀(ss:List Str) (acc:Str),acc.length<=(ss.foldl (·++·) acc).length
 | [],acc=>Nat.le_refl _
 | s ::ss,acc=>Nat.le_trans (by rw[Str.length_append];exact Nat.le_add_right _ _) (t8 ss (acc++s))
def oz:aq->R (List Str):=fun _=> .ok []
def bM(f:FD)(g:aq->R (List Str)):aq->R (List Str):=fun δ=>(f δ).bind fun d=>match d with | .str x=>(g δ).bind fun ss=> .ok (x ::ss) | _=> .no
theorem JR:PJ X [] oz:=by
 intro pins s σ H Z B δ acc ss Q I E hf hl q;cases hf;exact joinParts_nil ⟨.str _,H,I.tok _,⟨_,rfl⟩,q H (aH.refl H)⟩ hl
theorem EA{g:aq->R (List Str)}(he:PD X e f)(hr:PJ X es g)(PV:evalEach (e ::es) X.env=eval e X.env ::evalEach es X.env:=by rfl):PJ X (e ::es) (bM f g):=by
 intro pins s σ H Z B δ acc ss Q I E hf hl q;rw[PV];obtain⟨d,h1,h2⟩:=R.af hf;cases d with
 | str x=>
   obtain⟨Sn,h3,h4⟩:=R.af h2;cases h4;refine joinParts_cons (cU (he pins s σ H (fun v H'=>aH H H'/\v= .str x) I ⟨Z,B,δ, .str x,E,h1,fun v H' s1 r1=>⟨s1,Rep.str.mp r1⟩⟩) fun v s1 ⟨xv,H1,I1,r1,Kf,e1⟩=>?_)
   subst e1;obtain⟨t,rfl⟩:=r1;exact⟨Nat.le_trans (t8 Sn (acc++x)) hl,hr pins s1 σ H1 Z B δ (acc++x) Sn Q I1 (E.same Kf) h3 hl fun H' s2=>q H' (Kf.trans s2)⟩
 | _=>cases h2
def cN(g:aq->R (List Str)):FD:=fun δ=>(g δ).bind fun ss=>R.aI (decide ((ss.foldl (·++·) Str.empty).length<=sizeLine)) (.ok (.str (ss.foldl (·++·) Str.empty)))
theorem AF{rest:List Expr}{g:aq->R (List Str)}(h:PJ X (D1 ::D5 ::rest) g):PD X (.JoinedStr (D1 ::D5 ::rest) pos) (cN g):=by
 intro pins s σ H Q I ⟨Z,B,δ,d,E,hf,q⟩;obtain⟨ss,h1,h2⟩:=R.af hf;obtain⟨h3,h4⟩:=R.aN h2;cases h4;rw[arm_eval_JoinedStr];exact h pins s σ H Z B δ Str.empty ss Q I E h1 (of_decide_eq_true h3) fun H' s1=>q _ H' s1 (Rep.str.mpr rfl)
def Fw:D->R D
 | .str x=>R.aI (decide (x.length<=sizeLine)) (.ok (.str x))
 | .int i=>R.aI (decide (i.natAbs.log2 < 1920)) (.ok (.str (toString i)))
 | _=> .no
def lM(f:FD):FD:=fun δ=>(f δ).bind Fw
theorem Ik(h:PD X e f):PD X (.FormattedValue e (-1) none pos) (lM f):=by
 intro pins s σ H Q I ⟨Z,B,δ,d,E,hf,q⟩;obtain⟨d1,h1,h2⟩:=R.af hf;refine FormattedValue_plain (cU (h pins s σ H (fun v H'=>aH H H'/\Rep X.K B H' d1 v) I ⟨Z,B,δ,d1,E,h1,fun v H' s1 r1=>⟨s1,r1⟩⟩) fun v s1 ⟨xv,H1,I1,r1,Kf,e1⟩=>?_)
 unfold Fw at h2;split at h2
 .obtain⟨h3,h4⟩:=R.aN h2;cases h4;rw[Rep.str.mp e1] at r1;obtain⟨t,rfl⟩:=r1;exact formatField_str (fun t' tk=>⟨.str _,H1,I1.tok _,⟨_,rfl⟩,q _ H1 Kf (Rep.str.mpr rfl)⟩) (of_decide_eq_true h3)
 .obtain⟨h3,h4⟩:=R.aN h2;cases h4;rw[Rep.int.mp e1] at r1;obtain⟨t,rfl⟩:=r1;exact formatField_int_small (of_decide_eq_true h3) ⟨.str _,H1,I1.tok _,⟨_,rfl⟩,q _ H1 Kf (Rep.str.mpr rfl)⟩
 .cases h2
def KW:List (D × D)->Str->R (Option D)
 | [],_=> .ok none
 | (.str y,d) ::r,x=>(KW r x).bind fun o=> .ok (match o with | some e=>some e | none=>if y=x then some d else none)
 | _ ::_,_=> .no
def y_(x:Str):List D:=x.cps.toList.map fun c=> .str ⟨#[c]⟩
def Te(x:Str):It:=⟨fun i _=>i < x.cps.size,fun i H v H'=>H'=H/\∃c,x.cps[i]? =some c/\v= .str ⟨#[c]⟩,fun i _=>x.cps.size<=i⟩
theorem CJ{K:W.Frag}(it:Addr)(x:Str)(t:Tok)(ty:String)(Er:ty="str_ascii_iterator"\/ty="str_iterator"):Turn P w K tg (Te x) [it] it (fun i h=>h.IsStrIter it ty x t i/\i<=x.cps.size) where
 mem:=by simp
 obj:=fun i h st b hb=>by
  have e:b=it:=by simpa using hb
  subst e;obtain⟨o,e,c,d⟩:=st.1;exact⟨o,e,fun v z=>by rw[d] at z;cases z⟩
 keep:=fun i h h' st k=>⟨let⟨o,ho,r⟩:=st.1;⟨o,k it (by simp) o ho,r⟩,st.2⟩
 item:=by
  intro X hP hw hK hc i pins s σ H E I hf st hg;subst hP hw hK;obtain⟨f0,f1,f2,f3,f4,f5⟩:=hf it (by simp)
  have W:Walks X.prog X.w X.A it [it] [it] x.cps.size (SignAt x) (fun i h=>h.IsStrIter it ty x t i):=by
   rcases Er with rfl | rfl
   .exact Walks.strAscii (I.ok.hd hc) it x t
   .exact Walks.strWide (I.ok.hd hc) it x t
  refine W.item i s _ _ hg st.1 fun v h' tk hv D7 kk=>?_
  obtain⟨c,u,e1,rfl⟩:=hv;have I1:Inv X pins σ H {s with heap:=h',toks:=tk}:=I.turned (fun b o hb e=>kk b o (by simpa using hb) e) f0 f1 f3 f4 f5
  obtain⟨o,e,cl,d⟩:=id D7;refine⟨_,rfl,zB (s:={s with heap:=h',toks:=tk}) (n:=ty) e cl d ?_ ⟨.str ⟨#[c]⟩,H,I1,⟨u,rfl⟩,⟨rfl,c,e1,rfl⟩,⟨D7,hg⟩,fun b hb=>(hf b hb).1⟩⟩
  rcases Er with rfl | rfl <;> decide
 done:=by
  intro X hP hw hK hc i pins s σ H E I hf st hg;subst hP hw hK;obtain⟨f0,f1,f2,f3,f4,f5⟩:=hf it (by simp)
  have W:Walks X.prog X.w X.A it [it] [it] x.cps.size (SignAt x) (fun i h=>h.IsStrIter it ty x t i):=by
   rcases Er with rfl | rfl
   .exact Walks.strAscii (I.ok.hd hc) it x t
   .exact Walks.strWide (I.ok.hd hc) it x t
  have e:i=x.cps.size:=Nat.le_antisymm st.2 hg;exact W.done s _ _ (e▸st.1) fun h' tk kk=>⟨rfl,I.turned (fun b o hb e=>kk b o (by simpa using hb) e) f0 f1 f3 f4 f5⟩
 self:=fun A i s Q E st h=>by
  rcases Er with rfl | rfl
  .exact wpAny_pyIter_striter_ascii st.1 h
  .exact wpAny_pyIter_striter_wide st.1 h
def zP(f:FD):aq->R (List D):=fun δ=>(f δ).bind fun d=>match d with | .str x=> .ok (y_ x) | _=> .no
theorem Fz(h:PD X e f):Ks X tg e (zP f):=by
 intro pins s σ H RR I ⟨Z,B,δ,ds,E,hf,q⟩;obtain⟨d,h1,h2⟩:=R.af hf;refine cU (h pins s σ H (fun v H1=>aH H H1/\Rep X.K B H1 d v) I ⟨Z,B,δ,d,E,h1,fun v H1 s1 r1=>⟨s1,r1⟩⟩) fun v s1 ⟨x,H1,I1,r1,ss,rr⟩=>?_
 cases d with
 | str z=>
   cases h2;rw[Rep.str.mp rr] at r1;obtain⟨t,rfl⟩:=r1;refine wpAny_pyIter_strU ?_;have Er:strIterType z="str_ascii_iterator"\/strIterType z="str_iterator":=by
    unfold strIterType;split
    .exact .inl rfl
    .exact .inr rfl
   refine⟨s1.heap.objs.size,[s1.heap.objs.size],_,_,H1,rfl,I1.kept (t':=s1.toks) fun b o e=>Heap.get?_push_of_some _ e,CJ _ z t (strIterType z) Er,⟨⟨_,Heap.get?_push_size _ rfl,rfl,rfl⟩,Nat.zero_le _⟩,fun b hb=>?_,q _ H1 ss fun B' H' pr=>?_⟩
   .have e:b=s1.heap.objs.size:=by simpa using hb
    subst e;exact I1.Ag (Nat.le_refl _) (I1.hok.fresh (Nat.le_refl _))
   .refine⟨fun i d hd=>?_,?_⟩
    .unfold y_ at hd;rw[List.getElem?_map] at hd;cases e:z.cps.toList[i]? with
     | none=>rw [e] at hd;cases hd
     | some c=>
       rw[e] at hd;cases hd;have e':z.cps[i]? =some c:=by simpa using e
       exact⟨(Array.getElem?_eq_some_iff.mp e').1,fun x pX ⟨e1,c',e2,e3⟩ _=>by
        subst e1;rw[e'] at e2;cases e2;exact⟨aH.refl _,Rep.str.mpr e3⟩⟩
    .show z.cps.size<=(y_ z).length;unfold y_;simp
 | _=>cases h2
def XT(K:W.Frag)(a:Addr):It:=
 ⟨fun i H=>∃xs x,nX K H a xs/\xs[i]? =some x,fun i H v H'=>∃p x,H p=none/\v= .ref p/\(∀xs,nX K H a xs->xs[i]? =some x)/\H'=upd H p (.tup [.int i,x]),fun i H=>∃xs,nX K H a xs/\xs.length<=i⟩
def wG(ds:List D):List D:=ds.zipIdx.map fun p=> .tup [.int p.2,p.1]
def OI(f:FD):aq->R (List D):=fun δ=>(f δ).bind fun d=>match d with | .lst ds=> .ok (wG ds) | _=> .no
end
end L2
end
section
namespace L2
open PySem PySem.Spec PyProof.Rows
def Def(K:W.Frag)(mg:Yd)(x:Str)(st:Stmt):Prop:=∃f fd,xl K x x st f fd/\mg x=some (.ref f)
def Callee(P:Program)(w:World)(K:W.Frag)(mg:Yd)(base:Heap)(k:Nat)(x:Str)(n:Nat)(g:List D->R D):Prop:=
 ∃f fd ps,iT P w K mg base t_ k f fd ps (EZ K n g)/\mg x=some (.ref f)/\PySem.W.keepIn K (.ref f)=true/\Binds K fd ps []
theorem ba:∀(δ:aq) (ds:List D),aJ δ= .ok ds->ds.length=0:=fun δ ds h=>by cases h;rfl
theorem aE{g:aq->R (List D)}{n:Nat}(h:∀(δ:aq) (ds:List D),g δ= .ok ds->ds.length=n):∀(δ:aq) (ds:List D),ai f g δ= .ok ds->ds.length=n+1:=fun δ ds e=>by
 obtain⟨d,h1,h2⟩:=R.af e;obtain⟨es,h3,h4⟩:=R.af h2;cases h4;rw[List.length_cons,h δ es h3]
theorem Cb{P:Program}{w:World}{K:W.Frag}{mg:Yd}{base:Heap}{x qual:Str}{st:Stmt}{f:Addr}{fd:FuncData}{N ps:List Str}{k:Nat}{F:FS}{b:List Stmt}{sc:Scope}(hb:aQ st=b)(hs:aD st=sc)(Fn:xl K x qual st f fd)(S:bb N ps sc)
 (g5:∀(dJ:Value) (A:Around) (outer:List Env) (s:Shared) (H:Hp) (E:XK),dw k (A.deeper (envOfC qual sc s.heap.objs.size f dJ))->
   u7 (lz t_ P w K mg base N qual sc f dJ A outer s H E).E_ b F):iT P w K mg base t_ (k+1) f fd ps (EZ K ps.length (wa N F)):=by
 subst hb hs;exact E9 Fn S g5
section
variable {X:Cx}
theorem BE{g:List D->R D}{k j n:Nat}{x:Str}{p pos:Pos}{e:Expr}{es:List Expr}{fs:aq->R (List D)}(C:Callee X.prog X.w X.K X.mg X.base k x n g)(hr:dw j X.A)(DY:k<=j)(hg:Gl X x)(ha:Bd X (e ::es) fs)
 (hn:∀δ ds,fs δ= .ok ds->ds.length=n) (j9:(x==("__debug__":Str))=false:=by decide) (he:starEach (e ::es) X.env=(false,eval e X.env) ::starEach es X.env:=by rfl) (lP:(backTo pos (starEach es X.env)).any (·.1)=false:=by rfl) :
 PD X (.Call (.Name x p) (e ::es) [] pos) (aM g fs):=by
 obtain⟨f,fd,ps,F,hm,hk,hb⟩:=C;exact Fv F (hr.mono DY) hg hm hk hb ha hn j9 he lP
def Ma(sc:Scope)(N:List Str)(scope:Scope)(kp:List Nat)(kn:List Str):Bool:=
 decide (scope.kind= .function) && scope.names.all (fun y=>decide (y.2= .cell->scope.names.lookup y.1=some .cell)) && scope.names.all (fun y=>decide (y.2= .local->scope.names.lookup y.1=some .local))
  && scope.names.all (fun y=>decide (y.2= .free->(sc.names.lookup y.1=some .cell\/sc.names.lookup y.1=some .free))) && scope.names.all (fun y=>decide (y.2= .free->scope.names.lookup y.1=some .free)) && decide (kn.length=kp.length)
  && (List.range kp.length).all (fun j=>decide ((kp[j]?).bind (N[·]?)=kn[j]?)) && kn.all (fun x=>decide (scope.names.lookup x=some .free))
theorem di.of{own:List Str}{kp:List Nat}{kn:List Str}{N:List Str}(h1:X.env.scope=sc)(h2:X.N=N)(h:Ma sc N scope kp kn=true):di X scope own kp kn:=by
 unfold Ma at h;simp only[Bool.and_eq_true,decide_eq_true_eq,List.all_eq_true] at h;obtain⟨⟨⟨⟨⟨⟨⟨a1,a2⟩,a3⟩,a4⟩,a8⟩,a5⟩,a6⟩,a7⟩:=h;refine⟨a1,a2,a3,fun y hy hf=>?_,a8,a5,fun j i x hj hx=>?_,a7⟩
 .have:=a4 y hy hf;unfold Env.kindOf;rw[h1];exact this
 .have n4:j < kp.length:=(List.getElem?_eq_some_iff.mp hj).1;have:=a6 j (List.mem_range.mpr n4);rw[hj] at this;rw[h2];exact this.trans hx
def UM(aA:List (Key × V))(f g:FD):FD:=fun δ=>(f δ).bind fun k=>(g δ).bind fun d=>match k with
 | .str x=>(match kx (DP [] aA) (Sum.inr x) with | some (.int i)=> .ok (.int i) | none=> .ok d | _=> .no)
 | _=> .no
def Rq(i:Nat)(f:FD):FS:=fun δ=>(f δ).bind fun d=>match d with
 | .lst es=>(yY δ i).bind fun ds=>R.aI (decide (ds.length+es.length<=sizeLine)) (.ok (.nx (δ.set i (.bld (ds++es)))))
 | _=> .no
end
end L2
end
section
namespace L2
open PySem PySem.Spec PyProof.Rows
structure QD (X:Cx) (e:Expr) (f:FD):Prop where
 h:PD X e f
structure QN (X:Cx) (e:Expr) (f:aq->R (List D)):Prop where
 h:PN X e f
structure QB (X:Cx) (e:Expr) (f:aq->R Bool):Prop where
 h:PB X e f
structure HP (X:Cx) (e:Expr) (f:aq->R Bool):Prop where
 h:D_ X e f
structure Bb (X:Cx) (e:List Expr) (f:aq->R (List D)):Prop where
 h:Bd X e f
structure Ky (X:Cx) (e:Stmt) (f:FS):Prop where
 h:JS X e f
structure yf (X:Cx) (e:List Stmt) (f:FS):Prop where
 h:u7 X e f
structure NX (X:Cx) (e:Expr) (f:FT):Prop where
 h:MU X e f
structure Ta (X:Cx) (e:List Expr) (f:GR):Prop where
 h:OL X e f
structure Kr (X:Cx) (tg e:Expr) (f:aq->R (List D)):Prop where
 h:Ks X tg e f
structure QP (X:Cx) (e:Option Expr) (f:FO):Prop where
 h:PP X e f
structure QJ (X:Cx) (e:List Expr) (f:aq->R (List Str)):Prop where
 h:PJ X e f
structure F1 (X:Cx) (e:List Expr) (c:aq->R Bool):Prop where
 h:qM X e (Ha X.K c)
section
variable {X:Cx}
theorem bK{f:aq->R (List D)}(h:QN X e f):QD X e (eNew f):=⟨JV h.1⟩
theorem ae(i:Nat){pos:Pos}(hN:X.N[i]? =some x:=by rfl)(hv:Lu X.env.scope x:=by first | exact Or.inl rfl | exact Or.inr (Or.inl rfl) | exact Or.inr (Or.inr rfl))(hd:(x==("__debug__":Str))=false:=by decide)(xf:(x==("__classdict__":Str))=false:=by decide):QD X (.Name x pos) (ag i):=⟨HF i hN hv hd xf⟩
theorem ah{i j pos}:QD X (.Constant (.int i) j pos) (eC (.int i)):=⟨H_⟩
theorem jc{b j pos}:QD X (.Constant (.bool b) j pos) (eC (.bl b)):=⟨Ly⟩
theorem aj{x j pos}:QD X (.Constant (.str x) j pos) (eC (.str x)):=⟨Hv⟩
theorem gb{d:D}{pos:Pos}(g:Glob X.K X.mg x d)(hg:Gl X x)(hd:(x==("__debug__":Str))=false:=by decide):QD X (.Name x pos) (eC d):=⟨E6 g hg hd⟩
theorem ak:Bb X [] aJ:=⟨E5⟩
theorem aa{g:aq->R (List D)}(h:QD X e f)(t:Bb X es g)(hs:starEach (e ::es) X.env=(false,eval e X.env) ::starEach es X.env:=by rfl):Bb X (e ::es) (ai f g):=⟨Cr h.1 t.1 hs⟩
theorem kD{g:aq->R (List D)}{x1 pos}(h:Bb X es g):QD X (.Tuple es x1 pos) (qO g):=⟨IF h.1⟩
theorem bV{g:aq->R (List D)}{pos}(h:Bb X es g):QN X (.List es pos) (e8 g):=⟨Ht h.1⟩
theorem aw{op:Operator}{g:D->D->R D}(ho:mC X (binaryOp op) g)(ha:QD X a fa)(hb:QD X b fb):QD X (.BinOp a op b pos) (e2 g fa fb):=⟨KU ho ha.1 hb.1⟩
theorem eX{op:CmpOp}{g:D->D->R D}(ho:mC X (compareOp op) g)(ha:QD X a fa)(hb:QD X b fb)(hm:behindInMarks op b=false):QD X (.Compare a [op] [b] pos) (e2 g fa fb):=⟨IG ho ha.1 hb.1 hm⟩
theorem b6{op:CmpOp}{g:D->D->R D}(ho:mC X (compareOp op) g)(ha:QD X a fa)(hb:QD X b fb)(hm:behindInMarks op b=false):QB X (.Compare a [op] [b] pos) (b2 g fa fb):=⟨Iq ho ha.1 hb.1 hm⟩
theorem AR{op D2:CmpOp}{g g':D->D->R D}{pos:Pos}(ho:mC X (compareOp op) g)(qy:mC X (compareOp D2) g')(ha:QD X a fa)(hb:QD X b fb)(hc:QD X c fc)(hm:lastMarks [op,D2] [b,c]=false:=by with_unfolding_all rfl):QD X (.Compare a [op,D2] [b,c] pos) (qo g g' fa fb fc):=⟨BG ho qy ha.1 hb.1 hc.1 hm⟩
theorem nQ{a:Expr}(ha:QD X a f)(he:∀whole,isTrue a X.env whole=(do let v <-whole;standAt a.pos;holding [v] (truthy v)):=by intro _;rfl):QB X a (tq f):=⟨HZ ha.1 he⟩
theorem l5{f:aq->R Bool}(h:HP X e f):QB X e f:=⟨D_.pb h.1⟩
theorem AV{f:aq->R Bool}(h:QB X a f):HP X (.BoolOp .And [a] pos) f:=⟨Bt h.1⟩
theorem lL{f:aq->R Bool}(h:QB X a f):HP X (.BoolOp .Or [a] pos) f:=⟨EF h.1⟩
theorem Ca{rest:List Expr}{f g:aq->R Bool}(ha:QB X a f)(hb:HP X (.BoolOp .And (b ::rest) pos) g):HP X (.BoolOp .And (a ::b ::rest) pos) (AZ f g):=⟨Gj ha.1 hb.1⟩
theorem ky{rest:List Expr}{f g:aq->R Bool}(ha:QB X a f)(hb:HP X (.BoolOp .Or (b ::rest) pos) g):HP X (.BoolOp .Or (a ::b ::rest) pos) (AE f g):=⟨I_ ha.1 hb.1⟩
theorem uN{f:aq->R Bool}(ha:QB X a f):QB X (.UnaryOp .Not a pos) (ya f):=⟨JF ha.1⟩
theorem l6{op}(h:QD X a f):QD X (.BoolOp op [a] pos) f:=⟨HY h.1⟩
theorem jE{rest:List Expr}(ha:QD X a f)(hb:QD X (.BoolOp .And (b ::rest) pos) g):QD X (.BoolOp .And (a ::b ::rest) pos) (qw f g):=⟨Iv ha.1 hb.1⟩
theorem Jr{rest:List Expr}(ha:QD X a f)(hb:QD X (.BoolOp .Or (b ::rest) pos) g):QD X (.BoolOp .Or (a ::b ::rest) pos) (KZ f g):=⟨L5 ha.1 hb.1⟩
theorem EY(ha:QD X a f):QD X (.UnaryOp .Not a pos) (Gv f):=⟨HW ha.1⟩
theorem bF{g:List D->R D}{id:String}{p pos:Pos}{fs:aq->R (List D)}(hc:dG X (.builtin id) g)(hg:Gl X x)(hm:X.mg x=none)(hv:bootBuiltins x=some (.builtin id))(ha:Bb X (e ::es) fs)(hn:x≠"__name__":=by decide)(j9:(x==("__debug__":Str))=false:=by decide)(he:starEach (e ::es) X.env=(false,eval e X.env) ::starEach es X.env:=by rfl)(lP:(backTo pos (starEach es X.env)).any (·.1)=false:=by rfl):QD X (.Call (.Name x p) (e ::es) [] pos) (aM g fs):=⟨Br hc hg hm hv ha.1 hn j9 he lP⟩
theorem xC{g:List D->R D}{T:String}{p pos:Pos}{fs:aq->R (List D)}(hc:dG X (.type T) g)(hg:Gl X x)(hm:X.mg x=none)(hv:bootBuiltins x=some (.type T))(ha:Bb X (e ::es) fs)(hn:x≠"__name__":=by decide)(j9:(x==("__debug__":Str))=false:=by decide)(he:starEach (e ::es) X.env=(false,eval e X.env) ::starEach es X.env:=by rfl)(lP:(backTo pos (starEach es X.env)).any (·.1)=false:=by rfl):QD X (.Call (.Name x p) (e ::es) [] pos) (aM g fs):=⟨Ae hc hg hm hv ha.1 hn j9 he lP⟩
theorem dn:yf X [] kJ:=⟨EC⟩
theorem aF{st:Stmt}{rest:List Stmt}{F G:FS}(h1:Ky X st F)(h2:yf X rest G):yf X (st ::rest) (cn F G):=⟨Bp h1.1 h2.1⟩
theorem bj{st:Stmt}{F:FS}(h1:Ky X st F):yf X [st] F:=⟨Fs h1.1⟩
theorem aY{i:Nat}{pos pos':Pos}(hN:X.N.Nodup)(hi:X.N[i]? =some x)(hx:Loc X.env.scope x)(he:QD X e f)(hs:swapsWith e (some (.Name x pos')) pos.line X.env=pure false:=by rfl)(hf:X.fn x=true\/X.env.scope.names.lookup x=some .local:=by first | exact .inl rfl | exact .inr rfl | assumption):Ky X (.Assign [.Name x pos'] e pos) (cD i f):=⟨FR hN hi hx he.1 hs hf⟩
theorem bU(he:QD X e f):Ky X (.Return (some e) pos) (ja f):=⟨E4 he.1⟩
theorem eW{fc:aq->R Bool}{F G:FS}(hc:QB X c fc)(ha:yf X a F)(hb:yf X b G):Ky X (.If c a b pos) (qQ fc F G):=⟨Ic hc.1 ha.1 hb.1⟩
theorem jF{i:Nat}{pos:Pos}(hN:X.N.Nodup)(hi:X.N[i]? =some x)(hx:Loc X.env.scope x)(hf:X.fn x=true\/X.env.scope.names.lookup x=some .local:=by first | exact .inl rfl | exact .inr rfl | assumption):NX X (.Name x pos) (lY i):=⟨Cw hN hi hx hf⟩
theorem lu(h:QD X e f):Kr X tg e (oa f):=⟨Fh h.1⟩
theorem mV{tg a:Expr}{p pos:Pos}(h:QD X a f)(hg:Gl X "range")(hm:X.mg "range"=none)(hs:starEach [a] X.env=[(false,eval a X.env)]:=by rfl):Kr X tg (.Call (.Name "range" p) [a] [] pos) (l_ f):=⟨x5 h.1 hg hm hs⟩
theorem nq{own:List Str}{kp:List Nat}{kn:List Str}{it:aq->R (List D)}{c:aq->R Bool}{pos:Pos}(hc:X.calm=true)(C:di X scope own kp kn)(hi:Kr X tg iter it)(hg:∀fp s H,NX (aZ X scope (own++kn) fp s H) tg t)(A4:∀fp s H,F1 (aZ X scope (own++kn) fp s H) ifs c)(he:∀fp s H,QD (aZ X scope (own++kn) fp s H) elt f)(hs:∀x,foldedSetIterable iter X.env x=pure x:=by intro _;rfl):QN X (.ListComp elt [⟨tg,iter,ifs,0⟩] scope pos) (kB it t c f own kp):=⟨EU hc C hi.1 (fun fp s H=>(hg fp s H).1) (fun fp s H=>(A4 fp s H).1) (fun fp s H=>(he fp s H).1) hs⟩
theorem lI:F1 X [] wA:=⟨CN⟩
theorem B5{c:aq->R Bool}(h:QB X e c):F1 X [e] c:=⟨FY h.1⟩
theorem uw{i:Nat}{pos' sV:Pos}{own:List Str}{kp:List Nat}{kn:List Str}{it:aq->R (List D)}{c:aq->R Bool}(hc:X.calm=true)(hN:X.N.Nodup)(hx:X.N[i]? =some x)(Bi:X.env.scope.names.lookup x=some .local)(C:di X scope own kp kn)(hi:Kr X tg iter it)(hg:∀fp s H,NX (aZ X scope (own++kn) fp s H) tg t)(A4:∀fp s H,F1 (aZ X scope (own++kn) fp s H) ifs c)(he:∀fp s H,QD (aZ X scope (own++kn) fp s H) elt f)(D4:swapsWith (.ListComp elt [⟨tg,iter,ifs,0⟩] scope pos) (some (.Name x pos')) sV.line X.env=pure true:=by rfl)(hs:∀x,foldedSetIterable iter X.env x=pure x:=by intro _;rfl):Ky X (.Assign [.Name x pos'] (.ListComp elt [⟨tg,iter,ifs,0⟩] scope pos) sV) (cD i (eNew (kB it t c f own kp))):=⟨vE hc hN hx Bi C hi.1 (fun fp s H=>(hg fp s H).1) (fun fp s H=>(A4 fp s H).1) (fun fp s H=>(he fp s H).1) D4 hs⟩
theorem aS(ha:QD X a fa)(hb:QD X b fb)(hs:uO b):QD X (.Subscript a b pos) (e2 c9 fa fb):=⟨Ld ha.1 hb.1 hs⟩
theorem cL:QP X none eB:=⟨ET⟩
theorem cS(h:QD X e f):QP X (some e) (dF f):=⟨Gq h.1⟩
theorem gg{lo hi:Option Expr}{fl fh:FO}(he:QD X e f)(hl:QP X lo fl)(hh:QP X hi fh):QD X (.Subscript e (.Slice lo hi none p2) pos) (q8 f fl fh):=⟨LK he.1 hl.1 hh.1⟩
theorem rJ{o e:Expr}{f:FD}{fs:aq->R (List D)}{apos bx:Pos}(ho:QD X o f)(ha:Bb X [e] fs)(i0:attributeBase o "join" X.env (eval o X.env)=eval o X.env:=by rfl)(mm:((backTo bx (starEach [e] X.env)).all (fun x=>!x.1) && (backToKw bx (keywordEach [] X.env)).all (fun x=>x.1.isSome)
 && decide (([e]:List Expr).length+([]:List Keyword).length+(if([]:List Keyword).isEmpty then 0 else 1) < 30))=true:=by rfl) (i3:(apos.endLine==bx.line)=true:=by rfl) (hs:starEach [e] X.env=(false,eval e X.env) ::starEach [] X.env:=by rfl):QD X (.Call (.Attribute o "join" apos) [e] [] bx) (u_ "str" mJ f fs):=⟨Et ho.1 ha.1 i0 mm i3 hs⟩
theorem gh:QJ X [] oz:=⟨JR⟩
theorem aP{g:aq->R (List Str)}(he:QD X e f)(hr:QJ X es g)(PV:evalEach (e ::es) X.env=eval e X.env ::evalEach es X.env:=by rfl):QJ X (e ::es) (bM f g):=⟨EA he.1 hr.1 PV⟩
theorem cE{rest:List Expr}{g:aq->R (List Str)}(h:QJ X (D1 ::D5 ::rest) g):QD X (.JoinedStr (D1 ::D5 ::rest) pos) (cN g):=⟨AF h.1⟩
theorem fP(h:QD X e f):QD X (.FormattedValue e (-1) none pos) (lM f):=⟨Ik h.1⟩
theorem wx(h:QD X e f):Kr X tg e (zP f):=⟨Fz h.1⟩
theorem cK{P:Program}{w:World}{K:W.Frag}{mg:Yd}{base:Heap}{x qual:Str}{st:Stmt}{f:Addr}{fd:FuncData}{N ps:List Str}{k:Nat}{F:FS}{b:List Stmt}{sc:Scope}(hb:aQ st=b)(hs:aD st=sc)(Fn:xl K x qual st f fd)(S:bb N ps sc)(g5:∀(dJ:Value) (A:Around) (outer:List Env) (s:Shared) (H:Hp) (E:XK),dw k (A.deeper (envOfC qual sc s.heap.objs.size f dJ))->
 yf (lz t_ P w K mg base N qual sc f dJ A outer s H E).E_ b F):iT P w K mg base t_ (k+1) f fd ps (EZ K ps.length (wa N F)):=Cb hb hs Fn S (fun dJ A outer s H E hr=>(g5 dJ A outer s H E hr).1)
theorem aT{g:List D->R D}{k j n:Nat}{p pos:Pos}{fs:aq->R (List D)}(C:Callee X.prog X.w X.K X.mg X.base k x n g)(hr:dw j X.A)(DY:k<=j)(hg:Gl X x)(ha:Bb X (e ::es) fs)(hn:∀δ ds,fs δ= .ok ds->ds.length=n)(j9:(x==("__debug__":Str))=false:=by decide)(he:starEach (e ::es) X.env=(false,eval e X.env) ::starEach es X.env:=by rfl)(lP:(backTo pos (starEach es X.env)).any (·.1)=false:=by rfl):QD X (.Call (.Name x p) (e ::es) [] pos) (aM g fs):=⟨BE C hr DY hg ha.1 hn j9 he lP⟩
end
end L2
end
section
namespace L2
open PySem PySem.Spec PyProof.Rows
theorem Av{P:Program}{w:World}{K:W.Frag}{mg mb:Yd}{CX:Ba}{k:Nat}{fa a:Addr}{fd:FuncData}{x:Str}{sp:Sp}{s₁:Shared}{vs:List Value}{ns:List Int}
 (KX:K.In s₁.heap) (SY:s₁.heap.Ns mainGlobals mg) (hb:s₁.heap.Ns builtinsNs mb) (WH:∀x:Str,x≠"__name__"->mb x=bootBuiltins x) (PY:s₁.heap.NoLimit) (hg:s₁.gens=#[])
 (ha:s₁.heap.get? a=some {cls:= .type "list",data:= .seq vs.toArray}) (hi:IntsAre vs ns) (hl:ns.length<=sizeLine) (hr:dw k callerA)
 (F:∀base:Heap,K.In base->base.Ns mainGlobals mg->iT P w K mg base CX k fa fd [x] sp) (MM:∀(s:Shared) (u:Value),BindsTo s fd ⟨[u],[]⟩ [(x,u)])
 (zZ:∀H:Hp,K4 H->wJ K [] H a (ns.map V.int)->sp [.ref a] H (fun v _=>v= .bl true) fun _ _ _=>False)
 (Ww:∀H e s',CX [] H s₁ (fun _ _ _=>False) e s'->False) :
 codeAny (model P w) callerA (.call (.ref fa) ⟨[.ref a],[]⟩) (fun r s'=>r= .ok (.ret (.bool true))/\OldK s₁.heap s'.heap/\s'.os=s₁.os/\AllBare s'.gens) s₁:=by
 have rv:=t6 hi;have lenV:=hi.length;have core:∀H:Hp,K4 H->wJ K [] H a (ns.map V.int)->mO P w H s₁.heap->(∀b,H b≠none->b=a)->(H a≠none->K.lookup a=none)->
  codeAny (model P w) callerA (.call (.ref fa) ⟨[.ref a],[]⟩) (fun r s'=>r= .ok (.ret (.bool true))/\OldK s₁.heap s'.heap/\s'.os=s₁.os/\AllBare s'.gens) s₁:=by
  intro H hO hS hok hA hK;have zY:∀{b:Addr} {o:Obj},s₁.heap.get? b=some o->H b=none->(uJ s₁.heap H).get? b=some o:=fun e n=>Bu e n
  have noA:∀{b:Addr} {o:Obj} {es:Array DictEntry} {ep:Nat},s₁.heap.get? b=some o->o.data= .dict es ep->H b=none:=fun {b o es ep} e d=>by
   cases q:H b with
   | none=>rfl
   | some u=>
     have e':b=a:=hA b (by rw[q];simp)
     subst e';rw[ha] at e;cases e;have d':Data.seq vs.toArray _=Data.dict es ep:=d;cases d'
  have nsK:∀{b:Addr} {m:Yd},s₁.heap.Ns b m->(uJ s₁.heap H).Ns b m:=fun {b m} ⟨o,es,ep,e,d,r⟩=>⟨o,es,ep,zY e (noA e d),d,r⟩
  have hKb:K.In (uJ s₁.heap H):=fun b o e=>zY (KX b o e) (by
   cases q:H b with
   | none=>rfl
   | some u=>
     have e':b=a:=hA b (by rw[q];simp)
     subst e';rw[hK (by rw[q];simp)] at e;cases e)
  have hM:Mod K mg (uJ s₁.heap H):=⟨hKb,nsK SY,⟨mb,nsK hb,WH⟩,let⟨mc,h1,h2⟩:=PY;⟨mc,nsK h1,h2⟩⟩
  have e0:xk P w K mg (uJ s₁.heap H) callerA [] s₁ H:=⟨rfl,hM,fun b o e=>EE e,Nat.le_of_eq (Ac _ _),trivial,fun b hb=>absurd (show b∈([]:List Addr) from hb) (by simp),hok, .of_eq hg⟩
  refine codeAny_mono ((F _ hKb (nsK SY)).run callerA [] s₁ H ⟨[.ref a],[]⟩ [.ref a] [.ref a] _ _ hr e0 (MM s₁ (.ref a)) (.cons rfl .nil) (zZ H hO hS)) fun r s' h=>?_
  cases r with
  | error e=>exact(Ww H e s' h).elim
  | ok fl=>
    cases fl with
    | next=>exact False.elim h
    | brk=>exact False.elim h
    | cont=>exact False.elim h
    | ret u=>
      obtain⟨v,H',os,bare,un,Pe,r',q⟩:=h;have q':v= .bl true:=q;subst q';obtain rfl:u=Value.bool true:=r';refine⟨rfl,OldK.of_keep fun b o e=>?_,os,bare⟩
      cases q:H b with
      | none=>exact un.keep b o e q (by intro z;exact absurd (show b∈([]:List Addr) from z) (by simp)) (by simp)
      | some u=>
        rcases hO b with z | ⟨ob,xs,z⟩
        .rw [q] at z;cases z
        .have z2:=un.frzs b ob _ z;obtain⟨e1,_⟩:=hok b _ z;obtain⟨e2,_⟩:=Pe b _ z2;rw[e] at e1;cases e1;exact e2
 cases hk:K.lookup a with
 | some o=>
   have e:=KX a o hk;rw[ha] at e;cases e;refine core (fun _=>none) (fun _=> .inl rfl) (.inr ⟨vs,_,hk,by rw[List.length_map];exact hl,rv⟩) (fun b u z=>by have z':(none:Option HO)=some u:=z;cases z') (fun b z=>absurd rfl z) fun z=>absurd rfl z
 | none=>
   refine core (fun b=>if b=a then some (.pO {cls:= .type "list",data:= .seq vs.toArray} (.lst (ns.map V.int))) else none) (fun b=>?_) (.inl ⟨by simp, .inr ⟨{cls:= .type "list",data:= .seq vs.toArray},if_pos rfl⟩⟩) (fun b u z=>?_) (fun b z=>?_) fun _=>hk
   .by_cases hb:b=a
    .exact .inr ⟨_,_,if_pos hb⟩
    .exact .inl (if_neg hb)
   .by_cases hb:b=a
    .have z':=(if_pos hb).symm.trans z;cases z';subst hb;exact⟨ha,by rw[List.length_map];exact hl,vs,_,rv,ha⟩
    .have z':=(if_neg hb).symm.trans z;cases z'
   .by_cases hb:b=a
    .exact hb
    .exact absurd (if_neg hb) z
theorem ints_rep{K:W.Frag}{B:List Addr}:∀ns:List Int,az K B H (ns.map D.int) (ns.map V.int)
 | []=>az.nil
 | n ::ns=>az.cons (Rep.int.mpr rfl) (ints_rep ns)
theorem KQ{l:PySem.W.OpenLaw}{n k:Nat}{q:Program}{loose:List Str}{XP:(Str->Option Value)->Heap->Prop}{YP:World->Heap->Prop}{d:DefRec}{K:Params->W.Frag}{x:Str}{g:List D->R D}
 (hn:l.most=some n) (J3:n<=sizeLine) (Pt:d.params.defaults=[]) (hr:dw k callerA) (hY:∀(w:World) (h:Heap),YP w h->(K w.params).In h)
 (F:∀(w:World) (mg:Yd) (fa:Addr) (h:Heap),(K w.params).In h->h.Ns mainGlobals mg->mg d.name=some (.ref fa)->
   ∃fd:FuncData,(∀(s:Shared) (u:Value),BindsTo s fd ⟨[u],[]⟩ [(x,u)])/\∀base:Heap,(K w.params).In base->base.Ns mainGlobals mg->iT l.prog w (K w.params) mg base t_ k fa fd [x] (EZ (K w.params) 1 g))
 (hg:∀ns:List Int,ns.length<=n->g [.lst (ns.map D.int)]= .ok (.bl true)):PySem.W.WalkO q loose XP YP l.row.toRowW d [] (fun f vs=>PySem.call f vs):=by
 refine Att.wM hn Pt fun w s₀ s₁ mg mb fa o pm cd doc a vs ns G Y ho hd xf MD J4 hints hlen Qj=>?_
 have KX:=hY w _ Y;obtain⟨fd,hb,hF⟩:=F w mg fa _ KX G.T.g MD;refine Av KX G.T.g G.T.b G.T.builtins G.T.nolimit Qj J4 hints (Nat.le_trans hlen J3) hr hF hb (fun H hO hS=>?_) fun H e s' h=>h
 refine⟨rfl,[],[.lst (ns.map D.int)], .bl true,fun b hb=>(by cases hb),az.cons (Rep.lst.mpr ⟨_,_,rfl,hS,ints_rep ns⟩) az.nil,hg ns hlen,fun z H' _ r=>Rep.bl.mp r⟩
theorem eF{K:W.Frag}{h:Heap}{mg:Yd}{x:Str}{st:Stmt}{f:Addr}{oc:Value}{od an:Option Addr}{D3:Array (Option Value)}{kV doc pm dJ ct:Value}(X:K.In h)(G:h.Ns mainGlobals mg)(a:PySem.W.nsIn K mainGlobals x=some (some (.ref f)))
 (l:K.lookup f=some ⟨oc,od, .func (PySem.W.fnOf x x (iQ st) (aQ st) (aD st) .none kV doc pm an dJ ct),D3⟩) (c:PySem.W.codeIn K dJ x=true) (k:PySem.W.keepIn K (.ref f)=true):Def K mg x st:=
 ⟨f,_,qd l c k,PySem.W.mg_of X G a⟩
theorem BX{K:W.Frag}{h:Heap}{mg:Yd}(X:K.In h)(G:h.Ns mainGlobals mg){t:Tok}(a:PySem.W.nsIn K mainGlobals x=some (some (.str y t))):Glob K mg x (.str y):=
 ⟨_, .str y,PySem.W.mg_of X G a,⟨t,rfl⟩,fun _ _=>Rep.str.mpr rfl⟩
theorem lA{K:W.Frag}{h:Heap}{mg:Yd}(X:K.In h)(G:h.Ns mainGlobals mg){i:Int}{t:Tok}(a:PySem.W.nsIn K mainGlobals x=some (some (.int i t))):Glob K mg x (.int i):=
 ⟨_, .int i,PySem.W.mg_of X G a,⟨t,rfl⟩,fun _ _=>Rep.int.mpr rfl⟩
theorem pH{K:W.Frag}{B:List Addr}:∀ss:List Str,az K B H (ss.map D.str) (ss.map V.str)
 | []=>az.nil
 | n ::ns=>az.cons (Rep.str.mpr rfl) (pH ns)
theorem wt{K:W.Frag}{h:Heap}{mg:Yd}(X:K.In h)(G:h.Ns mainGlobals mg){x:Str}{a:Addr}{o:Obj}{its:Array Value}{n:Nat}(ss:List Str)(e:PySem.W.nsIn K mainGlobals x=some (some (.ref a)))(l:K.lookup a=some o)(hc:o.cls= .type "tuple")(hd:o.data= .seq its n)
 (hz:its.size<=sizeLine) (r:Vals (ss.map V.str) its.toList):Glob K mg x (.tup (ss.map D.str)):=
 ⟨_, .ref a,PySem.W.mg_of X G e,rfl,fun B H=>Rep.tup.mpr ⟨a,_,rfl, .inr ⟨o,its,n,l,hc,hd,hz,r⟩,pH ss⟩⟩
end L2
end
section
namespace L2
open PySem PySem.Spec PyProof.Rows
theorem Hr{α:Type}{xs:List α}{i:Int}(h0:0<=i)(h:i.toNat < xs.length):uA xs i=some xs[i.toNat]:=by
 unfold uA DK;rw[if_pos h0,if_pos (by omega)]
 simp [h]
theorem strs_map:∀ss:List Str,strs? (ss.map D.str)=some ss
 | []=>rfl
 | s ::ss=>by show(strs? (ss.map D.str)).map (s ::·)=_;rw [strs_map ss];rfl
theorem kH{a b:Str}(h:a.cps.toList=b.cps.toList):a=b:=by
 obtain⟨a⟩:=a;obtain⟨b⟩:=b;congr 1;exact Array.toList_inj.mp h
theorem cP(a b:Str):(a++b).cps.toList=a.cps.toList++b.cps.toList:=by
 show(a.cps++b.cps).toList=_;simp
theorem Ax(a b c:Str):a++b++c=a++(b++c):=kH (by rw[cP,cP,cP,cP,List.append_assoc])
theorem empty_app(a:Str):Str.empty++a=a:=kH (by rw[cP];rfl)
theorem aV{F G:FS}{δ δ1:aq}{r:R Out}(h:F δ= .ok (.nx δ1))(h2:G δ1=r):cn F G δ=r:=by unfold cn;rw [h,R.aK];exact h2
theorem bC{f:aq->R (List D)}{δ:aq}{ds:List D}(h:f δ= .ok ds):eNew f δ= .ok (.lst ds):=by unfold eNew;rw [h];rfl
theorem n8{c:aq->R Bool}{F G:FS}{δ:aq}{r:R Out}(h:c δ= .ok true)(h2:F δ=r):qQ c F G δ=r:=by unfold qQ;rw [h,R.aK,if_pos rfl];exact h2
theorem m8{c:aq->R Bool}{F G:FS}{δ:aq}{r:R Out}(h:c δ= .ok false)(h2:G δ=r):qQ c F G δ=r:=by unfold qQ;rw [h,R.aK,if_neg (by decide)];exact h2
theorem cw{f:FD}{δ:aq}{d:D}(h:f δ= .ok d):ja f δ= .ok (.rt d):=by unfold ja;rw [h];rfl
theorem fS{N:List Str}{F:FS}{ds:List D}{d:D}(h:F (c5 N ds)= .ok (.rt d)):wa N F ds= .ok d:=by unfold wa;rw [h];rfl
theorem bD{α:Type}{p:Prop} [Decidable p](r:R α)(h:p):R.aI (decide p) r=r:=by rw[decide_eq_true h];rfl
theorem bq{i:Nat}{f:FD}{δ:aq}{d:D}(h:f δ= .ok d)(hi:i < δ.length):cD i f δ= .ok (.nx (δ.set i (.val d))):=by unfold cD;rw [h,R.aK,bD _ hi]
theorem lN{it:aq->R (List D)}{c:aq->R Bool}{own:List Str}{kp:List Nat}{δ:aq}{ds ys:List D}(h1:it δ= .ok ds)(h2:ds.length<=sizeLine)(h3:ph t c f (tH own kp δ) ds= .ok ys):kB it t c f own kp δ= .ok ys:=by unfold kB;rw [h1,R.aK,bD _ h2,h3]
theorem HA{ds:List D}{i:Int}{d:D}(h:uA ds i=some d):c9 (.lst ds) (.int i)= .ok d:=by unfold c9;simp only[h]
theorem DN{x:Str}{i:Int}{c:Nat}(hz:x.length<=sizeLine)(h:uA x.cps.toList i=some c):c9 (.str x) (.int i)= .ok (.str ⟨#[c]⟩):=by unfold c9;simp only[h,bD _ hz]
end L2
end
section
namespace L2
open PySem PySem.Spec PyProof.Rows
theorem ax{g:D->D->R D}{fa fb:FD}{δ:aq}{a b:D}{r:R D}(ha:fa δ= .ok a)(hb:fb δ= .ok b)(h:g a b=r):e2 g fa fb δ=r:=by unfold e2;rw [ha,R.aK,hb,R.aK];exact h
theorem dS{g:D->D->R D}{fa fb:FD}{δ:aq}{a b:D}{k:Bool}(ha:fa δ= .ok a)(hb:fb δ= .ok b)(h:g a b= .ok (.bl k)):b2 g fa fb δ= .ok k:=by unfold b2;rw [ax ha hb h];rfl
theorem au{f:FD}{g:aq->R (List D)}{δ:aq}{d:D}{ds:List D}(h:f δ= .ok d)(h2:g δ= .ok ds):ai f g δ= .ok (d ::ds):=by unfold ai;rw [h,R.aK,h2];rfl
theorem aC{g:List D->R D}{fs:aq->R (List D)}{δ:aq}{ds:List D}{r:R D}(h:fs δ= .ok ds)(h2:g ds=r):aM g fs δ=r:=by unfold aM;rw [h,R.aK];exact h2
theorem lR{g:aq->R (List D)}{δ:aq}{ds:List D}(h:g δ= .ok ds)(hl:ds.length<=sizeLine):qO g δ= .ok (.tup ds):=by unfold qO;rw [h,R.aK,bD _ hl]
theorem cb{g:aq->R (List D)}{δ:aq}{ds:List D}(h:g δ= .ok ds)(hl:ds.length<=sizeLine):e8 g δ= .ok ds:=by unfold e8;rw [h,R.aK,bD _ hl]
theorem nL{g:D->List D->R D}{f:FD}{fs:aq->R (List D)}{δ:aq}{ds:List D}{r:R D}(h:f δ= .ok (.str x))(h2:fs δ= .ok ds)(h3:g (.str x) ds=r):u_ "str" g f fs δ=r:=by
 unfold u_;rw [h,R.aK,h2,R.aK];exact h3
theorem f6{f:FD}{fl fh:FO}{δ:aq}{d:D}{lo hi:Option Int}{r:R D}(h:f δ= .ok d)(h1:fl δ= .ok lo)(h2:fh δ= .ok hi)(h3:DM d lo hi=r):q8 f fl fh δ=r:=by unfold q8;rw [h,R.aK,h1,R.aK,h2,R.aK];exact h3
theorem cM{f:FD}{δ:aq}{i:Int}(h:f δ= .ok (.int i)):dF f δ= .ok (some i):=by unfold dF;rw [h];rfl
theorem bu{a b:Str}(h:a.length+b.length<=sizeLine):bO (.str a) (.str b)= .ok (.str (a++b)):=by unfold bO;exact bD _ h
theorem uW{a b:List D}(h:a.length+b.length<=sizeLine):bO (.lst a) (.lst b)= .ok (.lst (a++b)):=by unfold bO;exact bD _ h
theorem sC{a b:Int}(h:0 < b):cC (.int a) (.int b)= .ok (.int (a % b)):=by unfold cC Eg;exact bD _ h
theorem zt{a b:Int}(h:0 < b)(h2:b < 1073741824):eD (.int a) (.int b)= .ok (.int (a / b)):=by unfold eD Eg;exact bD _ ⟨h,h2⟩
theorem FC{f:FD}{δ:aq}{n:Nat}(h:f δ= .ok (.int n))(hn:n < 1000000):l_ f δ= .ok (qN 0 n):=by
 unfold l_;rw [h,R.aK];show R.aI (decide (-(2 ^ 62)<=(n:Int)/\(n:Int) < 2 ^ 62)) _=_;rw[bD _ ⟨by omega,by omega⟩,Int.toNat_natCast]
theorem qt{f:FD}{δ:aq}{ds:List D}(h:f δ= .ok (.lst ds)):oa f δ= .ok ds:=by unfold oa;rw [h];rfl
theorem xE{f:FD}{δ:aq}{b:Bool}(h:f δ= .ok (.bl b)):Kq f δ= .ok b:=by unfold Kq;rw [h];rfl
theorem iX{f:FD}{g:aq->R (List Str)}{δ:aq}{ss:List Str}(h:f δ= .ok (.str x))(h2:g δ= .ok ss):bM f g δ= .ok (x ::ss):=by unfold bM;rw [h,R.aK];show(g δ).bind _=_;rw [h2];rfl
theorem v_{f:FD}{δ:aq}{x:Str}(h:f δ= .ok (.str x))(hl:x.length<=sizeLine):lM f δ= .ok (.str x):=by unfold lM;rw [h,R.aK];unfold Fw;exact bD _ hl
theorem si{f:FD}{δ:aq}{i:Int}(h:f δ= .ok (.int i))(hl:i.natAbs.log2 < 1920):lM f δ= .ok (.str (toString i)):=by unfold lM;rw [h,R.aK];unfold Fw;exact bD _ hl
theorem oH{g:aq->R (List Str)}{δ:aq}{ss:List Str}(h:g δ= .ok ss)(hl:(ss.foldl (·++·) Str.empty).length<=sizeLine):cN g δ= .ok (.str (ss.foldl (·++·) Str.empty)):=by unfold cN;rw [h,R.aK,bD _ hl]
end L2
end
section
namespace L3
open PySem PySem.Spec PyProof.Rows L2
inductive V3 where
 | d (x:D) | loc (k:Nat) | lst (vs:List V3) | tup (vs:List V3) | fn (x:Str)
inductive SO where
 | lst (ds:List D) | dct (aA:List (Key × D)) | ins (c:Nat) (fs:List (Str × V3)) | pO | exc (c:Nat)
abbrev aG:=List SO
inductive R3 (α:Type) where
 | ok (a:α) (S:aG) | ex (c:Nat) (S:aG) | no
def R3.bind{α β:Type}:R3 α->(α->aG->R3 β)->R3 β
 | .ok a S,f=>f a S
 | .ex c S,_=> .ex c S
 | .no,_=> .no
theorem R3.af{α β:Type}{r:R3 α}{f:α->aG->R3 β}{b:β}{S':aG}(h:r.bind f= .ok b S'):∃a S,r= .ok a S/\f a S= .ok b S':=by
 cases r with
 | ok a S=>exact⟨a,S,rfl,h⟩
 | ex c S=>cases h
 | no=>cases h
@[simp] theorem R3.aK{α β:Type}(a:α)(S:aG)(f:α->aG->R3 β):(R3.ok a S).bind f=f a S:=rfl
def R3.aI{α:Type}(c:Bool)(r:R3 α):R3 α:=if c then r else .no
theorem R3.aN{α:Type}{c:Bool}{r:R3 α}{a:α}{S:aG}(h:R3.aI c r= .ok a S):c=true/\r= .ok a S:=by
 cases c with
 | true=>exact⟨rfl,h⟩
 | false=>cases h
def R3.of{α:Type}(r:R α)(S:aG):R3 α:=match r with | .ok a=> .ok a S | _=> .no
theorem R3.of_ok{α:Type}{r:R α}{S S':aG}{a:α}(h:R3.of r S= .ok a S'):r= .ok a/\S'=S:=by
 cases r with
 | ok b=>cases h;exact⟨rfl,rfl⟩
 | ex c=>cases h
 | no=>cases h
structure P3 where
 r:List Addr
 z:List Addr
 f:List Addr
def P3.b(ρ:P3):List Addr:=ρ.r.filter (fun a=>!ρ.f.contains a)++ρ.z
theorem P3.eA{ρ:P3}{a:Addr}:a∈ρ.b↔(a∈ρ.r/\a ∉ ρ.f)\/a∈ρ.z:=by
 unfold P3.b;rw[List.mem_append,List.mem_filter];simp
def P3.push(ρ:P3)(a:Addr):P3:=⟨ρ.r++[a],ρ.z,ρ.f⟩
def P3.cut(ρ:P3)(n:Nat):P3:=⟨ρ.r.take n,ρ.z,ρ.f⟩
mutual
def aO(K:W.Frag)(ρ:P3)(H:Hp):V3->V->Prop
 | .d x,v=>Rep K ρ.b H x v
 | .loc k,v=>∃a,ρ.r[k]? =some a/\v= .ref a
 | .lst vs,v=>∃a xs,v= .ref a/\wJ K ρ.b H a xs/\ay K ρ H vs xs
 | .tup vs,v=>∃a xs,v= .ref a/\zh K ρ.b H a xs/\ay K ρ H vs xs
 | .fn x,v=>∃a,PySem.W.nsIn K mainGlobals x=some (some (.ref a))/\v= .ref a
def ay(K:W.Frag)(ρ:P3)(H:Hp):List V3->List V->Prop
 | [],xs=>xs=[]
 | d ::ds,xs=>∃x r,xs=x ::r/\aO K ρ H d x/\ay K ρ H ds r
end
structure Pre (ρ:P3) (H:Hp) (bg:P3) (H':Hp):Prop where
 bp:eh ρ.b H bg.b H'
 zz:bg.z=ρ.z
 zs:∀(b:Addr) (o:HO),b∈ρ.z->H b=some o->H' b=some o
 ext:∀(k:Nat) (a:Addr),ρ.r[k]? =some a->bg.r[k]? =some a
theorem Pre.refl(ρ:P3)(H:Hp):Pre ρ H ρ H:=⟨eh.refl ρ.b H,rfl,fun _ _ _ h=>h,fun _ _ h=>h⟩
theorem Pre.trans(a:Pre ρ H bg H')(b:Pre bg H' D0 pX):Pre ρ H D0 pX:=⟨a.bp.trans b.bp,b.zz.trans a.zz,fun c o hc h=>b.zs c o (by rw[a.zz];exact hc) (a.zs c o hc h),fun k x h=>b.ext k x (a.ext k x h)⟩
theorem Pre.same(s:aH H H'):Pre ρ H ρ H':=⟨eh.same s,rfl,fun b o _ h=>s b o h,fun _ _ h=>h⟩
theorem zh.bp{K:W.Frag}{B B':List Addr}(p:eh B H B' H'){a:Addr}{xs:List V}(l:zh K B H a xs):zh K B' H' a xs:=
 l.elim (fun z=> .inl ⟨(p.rd z.2 z.1).2,(p.rd z.2 z.1).1⟩) .inr
mutual
theorem aO.pre{K:W.Frag}(p:Pre ρ H bg H'):∀{d:V3} {v:V},aO K ρ H d v->aO K bg H' d v
 | .d x,v,h=>by unfold aO at h ⊢;exact h.bp p.bp
 | .loc k,v,h=>by unfold aO at h ⊢;obtain⟨a,h1,h2⟩:=h;exact⟨a,p.ext k a h1,h2⟩
 | .lst vs,v,h=>by unfold aO at h ⊢;obtain⟨a,xs,e,l,r⟩:=h;exact⟨a,xs,e,l.bp p.bp,ay.pre p r⟩
 | .tup vs,v,h=>by unfold aO at h ⊢;obtain⟨a,xs,e,l,r⟩:=h;exact⟨a,xs,e,zh.bp p.bp l,ay.pre p r⟩
 | .fn x,v,h=>by unfold aO at h ⊢;exact h
theorem ay.pre{K:W.Frag}(p:Pre ρ H bg H'):∀{ds:List V3} {xs:List V},ay K ρ H ds xs->ay K bg H' ds xs
 | [],_,h=>by unfold ay at h ⊢;exact h
 | d ::ds,xs,h=>by
   unfold ay at h ⊢;obtain⟨x,r,e,h1,h2⟩:=h;exact⟨x,r,e,aO.pre p h1,ay.pre p h2⟩
end
structure PW (ρ:P3) (H:Hp) (bg:P3) (H':Hp):Prop where
 bp:eh ρ.b H bg.b H'
 ext:∀(k:Nat) (a:Addr),ρ.r[k]? =some a->bg.r[k]? =some a
theorem Pre.pw(p:Pre ρ H bg H'):PW ρ H bg H':=⟨p.bp,p.ext⟩
theorem PW.trans(a:PW ρ H bg H')(b:PW bg H' D0 pX):PW ρ H D0 pX:=⟨a.bp.trans b.bp,fun k x h=>b.ext k x (a.ext k x h)⟩
mutual
theorem aO.pw{K:W.Frag}(p:PW ρ H bg H'):∀{d:V3} {v:V},aO K ρ H d v->aO K bg H' d v
 | .d x,v,h=>by unfold aO at h ⊢;exact h.bp p.bp
 | .loc k,v,h=>by unfold aO at h ⊢;obtain⟨a,h1,h2⟩:=h;exact⟨a,p.ext k a h1,h2⟩
 | .lst vs,v,h=>by unfold aO at h ⊢;obtain⟨a,xs,e,l,r⟩:=h;exact⟨a,xs,e,l.bp p.bp,ay.pw p r⟩
 | .tup vs,v,h=>by unfold aO at h ⊢;obtain⟨a,xs,e,l,r⟩:=h;exact⟨a,xs,e,zh.bp p.bp l,ay.pw p r⟩
 | .fn x,v,h=>by unfold aO at h ⊢;exact h
theorem ay.pw{K:W.Frag}(p:PW ρ H bg H'):∀{ds:List V3} {xs:List V},ay K ρ H ds xs->ay K bg H' ds xs
 | [],_,h=>by unfold ay at h ⊢;exact h
 | d ::ds,xs,h=>by
   unfold ay at h ⊢;obtain⟨x,r,e,h1,h2⟩:=h;exact⟨x,r,e,aO.pw p h1,ay.pw p h2⟩
end
theorem ay.nil{K:W.Frag}:ay K ρ H [] []:=by unfold ay;rfl
theorem ay.cons{K:W.Frag}{d:V3}{ds:List V3}{x:V}{xs:List V}(h:aO K ρ H d x)(t:ay K ρ H ds xs):ay K ρ H (d ::ds) (x ::xs):=by
 unfold ay;exact⟨x,xs,rfl,h,t⟩
theorem ay.cq{K:W.Frag}{d:V3}{ds:List V3}{xs:List V}(h:ay K ρ H (d ::ds) xs):∃x r,xs=x ::r/\aO K ρ H d x/\ay K ρ H ds r:=by
 unfold ay at h;exact h
theorem ay.length{K:W.Frag}:∀{ds:List V3} {xs:List V},ay K ρ H ds xs->ds.length=xs.length
 | [],_,h=>by unfold ay at h;rw [h];rfl
 | d ::ds,xs,h=>by
   obtain⟨x,r,rfl,_,h2⟩:=h.cq;simp [h2.length]
theorem ay.of{K:W.Frag}{ρ:P3}:∀{ds:List D} {xs:List V},az K ρ.b H ds xs->ay K ρ H (ds.map .d) xs
 | [],_,h=>by unfold az at h;subst h;exact ay.nil
 | d ::ds,xs,h=>by
   obtain⟨x,r,rfl,h1,h2⟩:=h.cq;exact ay.cons (by unfold aO;exact h1) (ay.of h2)
theorem ay.to{K:W.Frag}{ρ:P3}:∀{ds:List D} {xs:List V},ay K ρ H (ds.map .d) xs->az K ρ.b H ds xs
 | [],_,h=>by unfold ay at h;subst h;exact az.nil
 | d ::ds,xs,h=>by
   obtain⟨x,r,rfl,h1,h2⟩:=ay.cq h;unfold aO at h1;exact az.cons h1 (ay.to h2)
def isExc(C b:Addr):Heap->Prop:=fun h=>∃o,h.get? b=some o/\o.cls= .ref C
def Bf(K:W.Frag)(cl:Ye)(ρ:P3)(H:Hp):SO->Option HO->Prop
 | .lst ds,h=>∃xs,h=some (.lst xs)/\az K ρ.b H ds xs
 | .dct aA,h=>∃ys,h=some (.dK ys)/\ys.map (·.1)=aA.map (·.1)/\az K ρ.b H (aA.map (·.2)) (ys.map (·.2))
 | .ins c fs,h=>∃dx ys,h=some (.ins (cl c) dx ys)/\ys.map (·.1)=fs.map (·.1)/\ay K ρ H (fs.map (·.2)) (ys.map (·.2))
 | .pO,h=>∃u,h=some u
 | .exc c,h=>∃b,h=some (.ext (isExc (cl c) b))
theorem Bf.pre{K:W.Frag}{cl:Ye}(p:Pre ρ H bg H'){o:SO}{h:Option HO}(r:Bf K cl ρ H o h):Bf K cl bg H' o h:=by
 cases o with
 | lst ds=>obtain⟨xs,e,q⟩:=r;exact⟨xs,e,q.bp p.bp⟩
 | dct aA=>obtain⟨ys,e,e2,q⟩:=r;exact⟨ys,e,e2,q.bp p.bp⟩
 | ins c fs=>obtain⟨dx,ys,e,e2,q⟩:=r;exact⟨dx,ys,e,e2,q.pre p⟩
 | pO=>exact r
 | exc c=>exact r
theorem Bf.pw{K:W.Frag}{cl:Ye}(p:PW ρ H bg H'){o:SO}{h:Option HO}(r:Bf K cl ρ H o h):Bf K cl bg H' o h:=by
 cases o with
 | lst ds=>obtain⟨xs,e,q⟩:=r;exact⟨xs,e,q.bp p.bp⟩
 | dct aA=>obtain⟨ys,e,e2,q⟩:=r;exact⟨ys,e,e2,q.bp p.bp⟩
 | ins c fs=>obtain⟨dx,ys,e,e2,q⟩:=r;exact⟨dx,ys,e,e2,q.pw p⟩
 | pO=>exact r
 | exc c=>exact r
theorem Bf.some{K:W.Frag}{cl:Ye}{o:SO}{h:Option HO}(r:Bf K cl ρ H o h):∃u,h=some u:=by
 cases o with
 | lst ds=>obtain⟨xs,e,q⟩:=r;exact⟨_,e⟩
 | dct aA=>obtain⟨ys,e,e2,q⟩:=r;exact⟨_,e⟩
 | ins c fs=>obtain⟨dx,ys,e,e2,q⟩:=r;exact⟨_,e⟩
 | pO=>exact r
 | exc c=>obtain⟨b,e⟩:=r;exact⟨_,e⟩
structure SW (K:W.Frag) (cl:Ye) (ρ:P3) (H:Hp) (S:aG):Prop where
 len:ρ.r.length=S.length
 nd:∀(i j:Nat) (a:Addr),ρ.r[i]? =some a->ρ.r[j]? =some a->i=j
 ob:∀(k:Nat) (a:Addr) (o:SO),ρ.r[k]? =some a->S[k]? =some o->Bf K cl ρ H o (H a)
 zb:∀b∈ρ.z,(∃xs,H b=some (.lst xs))/\b ∉ ρ.r
 fz:∀(k:Nat) (a:Addr),ρ.r[k]? =some a->S[k]?≠some .pO->a ∉ ρ.f
 ff:∀a∈ρ.f,∃o,H a=some o
 fi:∀(k:Nat) (a:Addr),ρ.r[k]? =some a->S[k]? =some .pO->a∈ρ.f
theorem SW.rs{K:W.Frag}{cl:Ye}{ρ:P3}{H:Hp}{S:aG}(w:SW K cl ρ H S):∀a∈ρ.r,∃o,H a=some o:=fun a z=>by
 obtain⟨k,hk⟩:=List.getElem?_of_mem z;have hl:=(List.getElem?_eq_some_iff.mp hk).1;exact(w.ob k a _ hk (List.getElem?_eq_getElem (by rw[<-w.len];exact hl))).some
theorem SW.bs{K:W.Frag}{cl:Ye}{ρ:P3}{H:Hp}{S:aG}(w:SW K cl ρ H S):∀a∈ρ.b,∃o,H a=some o:=fun a ha=>by
 rcases P3.eA.mp ha with z | z
 .exact w.rs a z.1
 .obtain⟨xs,h⟩:=(w.zb a z).1;exact⟨_,h⟩
theorem SW.same{K:W.Frag}{cl:Ye}{S:aG}(w:SW K cl ρ H S)(s:aH H H'):SW K cl ρ H' S:=
 ⟨w.len,w.nd,fun k a o h1 h2=>by
   have r:=w.ob k a o h1 h2;obtain⟨u,hu⟩:=r.some;rw[s a u hu,<-hu];exact r.pre (Pre.same s),fun b hb=>let⟨⟨o,ho⟩,n⟩:=w.zb b hb;⟨⟨o,s b _ ho⟩,n⟩,w.fz,fun a ha=>let⟨o,ho⟩:=w.ff a ha;⟨o,s a o ho⟩,w.fi⟩
theorem P3.mem_push{ρ:P3}{a b:Addr}(h:b∈(ρ.push a).b):b∈ρ.b\/b=a:=by
 rcases P3.eA.mp h with⟨z,n⟩ | z
 .rcases List.mem_append.mp z with y | y
  .exact .inl (P3.eA.mpr (.inl ⟨y,n⟩))
  .exact .inr (List.mem_singleton.mp y)
 .exact .inl (P3.eA.mpr (.inr z))
theorem SW.new{K:W.Frag}{cl:Ye}{ρ:P3}{H H':Hp}{S:aG}(w:SW K cl ρ H S){a:Addr}{o:SO}(s:aH H H')(n:H a=none)(r:Bf K cl (ρ.push a) H' o (H' a))(sW:o≠SO.pO:=by intro h;cases h) :
 SW K cl (ρ.push a) H' (S++[o])/\Pre ρ H (ρ.push a) H':=by
 have na:a ∉ ρ.b:=fun ha=>by obtain⟨o,ho⟩:=w.bs a ha;rw [n] at ho;cases ho
 have nr:a ∉ ρ.r:=fun ha=>by obtain⟨o,ho⟩:=w.rs a ha;rw [n] at ho;cases ho
 have nf:a ∉ ρ.f:=fun ha=>by obtain⟨o,ho⟩:=w.ff a ha;rw [n] at ho;cases ho
 have p:Pre ρ H (ρ.push a) H':=⟨fun b u e nb=>⟨s b u e,fun hb=>by
  rcases P3.mem_push hb with z | z
  .exact nb z
  .subst z;rw [n] at e;cases e⟩,rfl,fun b o _ h=>s b o h,fun k x hx=>by
   show(ρ.r++[a])[k]? =_;rw[List.getElem?_append_left (List.getElem?_eq_some_iff.mp hx).1];exact hx⟩
 have last:∀(i:Nat) (b:Addr),(ρ.push a).r[i]? =some b->(i < ρ.r.length/\ρ.r[i]? =some b)\/(i=ρ.r.length/\b=a):=fun i b h=>by
  have h:(ρ.r++[a])[i]? =some b:=h;by_cases q:i < ρ.r.length
  .rw [List.getElem?_append_left q] at h;exact .inl ⟨q,h⟩
  .rw [List.getElem?_append_right (by omega)] at h
   have h0:i - ρ.r.length=0:=by
    have:=(List.getElem?_eq_some_iff.mp h).1;simp at this;omega
   rw[h0] at h;cases h;exact .inr ⟨by omega,rfl⟩
 refine⟨⟨by show(ρ.r++[a]).length=_;rw [List.length_append,List.length_append,w.len];rfl,fun i j b hi hj=>?_,fun k b u hk hu=>?_,fun b hb=>?_,fun k b hk hu=>?_,fun b hb=>?_,fun k b hk hu=>?_⟩,p⟩
 .rcases last i b hi with⟨q1,q2⟩ | ⟨q1,rfl⟩
  .rcases last j b hj with⟨z1,z2⟩ | ⟨z1,rfl⟩
   .exact w.nd i j b q2 z2
   .exact absurd (List.mem_of_getElem? q2) nr
  .rcases last j b hj with⟨z1,z2⟩ | ⟨z1,z3⟩
   .exact absurd (List.mem_of_getElem? z2) nr
   .omega
 .rcases last k b hk with⟨q1,q2⟩ | ⟨q1,rfl⟩
  .rw [List.getElem?_append_left (by rw[<-w.len];exact q1)] at hu
   have r0:=w.ob k b u q2 hu;obtain⟨x,hx⟩:=r0.some;rw[s b x hx,<-hx];exact r0.pre p
  .rw [List.getElem?_append_right (by rw[<-w.len];omega),q1,w.len,Nat.sub_self] at hu
   cases hu;exact r
 .obtain⟨⟨o,ho⟩,nb⟩:=w.zb b hb;refine⟨⟨o,s b _ ho⟩,fun h=>?_⟩
  rcases List.mem_append.mp h with y | y
  .exact nb y
  .rw [List.mem_singleton] at y;subst y;rw [n] at ho;cases ho
 .rcases last k b hk with⟨q1,q2⟩ | ⟨q1,rfl⟩
  .rw [List.getElem?_append_left (by rw[<-w.len];exact q1)] at hu
   exact w.fz k b q2 hu
  .exact nf
 .obtain⟨o,ho⟩:=w.ff b hb;exact⟨o,s b o ho⟩
 .rcases last k b hk with⟨q1,q2⟩ | ⟨q1,rfl⟩
  .rw [List.getElem?_append_left (by rw[<-w.len];exact q1)] at hu
   exact w.fi k b q2 hu
  .rw [List.getElem?_append_right (by rw[<-w.len];omega),q1,w.len,Nat.sub_self] at hu
   cases hu;exact absurd rfl sW
theorem SW.put{K:W.Frag}{cl:Ye}{ρ:P3}{S:aG}(w:SW K cl ρ H S){k:Nat}{a:Addr}{o:SO}{u:HO}(hk:ρ.r[k]? =some a)(hf:a ∉ ρ.f)(r:Bf K cl ρ H o (some u))(sW:o≠SO.pO:=by intro h;cases h) :
 SW K cl ρ (upd H a u) (S.set k o)/\Pre ρ H ρ (upd H a u):=by
 have ha:a∈ρ.r:=List.mem_of_getElem? hk;have hb:a∈ρ.b:=P3.eA.mpr (.inl ⟨ha,hf⟩);have nz:∀b∈ρ.z,b≠a:=fun b hb z=>(w.zb b hb).2 (by rw[z];exact ha)
 have p:Pre ρ H ρ (upd H a u):=⟨fun b x e nb=>⟨by rw[aW (fun(z:b=a)=>nb (by rw[z];exact hb))];exact e,nb⟩,rfl,fun b o hb h=>by rw[aW (nz b hb)];exact h,fun _ _ h=>h⟩
 have hl:k < S.length:=by rw[<-w.len];exact(List.getElem?_eq_some_iff.mp hk).1
 refine⟨⟨by rw[List.length_set];exact w.len,w.nd,fun j b x hj hx=>?_,fun b hb=>?_,fun j b hj hx=>?_,fun b hb=>?_,fun j b hj hx=>?_⟩,p⟩
 .by_cases q:k=j
  .subst q;rw[hk] at hj;cases hj;rw[List.getElem?_set_self hl] at hx;cases hx;rw[a_];exact r.pre p
  .rw [List.getElem?_set_ne q] at hx;have ne:b≠a:=fun z=>by subst z;exact q (w.nd k j b hk hj)
   rw[aW ne];exact(w.ob j b x hj hx).pre p
 .obtain⟨⟨o,ho⟩,nb⟩:=w.zb b hb;exact⟨⟨o,by rw[aW (nz b hb)];exact ho⟩,nb⟩
 .by_cases q:k=j
  .subst q;rw[hk] at hj;cases hj;exact hf
  .rw [List.getElem?_set_ne q] at hx;exact w.fz j b hj hx
 .obtain⟨o,ho⟩:=w.ff b hb;exact⟨o,by rw[aW (fun z=>hf (by rw[<-z];exact hb))];exact ho⟩
 .by_cases q:k=j
  .subst q;rw[List.getElem?_set_self hl] at hx;cases hx;exact absurd rfl sW
  .rw [List.getElem?_set_ne q] at hx;exact w.fi j b hj hx
mutual
def xA:D->Bool
 | .lst _=>false
 | .dct _ _=>false
 | .tup ds=>wI ds
 | _=>true
def wI:List D->Bool
 | []=>true
 | d ::ds=>xA d && wI ds
end
mutual
theorem Rep.zG{K:W.Frag}{B:List Addr}(hB:∀b∈B,∀xs,¬Rd H b (.tup xs)):∀{d:D} {v:V},xA d=true->Rep K [] H d v->Rep K B H d v
 | .cu,v,_,r=>Rep.cu.mpr (Rep.cu.mp r)
 | .bl _,v,_,r=>Rep.bl.mpr (Rep.bl.mp r)
 | .int _,v,_,r=>Rep.int.mpr (Rep.int.mp r)
 | .str _,v,_,r=>Rep.str.mpr (Rep.str.mp r)
 | .lst _,v,h,_=>by unfold xA at h;cases h
 | .dct _ _,v,h,_=>by unfold xA at h;cases h
 | .tup ds,v,h,r=>by
   unfold xA at h;obtain⟨a,xs,rfl,l,rs⟩:=Rep.tup.mp r;exact Rep.tup.mpr ⟨a,xs,rfl,l.elim (fun z=> .inl ⟨fun hb=>hB a hb xs z.2,z.2⟩) .inr,az.zG hB h rs⟩
theorem az.zG{K:W.Frag}{B:List Addr}(hB:∀b∈B,∀xs,¬Rd H b (.tup xs)):∀{ds:List D} {vs:List V},wI ds=true->az K [] H ds vs->az K B H ds vs
 | [],_,_,r=>by unfold az at r;subst r;exact az.nil
 | d ::ds,vs,h,r=>by
   unfold wI at h;obtain⟨h1,h2⟩:=Bool.and_eq_true_iff.mp h;obtain⟨x,xs,rfl,r1,r2⟩:=r.cq;exact az.cons (Rep.zG hB h1 r1) (az.zG hB h2 r2)
end
abbrev DE:=List (Option V3)
structure el (K:W.Frag) (cl:Ye) (ρ:P3) (H:Hp) (S:aG) (σ:L2.St) (δ:DE):Prop where
 len:δ.length=σ.length
 sw:SW K cl ρ H S
 val:∀(i:Nat) (d:V3),δ[i]? =some (some d)->∃v,σ[i]? =some (some v)/\aO K ρ H d v
theorem el.to{K:W.Frag}{cl:Ye}{S S':aG}{σ:L2.St}{δ:DE}(E:el K cl ρ H S σ δ)(p:Pre ρ H bg H')(w:SW K cl bg H' S'):el K cl bg H' S' σ δ:=
 ⟨E.len,w,fun i d e=>let⟨v,h1,h2⟩:=E.val i d e;⟨v,h1,h2.pre p⟩⟩
theorem el.set{K:W.Frag}{cl:Ye}{S:aG}{σ:L2.St}{δ:DE}(E:el K cl ρ H S σ δ){i:Nat}{d:V3}{v:V}(hi:i < σ.length)(r:aO K ρ H d v):el K cl ρ H S (σ.set i (some v)) (δ.set i (some d)):=
 ⟨by rw[List.length_set,List.length_set];exact E.len,E.sw,fun j d' e=>by
   by_cases h:i=j
   .subst h;rw[List.getElem?_set_self (by rw[E.len];exact hi)] at e
    cases e;exact⟨v,List.getElem?_set_self hi,r⟩
   .rw [List.getElem?_set_ne h] at e ⊢;exact E.val j d' e⟩
def down(δ:DE):aq:=δ.map fun x=>match x with | some (.d d)=> .val d | _=> .un
theorem el.down{K:W.Frag}{cl:Ye}{ρ:P3}{S:aG}{σ:L2.St}{δ:DE}(E:el K cl ρ H S σ δ):i9 K [] ρ.b H σ (down δ) where
 len:=by unfold L3.down;rw [List.length_map];exact E.len
 bs:=E.sw.bs
 zb:=fun a ha=>by cases ha
 val:=fun i d e=>by
  unfold L3.down at e;rw[List.getElem?_map] at e;cases q:δ[i]? with
  | none=>rw [q] at e;cases e
  | some x=>
    rw[q] at e
    match x,e,q with
    | some (.d y),e,q=>
      cases e;obtain⟨v,h1,h2⟩:=E.val i _ q;unfold aO at h2;exact⟨v,h1,h2⟩
    | some (.loc k),e,q=>cases e
    | some (.lst k),e,q=>cases e
    | some (.tup k),e,q=>cases e
    | none,e,q=>cases e
 bld:=fun i ds e=>by
  unfold L3.down at e;rw[List.getElem?_map] at e;cases q:δ[i]? with
  | none=>rw [q] at e;cases e
  | some x=>
    rw[q] at e
    match x,e with
    | some (.d y),e=>cases e
    | some (.loc k),e=>cases e
    | some (.lst k),e=>cases e
    | some (.tup k),e=>cases e
    | none,e=>cases e
 dis:=fun i j a ds es e=>by
  unfold L3.down at e;rw[List.getElem?_map] at e;cases q:δ[i]? with
  | none=>rw [q] at e;cases e
  | some x=>
    rw[q] at e
    match x,e with
    | some (.d y),e=>cases e
    | some (.loc k),e=>cases e
    | some (.lst k),e=>cases e
    | some (.tup k),e=>cases e
    | none,e=>cases e
mutual
def res(S:aG):V3->Option D
 | .d x=>some x
 | .loc k=>(match S[k]? with | some (.lst ds)=>some (.lst ds) | some (.dct aA)=>some (.dct (aA.map (·.1)) (aA.map (·.2))) | _=>none)
 | .lst vs=>(vO S vs).map D.lst
 | .tup vs=>(vO S vs).map D.tup
 | .fn _=>none
def vO(S:aG):List V3->Option (List D)
 | []=>some []
 | v ::vs=>(res S v).bind fun d=>(vO S vs).map (d ::·)
end
def Bz(S:aG)(δ:DE):aq:=δ.map fun x=>match x with | some v=>(match res S v with | some d=> .val d | none=> .un) | none=> .un
theorem qc{α β:Type}{o:Option α}{f:α->β}{b:β}(h:o.map f=some b):∃a,o=some a/\f a=b:=by
 cases o with
 | none=>cases h
 | some a=>cases h;exact⟨a,rfl,rfl⟩
theorem yo{α β:Type}{o:Option α}{f:α->Option β}{b:β}(h:o.bind f=some b):∃a,o=some a/\f a=some b:=by
 cases o with
 | none=>cases h
 | some a=>exact⟨a,rfl,h⟩
mutual
def mM(n:Nat):V3->Bool
 | .d _=>true
 | .loc k=>decide (n<=k)
 | .lst vs=>pG n vs
 | .tup vs=>pG n vs
 | .fn _=>true
def pG(n:Nat):List V3->Bool
 | []=>true
 | v ::vs=>mM n v && pG n vs
end
mutual
theorem aO.resB{K:W.Frag}{cl:Ye}{ρ:P3}{S:aG}{B':List Addr}{n:Nat}(w:SW K cl ρ H S)(p:eh ρ.b H B' H)(hn:∀(k:Nat) (a:Addr),n<=k->ρ.r[k]? =some a->a ∉ B'):∀{v:V3} {d:D} {x:V},mM n v=true->res S v=some d->aO K ρ H v x->Rep K B' H d x
 | .d y,d,x,_,h,r=>by unfold L3.res at h;cases h;unfold aO at r;exact r.bp p
 | .fn y,d,x,_,h,r=>by unfold L3.res at h;cases h
 | .loc k,d,x,g,h,r=>by
   unfold L3.res at h;unfold aO at r;unfold mM at g;obtain⟨a,h1,rfl⟩:=r;split at h
   .rename_i ds e;cases h;obtain⟨xs,e2,q⟩:=w.ob k a _ h1 e;unfold Rep;exact⟨a,xs,rfl, .inl ⟨hn k a (of_decide_eq_true g) h1, .inl e2⟩,q.bp p⟩
   .rename_i aA e;cases h;obtain⟨ys,e2,e3,q⟩:=w.ob k a _ h1 e;unfold Rep;exact⟨a,ys,rfl,⟨hn k a (of_decide_eq_true g) h1,e2⟩,e3,q.bp p⟩
   .cases h
 | .lst vs,d,x,g,h,r=>by
   unfold L3.res at h;unfold mM at g;obtain⟨ds,e,rfl⟩:=qc h;unfold aO at r;obtain⟨a,xs,rfl,l,r⟩:=r;unfold Rep;exact⟨a,xs,rfl,l.bp p,ay.resB w p hn g e r⟩
 | .tup vs,d,x,g,h,r=>by
   unfold L3.res at h;unfold mM at g;obtain⟨ds,e,rfl⟩:=qc h;unfold aO at r;obtain⟨a,xs,rfl,l,r⟩:=r;unfold Rep;exact⟨a,xs,rfl,zh.bp p l,ay.resB w p hn g e r⟩
theorem ay.resB{K:W.Frag}{cl:Ye}{ρ:P3}{S:aG}{B':List Addr}{n:Nat}(w:SW K cl ρ H S)(p:eh ρ.b H B' H)(hn:∀(k:Nat) (a:Addr),n<=k->ρ.r[k]? =some a->a ∉ B'):∀{vs:List V3} {ds:List D} {xs:List V},pG n vs=true->vO S vs=some ds->ay K ρ H vs xs->az K B' H ds xs
 | [],ds,xs,_,h,r=>by unfold vO at h;cases h;unfold ay at r;subst r;exact az.nil
 | v ::vs,ds,xs,g,h,r=>by
   unfold vO at h;unfold pG at g;obtain⟨g1,g2⟩:=Bool.and_eq_true_iff.mp g;obtain⟨d,e1,h2⟩:=yo h;obtain⟨es,e2,rfl⟩:=qc h2;obtain⟨y,ys,rfl,r1,r2⟩:=r.cq;exact az.cons (aO.resB w p hn g1 e1 r1) (ay.resB w p hn g2 e2 r2)
end
mutual
theorem As:∀v:V3,mM 0 v=true
 | .d _=>by unfold mM;rfl
 | .loc k=>by unfold mM;exact decide_eq_true (Nat.zero_le _)
 | .lst vs=>by unfold mM;exact ox vs
 | .tup vs=>by unfold mM;exact ox vs
 | .fn _=>by unfold mM;rfl
theorem ox:∀vs:List V3,pG 0 vs=true
 | []=>by unfold pG;rfl
 | v ::vs=>by unfold pG;rw [As v,ox vs];rfl
end
abbrev FX:=DE->aG->R3 V3
abbrev FB:=DE->aG->R3 Bool
abbrev FA:=DE->aG->R3 (List V3)
def tX(K:W.Frag)(cl:Ye)(f:FX):TE:=fun σ H Q=>∃ρ S δ v S',el K cl ρ H S σ δ/\f δ S= .ok v S'/\∀u bg H',Pre ρ H bg H'->SW K cl bg H' S'->aO K bg H' v u->Q u H'
def Kv(K:W.Frag)(cl:Ye)(f:FB):TT:=fun σ H Q=>∃ρ S δ b S',el K cl ρ H S σ δ/\f δ S= .ok b S'/\∀bg H',Pre ρ H bg H'->SW K cl bg H' S'->Q b H'
def RV(K:W.Frag)(cl:Ye)(f:FA):TA:=fun σ H Q=>∃ρ S δ vs S',el K cl ρ H S σ δ/\f δ S= .ok vs S'/\∀us bg H',Pre ρ H bg H'->SW K cl bg H' S'->ay K bg H' vs us->Q us H'
structure PX (X:Cx) (cl:Ye) (e:Expr) (f:FX):Prop where
 go:PE X e (tX X.K cl f)
structure A7 (X:Cx) (cl:Ye) (e:Expr) (f:FB):Prop where
 go:PT X e (Kv X.K cl f)
structure E7 (X:Cx) (cl:Ye) (es:List Expr) (f:FA):Prop where
 go:PA X es (RV X.K cl f)
section
variable {X:Cx} {cl:Ye}
def xP(f:FD):FX:=fun δ S=>(R3.of (f (down δ)) S).bind fun d S=> .ok (.d d) S
theorem av(h:QD X e f):PX X cl e (xP f):=⟨h.1.imp fun σ H Q ⟨ρ,S,δ,v,S',E,hf,q⟩=>by
 obtain⟨d,S1,h1,h2⟩:=R3.af hf;obtain⟨h3,e3⟩:=R3.of_ok h1;cases h2;subst e3;exact⟨[],ρ.b,down δ,d,E.down,h3,fun v H' s r=>q v ρ H' (Pre.same s) (E.sw.same s) (by unfold aO;exact r)⟩⟩
def xT(f:FD):FX:=fun δ S=>(R3.of (f (Bz S δ)) S).bind fun d S=>R3.aI (xA d) (.ok (.d d) S)
def bP(f:aq->R Bool):FB:=fun δ S=>R3.of (f (down δ)) S
theorem lE{f:aq->R Bool}(h:QB X e f):A7 X cl e (bP f):=⟨h.1.imp fun σ H Q ⟨ρ,S,δ,v,S',E,hf,q⟩=>by
 obtain⟨h1,e3⟩:=R3.of_ok hf;subst e3;exact⟨[],ρ.b,down δ,v,E.down,h1,fun H' s=>q ρ H' (Pre.same s) (E.sw.same s)⟩⟩
def bT(f:aq->R Bool):FB:=fun δ S=>R3.of (f (Bz S δ)) S
def bE(i:Nat):FX:=fun δ S=>match δ[i]? with | some (some v)=> .ok v S | _=> .no
theorem aL(i:Nat){x:Str}{pos:Pos}(hN:X.N[i]? =some x:=by rfl)(hv:Lu X.env.scope x:=by first | exact Or.inl rfl | exact Or.inr (Or.inl rfl) | exact Or.inr (Or.inr rfl))(hd:(x==("__debug__":Str))=false:=by decide)
 (xf:(x==("__classdict__":Str))=false:=by decide):PX X cl (.Name x pos) (bE i):=⟨(Dl hN hv hd xf).imp fun σ H Q ⟨ρ,S,δ,v,S',E,hf,q⟩=>by
 unfold bE at hf;split at hf
 .rename_i d' e;cases hf;obtain⟨u,h1,h2⟩:=E.val i _ e;exact⟨u,h1,q u ρ H (Pre.refl ρ H) E.sw h2⟩
 .cases hf⟩
def Co(f:aq->R (List D)):FX:=fun δ S=>(R3.of (f (down δ)) S).bind fun ds S=> .ok (.loc S.length) (S++[.lst ds])
theorem yx{f:aq->R (List D)}(h:QN X e f):PX X cl e (Co f):=⟨h.1.imp fun σ H Q ⟨ρ,S,δ,v,S',E,hf,q⟩=>by
 obtain⟨ds,S1,h1,h2⟩:=R3.af hf;obtain⟨h3,e3⟩:=R3.of_ok h1;cases h2;subst e3;refine⟨[],ρ.b,down δ,ds,E.down,h3,fun a xs H' s n e r=>?_⟩
 have r':az X.K (ρ.push a).b H' ds xs:=r.bp fun b o e nb=>⟨e,fun hb=>nb (by
  rcases P3.mem_push hb with z | z
  .exact List.mem_cons_of_mem _ z
  .subst z;exact List.mem_cons_self)⟩
 obtain⟨w,p⟩:=E.sw.new (o:= .lst ds) s n ⟨xs,e,r'⟩;exact q _ _ H' p w (by unfold aO;exact⟨a,by show(ρ.r++[a])[_]? =_;rw [<-E.sw.len,List.getElem?_append_right (by omega),Nat.sub_self];rfl,rfl⟩)⟩
end
end L3
end
section
namespace L3
open PySem PySem.Spec PyProof.Rows L2
section
variable {X:Cx} {cl:Ye}
def dh:FA:=fun _ S=> .ok [] S
def aR(f:FX)(g:FA):FA:=fun δ S=>(f δ S).bind fun v S1=>(g δ S1).bind fun vs S2=> .ok (v ::vs) S2
theorem br:E7 X cl [] dh:=⟨lW.imp fun σ H Q ⟨ρ,S,δ,v,S',E,hf,q⟩=>by
 cases hf;exact q [] ρ H (Pre.refl ρ H) E.sw ay.nil⟩
theorem aB(h:PX X cl e f)(t:E7 X cl es g)(hs:starEach (e ::es) X.env=(false,eval e X.env) ::starEach es X.env:=by rfl):E7 X cl (e ::es) (aR f g):=
 ⟨(fZ h.1 t.1 hs).imp fun σ H Q ⟨ρ,S,δ,v,S',E,hf,q⟩=>by
   obtain⟨v1,S1,h1,h2⟩:=R3.af hf;obtain⟨vs,S2,h3,h4⟩:=R3.af h2;cases h4;exact⟨ρ,S,δ,v1,S1,E,h1,fun u bA H1 p1 w1 r1=>⟨bA,S1,δ,vs,_,E.to p1 w1,h3,fun us o9 H2 p2 w2 r2=>q _ o9 H2 (p1.trans p2) w2 (ay.cons (r1.pre p2) r2)⟩⟩⟩
def qf:List V3->Option (List D)
 | []=>some []
 | .d x ::r=>(qf r).map (x ::·)
 | _ ::_=>none
theorem nP:∀{vs:List V3} {ds:List D},qf vs=some ds->vs=ds.map .d
 | [],ds,h=>by cases h;rfl
 | .d x ::r,ds,h=>by
   cases e:qf r with
   | none=>have h:(qf r).map (x ::·)=some ds:=h;rw [e] at h;cases h
   | some es=>
     have h:(qf r).map (x ::·)=some ds:=h
     rw[e] at h;cases h;rw[nP e];rfl
 | .loc _ ::_,_,h=>by cases h
 | .lst _ ::_,_,h=>by cases h
 | .tup _ ::_,_,h=>by cases h
 | .fn _ ::_,_,h=>by cases h
theorem sx:∀ds:List D,qf (ds.map .d)=some ds
 | []=>rfl
 | d ::ds=>by show(qf (ds.map .d)).map (d ::·)=_;rw [sx ds];rfl
def vD(vs:List V3):V3:=match qf vs with | some ds=> .d (.tup ds) | none=> .tup vs
def rC(vs:List V3):V3:=match qf vs with | some ds=> .d (.lst ds) | none=> .lst vs
def xp(g:FA):FX:=fun δ S=>(g δ S).bind fun vs S=>R3.aI (decide (vs.length<=sizeLine)) (.ok (vD vs) S)
theorem nK{H:Hp}{p:Addr}{o:HO}(hp:H p=none):Pre ρ H ρ (upd H p o):=Pre.same (bz hp)
theorem t9{K:W.Frag}{ρ:P3}{vs:List V3}{xs:List V}{a:Addr}(l:zh K ρ.b H a xs)(r:ay K ρ H vs xs):aO K ρ H (vD vs) (.ref a):=by
 unfold vD;split
 .rename_i ds e;rw[nP e] at r;unfold aO Rep;exact⟨a,xs,rfl,l,r.to⟩
 .unfold aO;exact⟨a,xs,rfl,l,r⟩
theorem uf{K:W.Frag}{ρ:P3}{vs:List V3}{xs:List V}{a:Addr}(l:wJ K ρ.b H a xs)(r:ay K ρ H vs xs):aO K ρ H (rC vs) (.ref a):=by
 unfold rC;split
 .rename_i ds e;rw[nP e] at r;unfold aO Rep;exact⟨a,xs,rfl,l,r.to⟩
 .unfold aO;exact⟨a,xs,rfl,l,r⟩
theorem II{x1 pos}(h:E7 X cl es g):PX X cl (.Tuple es x1 pos) (xp g):=⟨(xF h.1).imp fun σ H Q ⟨ρ,S,δ,v,S',E,hf,q⟩=>by
 obtain⟨vs,S1,h1,h2⟩:=R3.af hf;obtain⟨hl,h3⟩:=R3.aN h2;cases h3;refine⟨ρ,S,δ,vs,_,E,h1,fun us bA H1 p1 w1 r1=>⟨by rw[<-r1.length];exact of_decide_eq_true hl,fun p hp=>q _ bA _ (p1.trans (nK hp)) (w1.same (bz hp)) ?_⟩⟩
 refine t9 (.inl ⟨fun ha=>?_, .inl a_⟩) (r1.pre (nK hp))
 obtain⟨o,ho⟩:=w1.bs p ha;rw[hp] at ho;cases ho⟩
def yg(g:FA):FX:=fun δ S=>(g δ S).bind fun vs S=>R3.aI (decide (vs.length<=sizeLine)) (.ok (rC vs) S)
theorem uo{pos}(h:E7 X cl es g):PX X cl (.List es pos) (yg g):=⟨(BQ h.1).imp fun σ H Q ⟨ρ,S,δ,v,S',E,hf,q⟩=>by
 obtain⟨vs,S1,h1,h2⟩:=R3.af hf;obtain⟨hl,h3⟩:=R3.aN h2;cases h3;refine⟨ρ,S,δ,vs,_,E,h1,fun us bA H1 p1 w1 r1=>⟨by rw[<-r1.length];exact of_decide_eq_true hl,fun p hp=>q _ bA _ (p1.trans (nK hp)) (w1.same (bz hp)) ?_⟩⟩
 refine uf (.inl ⟨fun ha=>?_, .inl a_⟩) (r1.pre (nK hp))
 obtain⟨o,ho⟩:=w1.bs p ha;rw[hp] at ho;cases ho⟩
def x2(g:D->D->R D)(fa fb:FX):FX:=fun δ S=>(fa δ S).bind fun a S1=>(fb δ S1).bind fun b S2=>match a,b with
 | .d x, .d y=>(R3.of (g x y) S2).bind fun d S=> .ok (.d d) S
 | _,_=> .no
theorem My{K:W.Frag}{g:D->D->R D}{σ:L2.St}{Q:VK}(h:tX K cl (x2 g fa fb) σ H Q) :
 Km (fun x y H Q=>∃B da db d,(∀a∈B,∃o,H a=some o)/\Rep K B H da x/\Rep K B H db y/\g da db= .ok d/\∀z H',aH H H'->Rep K B H' d z->Q z H') (tX K cl fa) (tX K cl fb) σ H Q:=by
 obtain⟨ρ,S,δ,v,S',E,hf,q⟩:=h;obtain⟨a,S1,h1,h2⟩:=R3.af hf;obtain⟨b,S2,h3,h4⟩:=R3.af h2
 match a,b,h1,h3,h4 with
 | .d x, .d y,h1,h3,h4=>
   obtain⟨d,S3,h5,h6⟩:=R3.af h4;obtain⟨h7,e⟩:=R3.of_ok h5;cases h6;subst e;refine⟨ρ,S,δ, .d x,S1,E,h1,fun u1 bA H1 p1 w1 r1=>⟨bA,S1,δ, .d y,_,E.to p1 w1,h3,fun u2 o9 H2 p2 w2 r2=>?_⟩⟩
   have zX:=r1.pre p2;unfold aO at zX r2;exact⟨o9.b,x,y,d,w2.bs,zX,r2,h7,fun z H' s r=>q z o9 H' (p1.trans (p2.trans (Pre.same s))) (w2.same s) (by unfold aO;exact r)⟩
 | .d x, .loc _,_,_,h4=>cases h4
 | .d x, .lst _,_,_,h4=>cases h4
 | .d x, .tup _,_,_,h4=>cases h4
 | .d x, .fn _,_,_,h4=>cases h4
 | .loc _,_,_,_,h4=>cases h4
 | .lst _,_,_,_,h4=>cases h4
 | .tup _,_,_,_,h4=>cases h4
 | .fn _,_,_,_,h4=>cases h4
theorem B7{op:Operator}{g:D->D->R D}(ho:mC X (binaryOp op) g)(ha:PX X cl a fa)(hb:PX X cl b fb):PX X cl (.BinOp a op b pos) (x2 g fa fb):=
 ⟨(G6 ho.r ha.1 hb.1).imp fun σ H Q h=>My h⟩
def Jm(g:D->D->R D)(fa fb:FX):FB:=fun δ S=>(x2 g fa fb δ S).bind fun v S=>match v with | .d (.bl b)=> .ok b S | _=> .no
theorem o_{op:CmpOp}{g:D->D->R D}(ho:mC X (compareOp op) g)(ha:PX X cl a fa)(hb:PX X cl b fb)(hm:behindInMarks op b=false):A7 X cl (.Compare a [op] [b] pos) (Jm g fa fb):=
 ⟨(yI ho.r ha.1 hb.1 hm).imp fun σ H Q ⟨ρ,S,δ,b,S',E,hf,q⟩=>by
   obtain⟨v,S1,h1,h2⟩:=R3.af hf;have hv:v= .d (.bl b)/\S1=S':=by
    match v,h2 with
    | .d (.bl k),h2=>cases h2;exact⟨rfl,rfl⟩
    | .d .cu,h2=>cases h2
    | .d (.int _),h2=>cases h2
    | .d (.str _),h2=>cases h2
    | .d (.lst _),h2=>cases h2
    | .d (.tup _),h2=>cases h2
    | .d (.dct _ _),h2=>cases h2
    | .loc _,h2=>cases h2
    | .lst _,h2=>cases h2
    | .tup _,h2=>cases h2
    | .fn _,h2=>cases h2
   obtain⟨rfl,rfl⟩:=hv;exact My (g:=g) (Q:=fun x H'=>∃k,x= .bl k/\Q k H') ⟨ρ,S,δ,_,_,E,h1,fun u bg H' p w r=>⟨b,by unfold aO Rep at r;exact r,q bg H' p w⟩⟩⟩
inductive Ou where
 | nx (δ:DE) | rt (v:V3)
abbrev FZ:=DE->aG->R3 Ou
def uU(K:W.Frag)(cl:Ye)(ρ:P3)(H:Hp)(D:Ends)(S':aG):Ou->Prop
 | .nx i4=>∀cj bg H',Pre ρ H bg H'->el K cl bg H' S' cj i4->D.nx cj H'
 | .rt v=>∀u bg H',Pre ρ H bg H'->SW K cl bg H' S'->aO K bg H' v u->D.rt u H'
theorem uU.pre{K:W.Frag}{D:Ends}{S':aG}{o:Ou}(q:uU K cl ρ H D S' o)(p:Pre ρ H bA H1):uU K cl bA H1 D S' o:=by
 cases o with
 | nx i4=>exact fun cj bg H' p' E'=>q cj bg H' (p.trans p') E'
 | rt d=>exact fun v bg H' p' w r=>q v bg H' (p.trans p') w r
def sX(K:W.Frag)(cl:Ye)(F:FZ):TS:=fun D σ H=>∃ρ S δ o S',el K cl ρ H S σ δ/\F δ S= .ok o S'/\uU K cl ρ H D S' o
structure PZ (X:Cx) (cl:Ye) (st:Stmt) (F:FZ):Prop where
 go:PS X st (sX X.K cl F)
structure Dt (X:Cx) (cl:Ye) (st:List Stmt) (F:FZ):Prop where
 go:uZ X st (sX X.K cl F)
def mK:FZ:=fun δ S=> .ok (.nx δ) S
def cz(F G:FZ):FZ:=fun δ S=>(F δ S).bind fun o S1=>match o with | .nx i4=>G i4 S1 | .rt d=> .ok (.rt d) S1
theorem uu:Dt X cl [] mK:=⟨ur.imp fun D σ H ⟨ρ,S,δ,o,S',E,hf,q⟩=>by
 cases hf;exact q σ ρ H (Pre.refl ρ H) E⟩
theorem bo{st:Stmt}{rest:List Stmt}(h1:PZ X cl st F)(h2:Dt X cl rest G):Dt X cl (st ::rest) (cz F G):=⟨(rB h1.1 h2.1).imp fun D σ H ⟨ρ,S,δ,o,S',E,hf,q⟩=>by
 obtain⟨o1,S1,h1,h2⟩:=R3.af hf;refine⟨ρ,S,δ,o1,S1,E,h1,?_⟩;cases o1 with
 | nx δ1=>
   intro Qn bA H1 p1 E1;exact⟨bA,S1,δ1,o,S',E1,h2,q.pre p1⟩
 | rt d=>
   cases h2;exact q⟩
theorem cZ{st:Stmt}(h1:PZ X cl st F):Dt X cl [st] F:=⟨uE h1.1⟩
def me(i:Nat)(f:FX):FZ:=fun δ S=>(f δ S).bind fun v S=>R3.aI (decide (i < δ.length)) (.ok (.nx (δ.set i (some v))) S)
theorem dY{i:Nat}{pos pos':Pos}(hN:X.N.Nodup)(hi:X.N[i]? =some x)(hx:Loc X.env.scope x)(he:PX X cl e f)(hs:swapsWith e (some (.Name x pos')) pos.line X.env=pure false:=by rfl)(hf:X.fn x=true\/X.env.scope.names.lookup x=some .local:=by first | exact .inl rfl | exact .inr rfl | assumption) :
 PZ X cl (.Assign [.Name x pos'] e pos) (me i f):=⟨(Df hN hi hx he.1 hs hf).imp fun D σ H ⟨ρ,S,δ,o,S',E,hf,q⟩=>by
 obtain⟨v,S1,h1,h2⟩:=R3.af hf;obtain⟨hi,h3⟩:=R3.aN h2;cases h3;refine⟨ρ,S,δ,v,_,E,h1,fun u bA H1 p1 w1 r1=>?_⟩
 exact q _ bA H1 p1 ((E.to p1 w1).set (by rw[<-E.len];exact of_decide_eq_true hi) r1)⟩
def uH(f:FX):FZ:=fun δ S=>(f δ S).bind fun v S=> .ok (.rt v) S
theorem oI(he:PX X cl e f):PZ X cl (.Return (some e) pos) (uH f):=⟨(Cj he.1).imp fun D σ H ⟨ρ,S,δ,o,S',E,hf,q⟩=>by
 obtain⟨v,S1,h1,h2⟩:=R3.af hf;cases h2;exact⟨ρ,S,δ,v,_,E,h1,fun u bA H1 p1 w1 r1=>q u bA H1 p1 w1 r1⟩⟩
def tj(c:FB)(F G:FZ):FZ:=fun δ S=>(c δ S).bind fun b S=>if b then F δ S else G δ S
theorem zE(hc:A7 X cl c fc)(ha:Dt X cl a F)(hb:Dt X cl b G):PZ X cl (.If c a b pos) (tj fc F G):=⟨(Di hc.1 ha.1 hb.1).imp fun D σ H ⟨ρ,S,δ,o,S',E,hf,q⟩=>by
 obtain⟨k,S1,h1,h2⟩:=R3.af hf;refine⟨ρ,S,δ,k,S1,E,h1,fun bA H1 p1 w1=>?_⟩
 cases k with
 | true=>rw [if_pos rfl] at h2;exact BU ⟨bA,S1,δ,o,S',E.to p1 w1,h2,q.pre p1⟩
 | false=>rw [if_neg (by decide)] at h2;exact DJ ⟨bA,S1,δ,o,S',E.to p1 w1,h2,q.pre p1⟩⟩
def rY(f:FX):FZ:=fun δ S=>(f δ S).bind fun _ S=> .ok (.nx δ) S
def zN(c:FB)(body:FZ):Nat->FZ
 | 0,_,_=> .no
 | n+1,δ,S=>(c δ S).bind fun b S=>if b then(body δ S).bind fun o S=>match o with | .nx kQ=>zN c body n kQ S | .rt r=> .ok (.rt r) S else .ok (.nx δ) S
def Oy(n:Nat)(c:FB)(body:FZ):FZ:=fun δ S=>zN c body n δ S
end
end L3
end
section
namespace L3
open PySem PySem.Spec PyProof.Rows L2
theorem ay.get{K:W.Frag}:∀{ds:List V3} {xs:List V} {i:Nat} {d:V3},ay K ρ H ds xs->ds[i]? =some d->∃x,xs[i]? =some x/\aO K ρ H d x
 | [],_,_,_,_,e=>by simp at e
 | d ::ds,xs,0,d',h,e=>by
   obtain⟨x,r,rfl,h1,h2⟩:=h.cq;simp at e;subst e;exact⟨x,rfl,h1⟩
 | d ::ds,xs,i+1,d',h,e=>by
   obtain⟨x,r,rfl,h1,h2⟩:=h.cq;obtain⟨y,e1,e2⟩:=ay.get (i:=i) h2 (by simpa using e)
   exact⟨y,by simpa using e1,e2⟩
def MW(K:W.Frag)(ρ:P3)(H:Hp)(J:It)(vs:List V3):Prop:=∀bg H',PW ρ H bg H'->(∀a∈bg.b,∃o,H' a=some o)->(∀(i:Nat) (d:V3),vs[i]? =some d->J.go i H'/\∀x pX,J.yld i H' x pX->aH H' pX/\aO K bg pX d x)/\J.stop vs.length H'
theorem MW.of{K:W.Frag}{ρ:P3}{J:It}{ds:List D}(h:CB K ρ.b H J ds):MW K ρ H J (ds.map .d):=fun bg H' p bs=>by
 obtain⟨h1,h2⟩:=h bg.b H' p.bp;refine⟨fun i v hv=>?_,by rw[List.length_map];exact h2⟩
 rw[List.getElem?_map] at hv;cases e:ds[i]? with
 | none=>rw [e] at hv;cases hv
 | some d=>
   rw[e] at hv;cases hv;obtain⟨g1,g2⟩:=h1 i d e;exact⟨g1,fun x pX y=>let⟨s,r⟩:=g2 x pX y bs;⟨s,by unfold aO;exact r⟩⟩
def Rr(K:W.Frag)(cl:Ye)(f:FA):TI:=fun σ H R=>∃ρ S δ vs S',el K cl ρ H S σ δ/\f δ S= .ok vs S'/\∀J bA H1,Pre ρ H bA H1->SW K cl bA H1 S'->MW K bA H1 J vs->R J H1
structure Ng (X:Cx) (cl:Ye) (tg e:Expr) (f:FA):Prop where
 go:PI X tg e (Rr X.K cl f)
section
variable {X:Cx} {cl:Ye}
def iP(f:aq->R (List D)):FA:=fun δ S=>(R3.of (f (down δ)) S).bind fun ds S=> .ok (ds.map .d) S
theorem nv{f:aq->R (List D)}(h:Kr X tg e f):Ng X cl tg e (iP f):=⟨h.1.imp fun σ H Q ⟨ρ,S,δ,vs,S',E,hf,q⟩=>by
 obtain⟨ds,S1,h1,h2⟩:=R3.af hf;obtain⟨h3,e3⟩:=R3.of_ok h1;cases h2;subst e3;exact⟨[],ρ.b,down δ,ds,E.down,h3,fun J H1 s r=>q J ρ H1 (Pre.same s) (E.sw.same s) (MW.of r)⟩⟩
def GS(f:FX):FA:=fun δ S=>(f δ S).bind fun v S=>match v with | .d (.int j)=>R3.aI (decide (-(2 ^ 62)<=j/\j < 2 ^ 62)) (.ok ((qN 0 j.toNat).map .d) S) | _=> .no
def Tn(f:FX):FA:=fun δ S=>(f δ S).bind fun v S=>match v with | .d (.lst ds)=> .ok (ds.map .d) S | .lst vs=> .ok vs S | _=> .no
abbrev FG:=V3->DE->Option DE
abbrev Jw:=List V3->DE->Option DE
def gX(K:W.Frag)(cl:Ye)(t:FG):TG:=fun v σ H Q=>∃ρ S δ x i4,el K cl ρ H S σ δ/\aO K ρ H x v/\t x δ=some i4/\∀cj H',aH H H'->el K cl ρ H' S cj i4->Q cj H'
def UB(K:W.Frag)(cl:Ye)(t:Jw):GV:=fun v σ H Q=>∃ρ S δ x i4,el K cl ρ H S σ δ/\ay K ρ H x v/\t x δ=some i4/\∀cj H',aH H H'->el K cl ρ H' S cj i4->Q cj H'
structure Nc (X:Cx) (cl:Ye) (tg:Expr) (t:FG):Prop where
 go:PG X tg (gX X.K cl t)
structure Vd (X:Cx) (cl:Ye) (tg:List Expr) (t:Jw):Prop where
 go:RJ X tg (UB X.K cl t)
theorem el.same{K:W.Frag}{S:aG}{σ:L2.St}{δ:DE}(E:el K cl ρ H S σ δ)(s:aH H H'):el K cl ρ H' S σ δ:=E.to (Pre.same s) (E.sw.same s)
def GX(i:Nat):FG:=fun d δ=>if i < δ.length then some (δ.set i (some d)) else none
theorem nE{i:Nat}{pos:Pos}(hN:X.N.Nodup)(hi:X.N[i]? =some x)(hx:Loc X.env.scope x)(hf:X.fn x=true\/X.env.scope.names.lookup x=some .local:=by first | exact .inl rfl | exact .inr rfl | assumption):Nc X cl (.Name x pos) (GX i):=
 ⟨(zL hN hi hx hf).imp fun v σ H Q ⟨ρ,S,δ,d,i4,E,r,ht,q⟩=>by
   unfold GX at ht;split at ht
   .rename_i hi;cases ht;exact q _ H (aH.refl H) (E.set (by rw[<-E.len];exact hi) r)
   .cases ht⟩
def XB:Jw:=fun ds δ=>match ds with | []=>some δ | _=>none
def XS(t:FG)(u:Jw):Jw:=fun ds δ=>match ds with | d ::r=>(t d δ).bind fun i4=>u r i4 | []=>none
def W6(n:Nat)(t:Jw):FG:=fun d δ=>match d with
 | .d (.tup ds)=>if ds.length=n then t (ds.map .d) δ else none
 | .tup vs=>if vs.length=n then t vs δ else none
 | _=>none
def Uy(f:FX)(t:FG):FZ:=fun δ S=>(f δ S).bind fun d S=>match t d δ with | some i4=> .ok (.nx i4) S | none=> .no
def g4(t:FG)(body:FZ):List V3->FZ
 | [],δ,S=> .ok (.nx δ) S
 | d ::ds,δ,S=>match t d δ with
   | none=> .no
   | some δ1=>(body δ1 S).bind fun o S=>match o with | .nx kQ=>g4 t body ds kQ S | .rt r=> .ok (.rt r) S
def vL(it:FA)(t:FG)(body:FZ):FZ:=fun δ S=>(it δ S).bind fun vs S=>g4 t body vs δ S
theorem Ck{tg iter:Expr}{body:List Stmt}{it:FA}{t:FG}{F:FZ}{pos:Pos}(hp:PassesOwn (model X.prog X.w) X.A X.env X.xe)(hc:X.calm=true)(hi:Ng X cl tg iter it)(hg:Nc X cl tg t)(hb:Dt X cl body F)
 (hs:∀x,foldedSetIterable iter X.env x=pure x:=by intro _;rfl):PZ X cl (.For tg iter body [] pos) (vL it t F):=⟨(Bj hp hc hi.1 hg.1 hb.1 hs).imp fun D σ H ⟨ρ,S,δ,o,S',E,hf,q⟩=>by
 obtain⟨ds,S0,h1,h2⟩:=R3.af hf;refine⟨ρ,S,δ,ds,S0,E,h1,fun J bA H1 p1 w1 ir=>?_⟩
 refine⟨fun i m cj H'=>m=ds.length - i/\i<=ds.length/\∃bg S1 i4,Pre bA H1 bg H'/\el X.K cl bg H' S1 cj i4/\g4 t F (ds.drop i) i4 S1= .ok o S',⟨ds.length,rfl,Nat.zero_le _,bA,S0,δ,Pre.refl bA H1,E.to p1 w1,by simpa using h2⟩,?_⟩
 rintro i m cj H' ⟨rfl,hi,bg,S1,i4,pv,E',hl⟩;obtain⟨go,stop⟩:=ir bg H' pv.pw E'.sw.bs;by_cases n4:i < ds.length
 .have hd:ds[i]? =some ds[i]:=List.getElem?_eq_getElem n4;have hdrop:ds.drop i=ds[i] ::ds.drop (i+1):=List.drop_eq_getElem_cons n4;rw[hdrop] at hl;unfold g4 at hl;split at hl
  .cases hl
  .rename_i δ1 h3;obtain⟨o1,S2,h5,h6⟩:=R3.af hl;obtain⟨g1,g2⟩:=go i _ hd;refine .inr ⟨g1,fun yE H2=>∃o9 S2 kQ,Pre bA H1 o9 H2/\el X.K cl o9 H2 S2 yE kQ/\g4 t F (ds.drop (i+1)) kQ S2= .ok o S',fun yE H2 n=>⟨ds.length - (i+1),by omega,rfl,n4,n⟩,fun x pX y=>?_⟩
   obtain⟨ss,rr⟩:=g2 x pX y;refine⟨bg,S1,i4,ds[i],δ1,E'.same ss,rr,h3,fun yE H2 s2 E2=>⟨bg,S1,δ1,o1,S2,E2,h5,?_⟩⟩
   have pv2:Pre bA H1 bg H2:=pv.trans (Pre.same (ss.trans s2));cases o1 with
   | nx kQ=>exact fun GG A3 H3 p3 E3=>⟨A3,S2,kQ,pv2.trans p3,E3,h6⟩
   | rt d=>
     cases h6;exact fun v A3 H3 p3 w r=>q v A3 H3 (p1.trans (pv2.trans p3)) w r
 .have e:i=ds.length:=by omega
  subst e;rw[List.drop_length] at hl;cases hl;exact .inl ⟨stop,q cj bg H' (p1.trans pv) E'⟩⟩
end
end L3
end
section
namespace L3
open PySem PySem.Spec PyProof.Rows L2
mutual
def vS(n:Nat):V3->Bool
 | .d _=>true
 | .loc k=>decide (k < n)
 | .lst vs=>ql n vs
 | .tup vs=>ql n vs
 | .fn _=>true
def ql(n:Nat):List V3->Bool
 | []=>true
 | v ::vs=>vS n v && ql n vs
end
def we(n:Nat):SO->Bool
 | .ins _ fs=>ql n (fs.map (·.2))
 | _=>true
theorem Gn{ρ:P3}{n:Nat}{b:Addr}(h:b∈(ρ.cut n).b):b∈ρ.b:=by
 rcases P3.eA.mp h with z | z
 .exact P3.eA.mpr (.inl ⟨List.mem_of_mem_take z.1,z.2⟩)
 .exact P3.eA.mpr (.inr z)
theorem iV{ρ:P3}(n:Nat):eh ρ.b H (ρ.cut n).b H:=fun b o e nb=>⟨e,fun hb=>nb (Gn hb)⟩
mutual
theorem aO.cut{K:W.Frag}{ρ:P3}{n:Nat}:∀{v:V3} {x:V},vS n v=true->aO K ρ H v x->aO K (ρ.cut n) H v x
 | .fn y,x,_,h=>by unfold aO at h ⊢;exact h
 | .d y,x,_,h=>by unfold aO at h ⊢;exact h.bp (iV n)
 | .loc k,x,o,h=>by
   unfold aO at h ⊢;unfold vS at o;obtain⟨a,h1,h2⟩:=h;exact⟨a,by show(ρ.r.take n)[k]? =_;rw [List.getElem?_take_of_lt (of_decide_eq_true o)];exact h1,h2⟩
 | .lst vs,x,o,h=>by
   unfold aO at h ⊢;unfold vS at o;obtain⟨a,xs,e,l,r⟩:=h;exact⟨a,xs,e,l.bp (iV n),ay.cut o r⟩
 | .tup vs,x,o,h=>by
   unfold aO at h ⊢;unfold vS at o;obtain⟨a,xs,e,l,r⟩:=h;exact⟨a,xs,e,zh.bp (iV n) l,ay.cut o r⟩
theorem ay.cut{K:W.Frag}{ρ:P3}{n:Nat}:∀{vs:List V3} {xs:List V},ql n vs=true->ay K ρ H vs xs->ay K (ρ.cut n) H vs xs
 | [],_,_,h=>by unfold ay at h ⊢;exact h
 | v ::vs,xs,o,h=>by
   unfold ql at o;obtain⟨o1,o2⟩:=Bool.and_eq_true_iff.mp o;obtain⟨x,r,rfl,h1,h2⟩:=h.cq;exact ay.cons (aO.cut o1 h1) (ay.cut o2 h2)
end
theorem SW.cut{K:W.Frag}{cl:Ye}{ρ:P3}{S:aG}(w:SW K cl ρ H S){n:Nat}(ok:(S.take n).all (we n)=true):SW K cl (ρ.cut n) H (S.take n):=
 ⟨by show(ρ.r.take n).length=_;rw [List.length_take,List.length_take,w.len],fun i j a hi hj=>by
   have hi:(ρ.r.take n)[i]? =some a:=hi;have hj:(ρ.r.take n)[j]? =some a:=hj;have gi:ρ.r[i]? =some a:=by
    rw[List.getElem?_take] at hi;split at hi
    .exact hi
    .cases hi
   have gj:ρ.r[j]? =some a:=by
    rw[List.getElem?_take] at hj;split at hj
    .exact hj
    .cases hj
   exact w.nd i j a gi gj,fun k a o hk ho=>by
   have hk:(ρ.r.take n)[k]? =some a:=hk;have gk:ρ.r[k]? =some a:=by
    rw[List.getElem?_take] at hk;split at hk
    .exact hk
    .cases hk
   have go:S[k]? =some o:=by
    rw[List.getElem?_take] at ho;split at ho
    .exact ho
    .cases ho
   have r:=w.ob k a o gk go;have oo:we n o=true:=List.all_eq_true.mp ok o (List.mem_of_getElem? ho);cases o with
   | lst ds=>obtain⟨xs,e,q⟩:=r;exact⟨xs,e,q.bp (iV n)⟩
   | dct aA=>obtain⟨ys,e,e2,q⟩:=r;exact⟨ys,e,e2,q.bp (iV n)⟩
   | ins c fs=>obtain⟨dx,ys,e,e2,q⟩:=r;exact⟨dx,ys,e,e2,q.cut oo⟩
   | exc c=>exact r
   | pO=>exact r,fun b hb=>let⟨h1,h2⟩:=w.zb b hb;⟨h1,fun h=>h2 (List.mem_of_mem_take h)⟩,(fun k a hk ho=>by
   have hk:(ρ.r.take n)[k]? =some a:=hk;rw[List.getElem?_take] at hk;split at hk
   .rename_i n4;rw[List.getElem?_take_of_lt n4] at ho;exact w.fz k a hk ho
   .cases hk),w.ff,(fun k a hk ho=>by
   have hk:(ρ.r.take n)[k]? =some a:=hk;rw[List.getElem?_take] at hk;split at hk
   .rename_i n4;rw[List.getElem?_take_of_lt n4] at ho;exact w.fi k a hk ho
   .cases hk)⟩
theorem SW.DC{K:W.Frag}{cl:Ye}{ρ bg:P3}{n:Nat}(hn:ρ.r.length<=n)(p:Pre ρ H bg H'):Pre ρ H (bg.cut n) H':=
 ⟨p.bp.trans (iV n),p.zz,p.zs,fun k a h=>by show(bg.r.take n)[k]? =_;rw [List.getElem?_take_of_lt (Nat.lt_of_lt_of_le (List.getElem?_eq_some_iff.mp h).1 hn)];exact p.ext k a h⟩
section
variable {X:Cx} {cl:Ye}
def cY(S:aG)(k:Nat):Option (List D):=match S[k]? with | some (.lst ds)=>some ds | _=>none
theorem g9{S:aG}{k:Nat}{ds:List D}(h:cY S k=some ds):S[k]? =some (.lst ds):=by
 unfold cY at h;split at h
 .rename_i e;cases h;exact e
 .cases h
def pS(δ:DE)(i:Nat):Option Nat:=match δ[i]? with | some (some (.loc k))=>some k | _=>none
def U9(i:Nat)(f:FX):FZ:=fun δ S=>match pS δ i with
 | none=> .no
 | some k=>match cY S k with
   | none=> .no
   | some _=>(f δ S).bind fun v S1=>match v with
     | .d d=>(match cY S1 k with | some ds=>R3.aI (decide (ds.length < sizeLine)) (.ok (.nx δ) (S1.set k (.lst (ds++[d])))) | none=> .no)
     | _=> .no
def Vr(fo fi fe:FX):FZ:=fun δ S=>(fe δ S).bind fun v S1=>(fo δ S1).bind fun o S2=>(fi δ S2).bind fun j S3=>match v,o,j with
 | .d d, .loc k, .d (.int n)=>(match cY S3 k with
   | some ds=>(match DK ds.length n with | some m=> .ok (.nx δ) (S3.set k (.lst (ds.set m d))) | none=> .no)
   | none=> .no)
 | _,_,_=> .no
def Gg(K:W.Frag)(cl:Ye)(n:Nat)(g:List V3->aG->R3 V3):Sp:=fun vs H Q _=>vs.length=n/\∃ρ S xs v S',SW K cl ρ H S/\ay K ρ H xs vs/\g xs S= .ok v S'/\∀u bg H',Pre ρ H bg H'->SW K cl bg H' S'->aO K bg H' v u->Q u H'
def qJ(g:List V3->aG->R3 V3)(fs:FA):FX:=fun δ S=>(fs δ S).bind g
def pW(P:Program)(w:World)(K:W.Frag)(mg:Yd)(base:Heap)(cl:Ye)(k:Nat)(x:Str)(n:Nat)(g:List V3->aG->R3 V3):Prop:=
 ∃(f:Addr) (fd:FuncData) (ps:List Str),iT P w K mg base t_ k f fd ps (Gg K cl n g)/\mg x=some (.ref f)/\PySem.W.keepIn K (.ref f)=true/\Binds K fd ps []
theorem Fx{g:List V3->aG->R3 V3}{k j n:Nat}{x:Str}{p pos:Pos}{e:Expr}{es:List Expr}{fs:FA}(C:pW X.prog X.w X.K X.mg X.base cl k x n g)(hr:dw j X.A)(DY:k<=j)(hg:Gl X x)(ha:E7 X cl (e ::es) fs)
 (hn:∀δ S ds S',fs δ S= .ok ds S'->ds.length=n) (j9:(x==("__debug__":Str))=false:=by decide) (he:starEach (e ::es) X.env=(false,eval e X.env) ::starEach es X.env:=by rfl) (lP:(backTo pos (starEach es X.env)).any (·.1)=false:=by rfl) :
 PX X cl (.Call (.Name x p) (e ::es) [] pos) (qJ g fs):=by
 obtain⟨f,fd,ps,F,hm,hk,hb⟩:=C;refine⟨(uF F (hr.mono DY) hg hm hk hb .nil Cq ha.1 j9 he lP).imp fun σ H Q ⟨ρ,S,δ,v,S',E,hf,q⟩=>?_⟩
 obtain⟨vs,S1,h1,h2⟩:=R3.af hf;refine⟨ρ,S,δ,vs,S1,E,h1,fun us bA H1 p1 w1 r1=>?_⟩
 show Gg X.K cl n g (us++[]) H1 Q E0;rw[List.append_nil];exact⟨by rw[<-r1.length];exact hn δ S vs S1 h1,bA,S1,vs,v,S',w1,r1,h2,fun z o9 H2 p2 w2 r2=>q z o9 H2 (p1.trans p2) w2 r2⟩
end
def dm(N:List Str)(vs:List V3):DE:=vs.map some++List.replicate (N.length - vs.length) none
theorem vI{K:W.Frag}{cl:Ye}{S:aG}{N:List Str}{ds:List V3}{vs:List V}(w:SW K cl ρ H S)(r:ay K ρ H ds vs):el K cl ρ H S (L2.start N vs) (dm N ds) where
 len:=by unfold L2.start dm;simp [r.length]
 sw:=w
 val:=fun i d e=>by
  unfold dm at e;unfold L2.start;by_cases hi:i < ds.length
  .rw [List.getElem?_append_left (by simpa using hi),List.getElem?_map] at e
   cases q:ds[i]? with
   | none=>rw [q] at e;cases e
   | some d'=>
     rw[q] at e;cases e;obtain⟨x,h1,h2⟩:=r.get q;exact⟨x,by rw[List.getElem?_append_left (by rw[List.length_map,<-r.length];exact hi),List.getElem?_map,h1];rfl,h2⟩
  .rw [List.getElem?_append_right (by simpa using hi),List.getElem?_replicate] at e
   split at e <;> cases e
def tm(N:List Str)(F:FZ):List V3->aG->R3 V3:=fun vs S=>(F (dm N vs) S).bind fun o S'=>match o with | .rt v=> .ok v S' | .nx _=> .ok (.d .cu) S'
def xh(N:List Str)(F:FZ):List V3->aG->R3 V3:=fun vs S=>(tm N F vs S).bind fun v S'=>match res S' v with
 | some d=>R3.aI ((S'.take S.length).all (we S.length) && mM S.length v) (.ok (.d d) (S'.take S.length))
 | none=> .no
theorem FQ{P:Program}{w:World}{K:W.Frag}{mg:Yd}{base:Heap}{cl:Ye}{x qual:Str}{st:Stmt}{f:Addr}{fd:FuncData}{N ps:List Str}{k:Nat}{F:FZ}(Fn:xl K x qual st f fd)(S:bb N ps (aD st))
 (g5:∀(dJ:Value) (A:Around) (outer:List Env) (s:Shared) (H:Hp) (E:XK),dw k (A.deeper (envOfC qual (aD st) s.heap.objs.size f dJ))->
   Dt (lz t_ P w K mg base N qual (aD st) f dJ A outer s H E).E_ cl (aQ st) F):iT P w K mg base t_ (k+1) f fd ps (Gg K cl ps.length (tm N F)):=by
 refine Fn.ok S (fun vs H Q E h=>h.1) (fun dJ A outer s H vs Q E hr h=>⟨_,(g5 dJ A outer s H E hr).1,?_⟩)
 obtain⟨_,ρ,S,ds,v,S',w,r,hg,q⟩:=h;obtain⟨o,S1,h1,h2⟩:=R3.af hg;refine⟨ρ,S,dm N ds,o,S1,vI w r,h1,?_⟩;cases o with
 | nx i4=>
   cases h2;exact fun cj bg H' p' E'=>q _ bg H' p' E'.sw (by unfold aO Rep;rfl)
 | rt d'=>
   cases h2;exact fun u bg H' p' w' r'=>q u bg H' p' w' r'
theorem B9{K:W.Frag}{cl:Ye}{N:List Str}{n:Nat}{vs:List V}{Q:VK}{E:XK}(h:Gg K cl n (xh N F) vs H Q E):Gg K cl n (tm N F) vs H Q E:=by
 obtain⟨hl,ρ,S,xs,v,S',w,r,hg,q⟩:=h;obtain⟨v1,S1,h1,h2⟩:=R3.af hg;refine⟨hl,ρ,S,xs,v1,S1,w,r,h1,fun u bA H1 p1 w1 r1=>?_⟩
 have pc:Pre ρ H (bA.cut S.length) H1:=SW.DC (K:=K) (cl:=cl) (by rw[w.len];exact Nat.le_refl _) p1
 split at h2
 .rename_i d e;obtain⟨ok,h3⟩:=R3.aN h2;obtain⟨ok,hk⟩:=Bool.and_eq_true_iff.mp ok;cases h3;refine q u _ H1 pc (w1.cut ok) ?_;unfold aO;refine r1.resB w1 (iV _) (fun k a hk a1 ha=>?_) hk e
  rcases P3.eA.mp ha with⟨z,_⟩ | z
  .obtain⟨j,hj⟩:=List.getElem?_of_mem z;have hj:(bA.r.take S.length)[j]? =some a:=hj;rw[List.getElem?_take] at hj;split at hj
   .rename_i hjl;have:=w1.nd j k a hj a1;omega
   .cases hj
  .exact(w1.zb a z).2 (List.mem_of_getElem? a1)
 .cases h2
end L3
end
section
namespace L3
open PySem PySem.Spec PyProof.Rows L2
section
variable {X:Cx} {cl:Ye}
def kX(δ:DE)(i:Nat):Option V3:=match δ[i]? with | some (some v)=>some v | _=>none
def om(own:List Str)(kp:List Nat)(δ:DE):DE:=List.replicate own.length none++kp.map (kX δ)
theorem Fb{K:W.Frag}{S S':aG}{σ:L2.St}{δ:DE}{own:List Str}{kp:List Nat}(E:el K cl ρ H S σ δ)(p:PW ρ H bg H')(w:SW K cl bg H' S'):el K cl bg H' S' (cW own kp σ) (om own kp δ) where
 len:=by unfold cW om;simp
 sw:=w
 val:=fun i d e=>by
  unfold om at e;unfold cW;by_cases hi:i < own.length
  .rw [List.getElem?_append_left (by simpa using hi),List.getElem?_replicate] at e
   split at e <;> cases e
  .rw [List.getElem?_append_right (by simpa using hi),List.length_replicate,List.getElem?_map] at e ⊢
   cases q:kp[i - own.length]? with
   | none=>rw [q] at e;cases e
   | some j=>
     rw[q] at e;have e:kX δ j=some d:=Option.some.inj e;unfold kX at e;split at e
     .rename_i d' ed;cases e;obtain⟨v,h1,h2⟩:=E.val j d ed;exact⟨v,by simp [h1],h2.pw p⟩
     .cases e
def mX(t:FG)(c:FB)(f:FX)(δ:DE):List V3->aG->R3 (List V3)
 | [],S=> .ok [] S
 | v ::vs,S=>match t v δ with
   | none=> .no
   | some δ1=>(c δ1 S).bind fun b S1=>if b then(f δ1 S1).bind fun y S2=>(mX t c f δ vs S2).bind fun ys S3=> .ok (y ::ys) S3 else mX t c f δ vs S1
def wy(it:FA)(t:FG)(c:FB)(f:FX)(own:List Str)(kp:List Nat):FX:=fun δ S=>(it δ S).bind fun vs S1=>R3.aI (decide (vs.length<=sizeLine)) ((mX t c f (om own kp δ) vs S1).bind fun ys S2=> .ok (rC ys) S2)
theorem ay.append{K:W.Frag}:∀{ds es:List V3} {xs ys:List V},ay K ρ H ds xs->ay K ρ H es ys->ay K ρ H (ds++es) (xs++ys)
 | [],_,_,_,h,t=>by unfold ay at h;subst h;exact t
 | d ::ds,es,xs,ys,h,t=>by
   obtain⟨x,r,rfl,h1,h2⟩:=h.cq;exact ay.cons h1 (ay.append h2 t)
theorem F7{K:W.Frag}{own:List Str}{kp:List Nat}{σ:L2.St}{Q:VK}(h:tX K cl (wy it t c f own kp) σ H Q) :
 y6 (Rr K cl it) (gX K cl t) (Kv K cl c) (tX K cl f) own kp σ H Q:=by
 obtain⟨ρ,S,δ,v,SF,E,hf,q⟩:=h;obtain⟨es,S1,h1,h2⟩:=R3.af hf;obtain⟨hl,h3⟩:=R3.aN h2;have hl:=of_decide_eq_true hl;obtain⟨vs,S2,h4,h5⟩:=R3.af h3;cases h5;refine⟨ρ,S,δ,es,S1,E,h1,fun J bA H1 p1 w1 ir Dd hD=>?_⟩
 have nDz:Dd ∉ bA.b:=fun hb=>by obtain⟨o,ho⟩:=w1.bs Dd hb;rw [hD] at ho;cases ho
 have nDr:Dd ∉ bA.r:=fun hb=>by obtain⟨o,ho⟩:=w1.rs Dd hb;rw [hD] at ho;cases ho
 have toZ:∀{r' f':List Addr} {H':Hp},Pre bA H1 ⟨r',bA.z,f'⟩ H'->PW bA H1 ⟨r',Dd ::bA.z,f'⟩ H':=fun {r' f' H'} p=>⟨fun b o e nb=>⟨(p.bp b o e nb).1,fun hb=>by
  rcases P3.eA.mp hb with z | z
  .exact(p.bp b o e nb).2 (P3.eA.mpr (.inl z))
  .rcases List.mem_cons.mp z with y | y
   .exact bf e hD y
   .exact(p.bp b o e nb).2 (P3.eA.mpr (.inr y))⟩,p.ext⟩
 have w0:SW K cl ⟨bA.r,Dd ::bA.z,bA.f⟩ (upd H1 Dd (.lst [])) S1:=by
  have s0:aH H1 (upd H1 Dd (.lst [])):=bz hD;have ws:=w1.same s0;refine⟨ws.len,ws.nd,fun k a o hk ho=>?_,fun b hb=>?_,ws.fz,ws.ff,ws.fi⟩
  .have r:=w1.ob k a o hk ho;obtain⟨u,hu⟩:=r.some;rw[s0 a u hu,<-hu];exact r.pw (toZ (Pre.same s0))
  .rcases List.mem_cons.mp hb with y | y
   .subst y;exact⟨⟨_,a_⟩,nDr⟩
   .exact ws.zb b y
 refine⟨fun i m ys H'=>m=es.length - i/\i<=es.length/\ys.length<=i/\H' Dd=some (.lst ys)/\∃r' f' S' done rest,Pre bA H1 ⟨r',bA.z,f'⟩ H'/\SW K cl ⟨r',Dd ::bA.z,f'⟩ H' S'/\vs=done++rest/\ay K ⟨r',Dd ::bA.z,f'⟩ H' done ys/\mX t c f (om own kp δ) (es.drop i) S'= .ok rest SF,
  ⟨es.length,rfl,Nat.zero_le _,Nat.le_refl _,a_,bA.r,bA.f,S1,[],vs,Pre.same (bz hD),w0,rfl,ay.nil,by simpa using h4⟩,?_⟩
 rintro i m ys H' ⟨rfl,hi,hy,hDl,r',f',S',done,rest,pv,w',rfl,rd,hc⟩;obtain⟨go,stop⟩:=ir ⟨r',Dd ::bA.z,f'⟩ H' (toZ pv) w'.bs;have unZ:∀{Hk:P3} {H4:Hp},Pre ⟨r',Dd ::bA.z,f'⟩ H' Hk H4->Pre bA H1 ⟨Hk.r,bA.z,Hk.f⟩ H4:=fun {Hk H4} p4=>⟨fun b o e nb=>by
  obtain⟨e1,n1⟩:=(toZ pv).bp b o e nb;obtain⟨pY,n2⟩:=p4.bp b o e1 n1;refine⟨pY,fun hb=>n2 ?_⟩
  rcases P3.eA.mp hb with z | z
  .exact P3.eA.mpr (.inl z)
  .exact P3.eA.mpr (.inr (by rw[p4.zz];exact List.mem_cons_of_mem _ z)),rfl,fun b o hb h=>p4.zs b o (List.mem_cons_of_mem _ hb) (pv.zs b o hb h),fun k a h=>p4.ext k a (pv.ext k a h)⟩
 by_cases n4:i < es.length
 .have hd:es[i]? =some es[i]:=List.getElem?_eq_getElem n4;have hdrop:es.drop i=es[i] ::es.drop (i+1):=List.drop_eq_getElem_cons n4;rw[hdrop] at hc;unfold mX at hc;split at hc
  .cases hc
  .rename_i δ1 h6;obtain⟨b,T1,h7,h8⟩:=R3.af hc;obtain⟨g1,g2⟩:=go i _ hd;refine .inr ⟨g1,fun x H2 y=>?_⟩
   obtain⟨sy,ry⟩:=g2 x H2 y;have Ec:el K cl ⟨r',Dd ::bA.z,f'⟩ H2 S' (cW own kp σ) (om own kp δ):=Fb E (p1.pw.trans ((toZ pv).trans (Pre.same sy).pw)) (w'.same sy);refine⟨⟨r',Dd ::bA.z,f'⟩,S',om own kp δ,es[i],δ1,Ec,ry,h6,fun GG H3 s3 E3=>⟨⟨r',Dd ::bA.z,f'⟩,S',δ1,b,T1,E3,h7,fun Hk H4 p4 w4=>?_⟩⟩
   have MO:Pre ⟨r',Dd ::bA.z,f'⟩ H' Hk H4:=(Pre.same (sy.trans s3)).trans p4;cases b with
   | true=>
     rw[if_pos rfl] at h8;refine BU ?_;obtain⟨yv,T2,h9,Pm⟩:=R3.af h8;obtain⟨rs,T3,PR,VZ⟩:=R3.af Pm;cases VZ;refine⟨Hk,T1,δ1,yv,T2,E3.to p4 w4,h9,fun v5 Ss H5 p5 w5 r5=>?_⟩
     have pv5:Pre ⟨r',Dd ::bA.z,f'⟩ H' Ss H5:=MO.trans p5;have QW:H5 Dd=some (.lst ys):=pv5.zs Dd _ List.mem_cons_self hDl;have u5:=unZ pv5;obtain⟨Nm,z5,f5⟩:=Ss;have ez:z5=Dd ::bA.z:=pv5.zz;subst ez;have nr:Dd ∉ Nm:=(w5.zb Dd List.mem_cons_self).2;have pw:PW ⟨Nm,Dd ::bA.z,f5⟩ H5 ⟨Nm,Dd ::bA.z,f5⟩ (upd H5 Dd (.lst (ys++[v5]))):=⟨fun b o e nb=>⟨by rw[aW (fun(z:b=Dd)=>nb (by rw[z];exact P3.eA.mpr (.inr List.mem_cons_self)))];exact e,nb⟩,fun _ _ h=>h⟩
     refine⟨QW,by omega,es.length - (i+1),by omega,rfl,n4,by rw[List.length_append,List.length_singleton];omega,a_,Nm,f5,T2,done++[yv],rs,?_,?_,by simp,ay.append ((rd.pre pv5).pw pw) (ay.cons (r5.pw pw) ay.nil),PR⟩
     .refine⟨fun b o e nb=>⟨by rw[aW (bf e hD)];exact(u5.bp b o e nb).1,(u5.bp b o e nb).2⟩,rfl,fun b o hb h=>?_,u5.ext⟩
      rw[aW (bf h hD)];exact u5.zs b o hb h
     .refine⟨w5.len,w5.nd,fun k a o hk ho=>?_,fun b hb=>?_,w5.fz,fun b hb=>?_,w5.fi⟩
      .have ne:a≠Dd:=fun z=>nr (by rw[<-z];exact List.mem_of_getElem? hk)
       rw[aW ne];exact(w5.ob k a o hk ho).pw pw
      .obtain⟨⟨o,ho⟩,n⟩:=w5.zb b hb;refine⟨?_,n⟩;by_cases z:b=Dd
       .subst z;exact⟨_,a_⟩
       .rw [aW z];exact⟨o,ho⟩
      .obtain⟨o,ho⟩:=w5.ff b hb;by_cases z:b=Dd
       .subst z;exact⟨_,a_⟩
       .rw [aW z];exact⟨o,ho⟩
   | false=>
     rw[if_neg (by decide)] at h8
     refine DJ ?_;have VH:H4 Dd=some (.lst ys):=MO.zs Dd _ List.mem_cons_self hDl;have u4:=unZ MO;obtain⟨WG,z4,f4⟩:=Hk;have ez:z4=Dd ::bA.z:=MO.zz;subst ez;exact⟨es.length - (i+1),by omega,rfl,n4,by omega,VH,WG,f4,T1,done,rest,u4,w4,rfl,rd.pre MO,h8⟩
 .have e:i=es.length:=by omega
  subst e;rw[List.drop_length] at hc;cases hc;rw[List.append_nil] at q;refine .inl ⟨stop,?_⟩;have back:PW ⟨r',Dd ::bA.z,f'⟩ H' ⟨r',bA.z,f'⟩ H':=⟨fun b o e nb=>⟨e,fun hb=>nb (by
   rcases P3.eA.mp hb with z | z
   .exact P3.eA.mpr (.inl z)
   .exact P3.eA.mpr (.inr (List.mem_cons_of_mem _ z)))⟩,fun _ _ h=>h⟩
  have wB:SW K cl ⟨r',bA.z,f'⟩ H' _:=⟨w'.len,w'.nd,fun k a o hk ho=>(w'.ob k a o hk ho).pw back,fun b hb=>w'.zb b (List.mem_cons_of_mem _ hb),w'.fz,w'.ff,w'.fi⟩
  refine q _ ⟨r',bA.z,f'⟩ H' (p1.trans pv) wB (uf (.inl ⟨fun hb=>?_, .inl hDl⟩) (rd.pw back))
  rcases P3.eA.mp hb with z | z
  .exact(w'.zb Dd List.mem_cons_self).2 z.1
  .exact nDz (P3.eA.mpr (.inr z))
end
end L3
end
section
namespace L3
open PySem PySem.Spec PyProof.Rows L2
section
variable {X:Cx} {cl:Ye}
theorem FH{scope:Scope}{own:List Str}{kp:List Nat}{kn:List Str}{tg iter elt:Expr}{ifs:List Expr}{it:FA}{t:FG}{c:FB}{f:FX}{pos:Pos}(hc:X.calm=true)(C:di X scope own kp kn)(hi:Ng X cl tg iter it)
 (hg:∀fp s H,Nc (aZ X scope (own++kn) fp s H) cl tg t) (A4:∀fp s H,qM (aZ X scope (own++kn) fp s H) ifs (Kv X.K cl c)) (he:∀fp s H,PX (aZ X scope (own++kn) fp s H) cl elt f)
 (hs:∀x,foldedSetIterable iter X.env x=pure x:=by intro _;rfl):PX X cl (.ListComp elt [⟨tg,iter,ifs,0⟩] scope pos) (wy it t c f own kp):=
 ⟨(zy hc C hi.1 (fun fp s H=>(hg fp s H).1) A4 (fun fp s H=>(he fp s H).1) hs).imp fun σ H Q h=>F7 h⟩
def Hq:FB:=fun _ S=> .ok true S
theorem AD:qM X [] (Kv X.K cl Hq):=fun pins s σ H Q I ⟨ρ,S,δ,b,S',E,hf,q⟩=>vN pins s σ H Q I (by cases hf;exact q ρ H (Pre.refl ρ H) E.sw)
def WX(g:FA):FX:=fun δ S=>(g δ S).bind fun vs S1=>match qf vs with
 | some ds=>R3.aI (decide (ds.length<=sizeLine)) (.ok (.loc S1.length) (S1++[.lst ds]))
 | none=> .no
end
end L3
end
section
namespace L3
open PySem PySem.Spec PyProof.Rows L2
section
variable {X:Cx} {cl:Ye}
def vn(g:List D->R D)(fs:FA):FX:=fun δ S=>(fs δ S).bind fun vs S1=>match qf vs with
 | some ds=>(R3.of (g ds) S1).bind fun d S=> .ok (.d d) S
 | none=> .no
theorem B0{K:W.Frag}{g:List D->R D}{σ:L2.St}{Q:VK}(h:tX K cl (vn g fs) σ H Q) :
 RV K cl fs σ H fun vs H1=>∃B ds d,(∀a∈B,∃o,H1 a=some o)/\az K B H1 ds vs/\g ds= .ok d/\∀z H',aH H1 H'->Rep K B H' d z->Q z H':=by
 obtain⟨ρ,S,δ,v,S',E,hf,q⟩:=h;obtain⟨vs,S1,h1,h2⟩:=R3.af hf;split at h2
 .rename_i ds e;obtain⟨d,S2,h3,h4⟩:=R3.af h2;obtain⟨h5,e5⟩:=R3.of_ok h3;cases h4;subst e5;refine⟨ρ,S,δ,vs,_,E,h1,fun us bA H1 p1 w1 r1=>?_⟩
  rw[nP e] at r1;exact⟨bA.b,ds,d,w1.bs,r1.to,h5,fun z H' s r=>q z bA H' (p1.trans (Pre.same s)) (w1.same s) (by unfold aO;exact r)⟩
 .cases h2
theorem An{g:List D->R D}{x:Str}{T:String}{p pos:Pos}{e:Expr}{es:List Expr}{fs:FA}(hc:dG X (.type T) g)(hg:Gl X x)(hm:X.mg x=none)(hv:bootBuiltins x=some (.type T))(ha:E7 X cl (e ::es) fs)(hn:x≠"__name__":=by decide)(j9:(x==("__debug__":Str))=false:=by decide)
 (he:starEach (e ::es) X.env=(false,eval e X.env) ::starEach es X.env:=by rfl) (lP:(backTo pos (starEach es X.env)).any (·.1)=false:=by rfl):PX X cl (.Call (.Name x p) (e ::es) [] pos) (vn g fs):=
 ⟨(ub hc.r hg hm hv ha.1 hn j9 he lP).imp fun σ H Q h=>B0 h⟩
def WR(c:FB)(f g:FX):FX:=fun δ S=>(c δ S).bind fun b S=>if b then f δ S else g δ S
theorem fR:∀(δ:DE) (S:aG) (ds:List V3) (S':aG),dh δ S= .ok ds S'->ds.length=0:=fun δ S ds S' h=>by cases h;rfl
theorem b5{g:FA}{n:Nat}(h:∀(δ:DE) (S:aG) (ds:List V3) (S':aG),g δ S= .ok ds S'->ds.length=n):∀(δ:DE) (S:aG) (ds:List V3) (S':aG),aR f g δ S= .ok ds S'->ds.length=n+1:=fun δ S ds S' e=>by
 obtain⟨v,S1,h1,h2⟩:=R3.af e;obtain⟨vs,S2,h3,h4⟩:=R3.af h2;cases h4;rw[List.length_cons,h δ S1 vs _ h3]
end
end L3
end
section
namespace L3
open PySem PySem.Spec PyProof.Rows L2
section
variable {X:Cx} {cl:Ye}
def W_(fa fb:FX):FX:=fun δ S=>(fa δ S).bind fun a S1=>(fb δ S1).bind fun b S2=>match a,b with
 | .d x, .d y=>(R3.of (c9 x y) S2).bind fun d S=> .ok (.d d) S
 | .lst vs, .d (.int i)=>(match uA vs i with | some v=> .ok v S2 | none=> .no)
 | .tup vs, .d (.int i)=>(match uA vs i with | some v=> .ok v S2 | none=> .no)
 | _,_=> .no
end
end L3
end
section
namespace L3
open PySem PySem.Spec PyProof.Rows L2
section
variable {X:Cx} {cl:Ye}
structure Jj (X:Cx) (cl:Ye) (e:Expr) (f:FB):Prop where
 go:L2.PW X e (Kv X.K cl f)
theorem Jj.pb(h:Jj X cl e f):A7 X cl e f:=⟨L2.PW.pt h.1⟩
def Ux(f g:FB):FB:=fun δ S=>(f δ S).bind fun b S=>if b then g δ S else .ok false S
def Mj(f g:FB):FB:=fun δ S=>(f δ S).bind fun b S=>if b then .ok true S else g δ S
def Cu(f:FB):FB:=fun δ S=>(f δ S).bind fun b S=> .ok (!b) S
theorem zI(h:A7 X cl a f):Jj X cl (.BoolOp .Or [a] pos) f:=⟨BM h.1⟩
theorem CS{rest:List Expr}(ha:A7 X cl a f)(hb:Jj X cl (.BoolOp .Or (b ::rest) pos) g):Jj X cl (.BoolOp .Or (a ::b ::rest) pos) (Mj f g):=⟨by
 intro wh pins s σ H Q I ⟨ρ,S,δ,k,S',E,hf,q⟩;refine GI ha.1 hb.1 wh pins s σ H Q I ?_;obtain⟨c,S1,h1,h2⟩:=R3.af hf;refine⟨ρ,S,δ,c,S1,E,h1,fun bA H1 p1 w1=>?_⟩
 cases c with
 | true=>rw [if_pos rfl] at h2 ⊢;cases h2;exact q bA H1 p1 w1
 | false=>rw [if_neg (by decide)] at h2 ⊢;exact⟨bA,S1,δ,k,S',E.to p1 w1,h2,fun o9 H' p2 w2=>q o9 H' (p1.trans p2) w2⟩⟩
theorem y7(ha:A7 X cl a f):A7 X cl (.UnaryOp .Not a pos) (Cu f):=⟨(BI ha.1).imp fun σ H Q ⟨ρ,S,δ,k,S',E,hf,q⟩=>by
 obtain⟨c,S1,h1,h2⟩:=R3.af hf;cases h2;exact⟨ρ,S,δ,c,_,E,h1,fun bA H1 p1 w1=>q bA H1 p1 w1⟩⟩
def T4(f:FX):FB:=fun δ S=>(f δ S).bind fun v S=>match v with | .d d=>R3.of (Jc d) S | _=> .no
abbrev Kw:=DE->aG->R3 (Option Int)
def Ui(K:W.Frag)(cl:Ye)(f:Kw):TO:=fun σ H Q=>∃ρ S δ o S',el K cl ρ H S σ δ/\f δ S= .ok o S'/\∀bg H',Pre ρ H bg H'->SW K cl bg H' S'->Q o H'
structure Xr (X:Cx) (cl:Ye) (e:Option Expr) (f:Kw):Prop where
 go:PO X e (Ui X.K cl f)
def Oz:Kw:=fun _ S=> .ok none S
def Of(f:FX):Kw:=fun δ S=>(f δ S).bind fun v S=>match v with | .d (.int i)=> .ok (some i) S | _=> .no
def Xt(f:FX)(fl fh:Kw):FX:=fun δ S=>(f δ S).bind fun v S1=>(fl δ S1).bind fun lo S2=>(fh δ S2).bind fun hi S3=>match v with
 | .d d=>(R3.of (DM d lo hi) S3).bind fun r S=> .ok (.d r) S
 | _=> .no
end
end L3
end
section
namespace L2
open PySem PySem.Spec PyProof.Rows
section
variable {X:Cx}
def xQ(t T:String):Bool:=t==T || (t=="bool" && T=="int")
theorem p_{K:W.Frag}(t T:String)(ht:t∈["NoneType","bool","int","str","list","tuple"])(hT:T∈["bool","int","str","list","tuple"]):PySem.W.kitOne K (.type t) (.type T)=some (xQ t T):=by
 simp only[List.mem_cons,List.not_mem_nil,or_false] at ht hT;rcases ht with rfl | rfl | rfl | rfl | rfl | rfl <;> rcases hT with rfl | rfl | rfl | rfl | rfl <;> rfl
def LN(T:String)(f:FD):FD:=fun δ=>(f δ).bind fun d=>match d with | .dct _ _=> .no | _=> .ok (.bl (xQ (tyName d) T))
theorem FI{T:Str}{Ts:String}{p p2 pos:Pos}{e:Expr}{f:FD}(he:QD X e f)(hT:Ts∈["bool","int","str","list","tuple"])(hg:Gl X "isinstance")(hm:X.mg "isinstance"=none)(Wv:Gl X T)(VQ:X.mg T=none)(Wn:bootBuiltins T=some (.type Ts))(WL:T≠"__name__":=by decide)(WM:(T==("__debug__":Str))=false:=by decide)
 (hs:starEach [e, .Name T p2] X.env=(false,eval e X.env) ::starEach [.Name T p2] X.env:=by rfl) (lP:(backTo pos (starEach [.Name T p2] X.env)).any (·.1)=false:=by rfl):QD X (.Call (.Name "isinstance" p) [e, .Name T p2] [] pos) (LN Ts f):=by
 have hc:jS X (.builtin "isinstance") (fun xs H Q=>∃B d x,Rep X.K B H d x/\(∀a b,d≠ .dct a b)/\xs=[x, .ty Ts]/\Q (.bl (xQ (tyName d) Ts)) H):=by
  intro pins s σ H xs us Q I r h;obtain⟨B,d,x,rd,ha,rfl,q⟩:=h;obtain⟨u,w',rfl,ru,xb⟩:=vals2 r;cases xb;have fin:∀tk,EP X pins σ Q (.bool (xQ (tyName d) Ts)) {s with toks:=tk}:=fun tk=>⟨.bl _,H,I.tok _,rfl,q⟩
  cases d with
  | cu=>exact nM I ru (by rw[Rep.cu.mp rd];exact .cu) (p_ "NoneType" Ts (by decide) hT) fin
  | bl b=>exact nM I ru (by rw[Rep.bl.mp rd];exact .bl b) (p_ "bool" Ts (by decide) hT) fin
  | int i=>exact nM I ru (by rw[Rep.int.mp rd];exact .int i) (p_ "int" Ts (by decide) hT) fin
  | str z=>exact nM I ru (by rw[Rep.str.mp rd];exact .str z) (p_ "str" Ts (by decide) hT) fin
  | lst es=>
    obtain⟨a,ys,rfl,l,_⟩:=Rep.lst.mp rd;cases(show u=Value.ref a from ru)
    obtain⟨Kh,n2,r2,h1,z2⟩:=I.LU l;exact PySem.W.kia_one PySem.W.kitx_list I.nZ ⟨_,h1,rfl⟩ (p_ "list" Ts (by decide) hT) (fun z=>nomatch z) fin
  | tup es=>
    obtain⟨a,ys,rfl,l,_⟩:=Rep.tup.mp rd;cases(show u=Value.ref a from ru)
    obtain⟨its,rv,p,hz⟩:=I.tuple l.sq;obtain⟨o,h1,h2,_⟩:=p;exact PySem.W.kia_one PySem.W.kitx_tuple I.nZ ⟨o,h1,h2⟩ (p_ "tuple" Ts (by decide) hT) (fun z=>nomatch z) fin
  | dct a b=>exact absurd rfl (ha a b)
 refine⟨(pJ hc hg hm boot_isinstance (fZ he.1 (fZ (zQ (v:= .ty Ts) Wv VQ Wn rfl WL WM) lW) hs) (by decide) (by decide) hs lP).imp fun σ H Q ⟨Z,B,δ,d,E,hf,q⟩=>?_⟩
 obtain⟨d1,h1,h2⟩:=R.af hf;have key:(∀a b,d1≠ .dct a b)/\d= .bl (xQ (tyName d1) Ts):=by
  cases d1 with
  | dct a b=>cases h2
  | _=>cases h2;exact⟨fun _ _ z=>(by cases z),rfl⟩
 obtain⟨k1,rfl⟩:=key;exact⟨Z,B,δ,d1,E,h1,fun v H1 s1 r1=>⟨B,d1,v,r1,k1,rfl,q _ H1 s1 (Rep.bl.mpr rfl)⟩⟩
def nList(f:FD):aq->R (List D):=fun δ=>(f δ).bind fun d=>match d with | .lst ds=> .ok ds | .tup ds=> .ok ds | _=> .no
end
end L2
namespace L3
open PySem PySem.Spec PyProof.Rows L2
theorem sj{P:Program}{w:World}{K:W.Frag}{mg:Yd}{base:Heap}{cl:Ye}{x qual:Str}{st:Stmt}{f:Addr}{fd:FuncData}{N ps:List Str}{k:Nat}{F:FZ}{b:List Stmt}{sc:Scope}(hb:aQ st=b)(hs:aD st=sc)(Fn:xl K x qual st f fd)(S:bb N ps sc)
 (g5:∀(dJ:Value) (A:Around) (outer:List Env) (s:Shared) (H:Hp) (E:XK),dw k (A.deeper (envOfC qual sc s.heap.objs.size f dJ))->
   Dt (lz t_ P w K mg base N qual sc f dJ A outer s H E).E_ cl b F):iT P w K mg base t_ (k+1) f fd ps (Gg K cl ps.length (tm N F)):=by
 subst hb hs;exact FQ Fn S g5
theorem pW.p{K:W.Frag}{mg:Yd}{cl:Ye}{k:Nat}{n:Nat}{N:List Str}(C:pW P w K mg base cl k x n (tm N F)):pW P w K mg base cl k x n (xh N F):=
 let⟨f,fd,ps,F,h⟩:=C;⟨f,fd,ps,F.imp fun _ _ _ _ h=>B9 h,h⟩
def M8(N:List Str)(F:FZ):List D->R D:=fun ds=>match xh N F (ds.map .d) [] with
 | .ok (.d d) []=>R.aI d.atom (.ok d)
 | _=> .no
theorem Je{K:W.Frag}{cl:Ye}{N:List Str}{n:Nat}{vs:List V}{Q:VK}{E:XK}(h:EZ K n (M8 N F) vs H Q E):Gg K cl n (tm N F) vs H Q E:=by
 obtain⟨hl,B,ds,d,hb,r,hg,q⟩:=h;unfold M8 at hg;split at hg
 .rename_i d' e;obtain⟨ha,h2⟩:=R.aN hg;cases h2;have r0:az K (⟨[],[],[]⟩:P3).b H ds vs:=r.bp fun b o e _=>⟨e,by simp [P3.b]⟩
  refine B9 ⟨hl,⟨[],[],[]⟩,[],ds.map .d, .d d,[],⟨rfl,fun i j a hi=>by simp at hi,fun k a o hk=>by simp at hk,fun b hb=>by simp at hb,fun k a hk=>by simp at hk,fun b hb=>by simp at hb,fun k a hk=>by simp at hk⟩,ay.of r0,e,fun u bg H' p w' r'=>q u H' (fun b o eb=>?_) ?_⟩
  .exact(p.bp b o eb (by simp [P3.b])).1
  .unfold aO at r';exact r'.atom ha
 .cases hg
section
variable {X:Cx} {cl:Ye}
def Od(f:FX):FA:=fun δ S=>(f δ S).bind fun v S=>match v with | .d (.tup ds)=> .ok (ds.map .d) S | .tup vs=> .ok vs S | _=> .no
end
end L3
end
section
namespace L3
open PySem PySem.Spec PyProof.Rows L2
def W3{α:Type}(r:R3 α)(Q:α->aG->Prop):Prop:=∃a S,r= .ok a S/\Q a S
section
variable {α β:Type} {Q Q':α->aG->Prop} {S:aG} {δ:DE}
theorem W3.ok{a:α}(h:Q a S):W3 (.ok a S) Q:=⟨a,S,rfl,h⟩
theorem W3.bind{Q:β->aG->Prop}{r:R3 α}{f:α->aG->R3 β}(h:W3 r fun a S=>W3 (f a S) Q):W3 (r.bind f) Q:=by
 obtain⟨a,S1,e1,b,S2,h2,q⟩:=h;exact⟨b,S2,by rw[e1];exact h2,q⟩
theorem W3.mono{r:R3 α}(h:W3 r Q)(m:∀a S,Q a S->Q' a S):W3 r Q':=let⟨a,S,e,q⟩:=h;⟨a,S,e,m a S q⟩
theorem W3.wh{c:Bool}{r:R3 α}(hc:c=true)(h:W3 r Q):W3 (R3.aI c r) Q:=by rw[hc];exact h
theorem W3.of{r:R α}{a:α}(e:r= .ok a)(h:Q a S):W3 (R3.of r S) Q:=by rw[e];exact⟨a,S,rfl,h⟩
end
section
variable {S:aG} {δ:DE} {QV:V3->aG->Prop} {QB:Bool->aG->Prop} {QA:List V3->aG->Prop} {QO:Ou->aG->Prop}
theorem gU{f:FD}{d:D}(e:f (down δ)= .ok d)(h:QV (.d d) S):W3 (xP f δ S) QV:=W3.bind (W3.of e (W3.ok h))
theorem z9{f:aq->R Bool}{b:Bool}(e:f (down δ)= .ok b)(h:QB b S):W3 (bP f δ S) QB:=W3.of e h
theorem w_var{i:Nat}{v:V3}(e:δ[i]? =some (some v))(h:QV v S):W3 (bE i δ S) QV:=by unfold bE;rw [e];exact W3.ok h
theorem Cm{f:aq->R (List D)}{ds:List D}(e:f (down δ)= .ok ds)(h:QV (.loc S.length) (S++[.lst ds])):W3 (Co f δ S) QV:=W3.bind (W3.of e (W3.ok h))
theorem gW(h:QA [] S):W3 (dh δ S) QA:=W3.ok h
theorem bX{f:FX}{g:FA}(h:W3 (f δ S) fun v S1=>W3 (g δ S1) fun vs S2=>QA (v ::vs) S2):W3 (aR f g δ S) QA:=W3.bind (h.mono fun _ _ h=>W3.bind (h.mono fun _ _ h=>W3.ok h))
theorem Mu{g:FA}(h:W3 (g δ S) fun vs S1=>vs.length<=sizeLine/\QV (vD vs) S1):W3 (xp g δ S) QV:=W3.bind (h.mono fun _ _ h=>W3.wh (decide_eq_true h.1) (W3.ok h.2))
theorem GY{g:FA}(h:W3 (g δ S) fun vs S1=>vs.length<=sizeLine/\QV (rC vs) S1):W3 (yg g δ S) QV:=W3.bind (h.mono fun _ _ h=>W3.wh (decide_eq_true h.1) (W3.ok h.2))
theorem M5{g:D->D->R D}{fa fb:FX}(h:W3 (fa δ S) fun a S1=>W3 (fb δ S1) fun b S2=>∃x y d,a= .d x/\b= .d y/\g x y= .ok d/\QV (.d d) S2):W3 (x2 g fa fb δ S) QV:=
 W3.bind (h.mono fun _ _ h=>W3.bind (h.mono fun _ _ ⟨_,_,_,e1,e2,e3,q⟩=>by subst e1 e2;exact W3.bind (W3.of e3 (W3.ok q))))
theorem CC{g:D->D->R D}{fa fb:FX}(h:W3 (fa δ S) fun a S1=>W3 (fb δ S1) fun b S2=>∃x y k,a= .d x/\b= .d y/\g x y= .ok (.bl k)/\QB k S2):W3 (Jm g fa fb δ S) QB:=
 W3.bind (M5 (h.mono fun _ _ h=>h.mono fun _ _ ⟨x,y,k,e1,e2,e3,q⟩=>⟨x,y, .bl k,e1,e2,e3,W3.ok q⟩))
theorem Dg{g:List V3->aG->R3 V3}{fs:FA}(h:W3 (fs δ S) fun vs S1=>W3 (g vs S1) QV):W3 (qJ g fs δ S) QV:=W3.bind h
theorem Gu{g:List D->R D}{fs:FA}(h:W3 (fs δ S) fun vs S1=>∃ds d,vs=ds.map .d/\g ds= .ok d/\QV (.d d) S1):W3 (vn g fs δ S) QV:=
 W3.bind (h.mono fun _ _ ⟨ds,_,e1,e2,q⟩=>by subst e1;rw [sx];exact W3.bind (W3.of e2 (W3.ok q)))
theorem Jx{it:FA}{own:List Str}{kp:List Nat}(h:W3 (it δ S) fun vs S1=>vs.length<=sizeLine/\W3 (mX t c f (om own kp δ) vs S1) fun ys S2=>QV (rC ys) S2):W3 (wy it t c f own kp δ S) QV:=
 W3.bind (h.mono fun _ _ h=>W3.wh (decide_eq_true h.1) (W3.bind (h.2.mono fun _ _ h=>W3.ok h)))
theorem dI{F G:FZ}(h:W3 (F δ S) fun o S1=>∃δ1,o= .nx δ1/\W3 (G δ1 S1) QO):W3 (cz F G δ S) QO:=W3.bind (h.mono fun _ _ ⟨_,e,h⟩=>by subst e;exact h)
theorem iS{i:Nat}{f:FX}(hi:i < δ.length)(h:W3 (f δ S) fun v S1=>QO (.nx (δ.set i (some v))) S1):W3 (me i f δ S) QO:=W3.bind (h.mono fun _ _ h=>W3.wh (decide_eq_true hi) (W3.ok h))
theorem wF{f:FX}(h:W3 (f δ S) fun v S1=>QO (.rt v) S1):W3 (uH f δ S) QO:=W3.bind (h.mono fun _ _ h=>W3.ok h)
theorem EG{c:FB}{F G:FZ}(h:W3 (c δ S) fun b S1=>if b then W3 (F δ S1) QO else W3 (G δ S1) QO):W3 (tj c F G δ S) QO:=W3.bind (h.mono fun b _ h=>by cases b <;> exact h)
theorem yu(h:QO (.nx δ) S):W3 (mK δ S) QO:=W3.ok h
theorem Dw{f:aq->R (List D)}{ds:List D}(e:f (down δ)= .ok ds)(h:QA (ds.map .d) S):W3 (iP f δ S) QA:=W3.bind (W3.of e (W3.ok h))
theorem G7{it:FA}(h:W3 (it δ S) fun vs S1=>W3 (g4 t F vs δ S1) QO):W3 (vL it t F δ S) QO:=W3.bind h
theorem sI{t:FG}{body:FZ}:∀(vs:List V3) (n:Nat) (P:Nat->DE->aG->Prop) {δ:DE} {S:aG},P n δ S->
 (∀i v δ S,vs[i]? =some v->P (n+i) δ S->∃δ1,t v δ=some δ1/\W3 (body δ1 S) fun o S1=>∃kQ,o= .nx kQ/\P (n+i+1) kQ S1)->W3 (g4 t body vs δ S) fun o S1=>∃kQ,o= .nx kQ/\P (n+vs.length) kQ S1
 | [],n,P,δ,S,h0,_=>W3.ok ⟨δ,rfl,h0⟩
 | v ::vs,n,P,δ,S,h0,hs=>by
   obtain⟨δ1,e1,o,S1,e2,kQ,rfl,p2⟩:=hs 0 v δ S rfl h0;have ih:=sI vs (n+1) P p2 (fun i v' i4 S' hi hp=>by
    have:=hs (i+1) v' i4 S' (by simpa using hi) (by rw[show n+(i+1)=n+1+i by omega];exact hp)
    rw[show n+(i+1)+1=n+1+i+1 by omega] at this
    exact this)
   rw[show n+1+vs.length=n+(v ::vs).length by rw[List.length_cons];omega] at ih
   unfold g4;rw[e1];refine W3.bind ⟨_,_,e2,?_⟩;exact ih
theorem uc{t:FG}{body:FZ}{vs:List V3}(P:Nat->DE->aG->Prop){δ:DE}{S:aG}(h0:P 0 δ S)
 (hs:∀i v δ S,vs[i]? =some v->P i δ S->∃δ1,t v δ=some δ1/\W3 (body δ1 S) fun o S1=>∃kQ,o= .nx kQ/\P (i+1) kQ S1):W3 (g4 t body vs δ S) fun o S1=>∃kQ,o= .nx kQ/\P vs.length kQ S1:=by
 have:=sI (t:=t) (body:=body) vs 0 P h0 (fun i v δ S hi hp=>by simpa using hs i v δ S hi (by simpa using hp))
 simpa using this
theorem sJ{t:FG}{c:FB}{f:FX}{δ:DE}:∀(vs:List V3) (n:Nat) (P:Nat->List V3->aG->Prop) {ys:List V3} {S:aG},P n ys S->
 (∀i v ys S,vs[i]? =some v->P (n+i) ys S->∃δ1,t v δ=some δ1/\W3 (c δ1 S) fun b S1=>if b then W3 (f δ1 S1) fun y S2=>P (n+i+1) (ys++[y]) S2 else P (n+i+1) ys S1)->W3 (mX t c f δ vs S) fun zs S1=>P (n+vs.length) (ys++zs) S1
 | [],n,P,ys,S,h0,_=>W3.ok (by rw[List.append_nil];exact h0)
 | v ::vs,n,P,ys,S,h0,hs=>by
   obtain⟨δ1,e1,b,S1,e2,h2⟩:=hs 0 v ys S rfl h0;have ih:∀{MI S'},P (n+1) MI S'->W3 (mX t c f δ vs S') fun zs S1=>P (n+(v ::vs).length) (MI++zs) S1:=fun {MI S'} p=>by
    have:=sJ (t:=t) (c:=c) (f:=f) (δ:=δ) vs (n+1) P p (fun i v' MI S' hi hp=>by
     have:=hs (i+1) v' MI S' (by simpa using hi) (by rw[show n+(i+1)=n+1+i by omega];exact hp)
     rw[show n+(i+1)+1=n+1+i+1 by omega] at this
     exact this)
    rw[show n+1+vs.length=n+(v ::vs).length by rw[List.length_cons];omega] at this
    exact this
   unfold mX;rw[e1];refine W3.bind ⟨b,S1,e2,?_⟩;cases b with
   | true=>
     rw[if_pos rfl] at h2 ⊢;exact W3.bind (h2.mono fun y S2 p=>W3.bind ((ih p).mono fun zs S3 q=>W3.ok (by rw[List.append_assoc] at q;exact q)))
   | false=>rw [if_neg (by decide)] at h2 ⊢;exact ih h2
theorem Aq{t:FG}{c:FB}{f:FX}{δ:DE}{vs:List V3}(P:Nat->List V3->aG->Prop){S:aG}(h0:P 0 [] S)
 (hs:∀i v ys S,vs[i]? =some v->P i ys S->∃δ1,t v δ=some δ1/\W3 (c δ1 S) fun b S1=>if b then W3 (f δ1 S1) fun y S2=>P (i+1) (ys++[y]) S2 else P (i+1) ys S1):W3 (mX t c f δ vs S) fun zs S1=>P vs.length zs S1:=by
 have:=sJ (t:=t) (c:=c) (f:=f) (δ:=δ) vs 0 P h0 (fun i v ys S hi hp=>by simpa using hs i v ys S hi (by simpa using hp))
 simpa using this
theorem LJ{QB:Bool->aG->Prop}(h:QB true S):W3 (Hq δ S) QB:=W3.ok h
theorem RY{N:List Str}{F:FZ}{vs:List V3}{δ:DE}(e:dm N vs=δ)(h:W3 (F δ S) fun o S1=>∃v,o= .rt v/\QV v S1):W3 (tm N F vs S) QV:=by
 subst e;exact W3.bind (h.mono fun _ _ ⟨_,e,q⟩=>by subst e;exact W3.ok q)
def Sf(S:aG):Prop:=∀o∈S,∃ds,o=SO.lst ds
end
section
variable {S:aG} {δ:DE} {QV:V3->aG->Prop}
theorem Fe{it:FA}{t:FG}{c:FB}{f:FX}{own:List Str}{kp:List Nat}(P:Nat->List D->aG->Prop)(h:W3 (it δ S) fun vs S1=>vs.length<=sizeLine/\P 0 [] S1/\
 (∀i v ds S2,vs[i]? =some v->P i ds S2->∃δ1,t v (om own kp δ)=some δ1/\W3 (c δ1 S2) fun b S3=>if b then W3 (f δ1 S3) fun y S4=>∃d,y= .d d/\P (i+1) (ds++[d]) S4 else P (i+1) ds S3)/\
 ∀ds S2,P vs.length ds S2->QV (.d (.lst ds)) S2):W3 (wy it t c f own kp δ S) QV:=by
 refine Jx (h.mono fun vs S1 ⟨hl,h0,hs,hq⟩=>⟨hl,?_⟩)
 refine(Aq (fun i ys S=>∃ds,ys=ds.map V3.d/\P i ds S) ⟨[],rfl,h0⟩ ?_).mono fun zs S2 ⟨ds,e,p⟩=>?_
 .rintro i v ys S2 hv ⟨ds,rfl,p⟩;obtain⟨δ1,e1,h1⟩:=hs i v ds S2 hv p;refine⟨δ1,e1,h1.mono fun b S3 h3=>?_⟩
  cases b with
  | true=>
    rw[if_pos rfl] at h3 ⊢;exact h3.mono fun y S4 ⟨d,e,p⟩=>by subst e;exact⟨ds++[d],by simp,p⟩
  | false=>rw [if_neg (by decide)] at h3 ⊢;exact⟨ds,rfl,h3⟩
 .subst e;unfold rC;rw[sx];exact hq ds S2 p
structure i5 (n:Nat) (d:D):Prop where
 pl:cx d=true
 ly:(toPy d).canLay0=true
 dp:(toPy d).depth<=n
theorem i5.int(i:Int):i5 0 (.int i):=⟨by unfold cx;rfl,by unfold toPy PyData.canLay0;rfl,by unfold toPy PyData.depth;omega⟩
theorem i5.bl(b:Bool):i5 0 (.bl b):=⟨by unfold cx;rfl,by unfold toPy PyData.canLay0;rfl,by unfold toPy PyData.depth;omega⟩
theorem i5.str(h:(PyData.str s).canLay0=true):i5 0 (.str s):=⟨by unfold cx;rfl,by unfold toPy;exact h,by unfold toPy PyData.depth;omega⟩
theorem i5.mono{n m:Nat}{d:D}(h:i5 n d)(hm:n<=m):i5 m d:=⟨h.pl,h.ly,Nat.le_trans h.dp hm⟩
theorem i5.all{n:Nat}:∀{ds:List D},(∀d∈ds,i5 n d)->fT ds=true/\PyData.canLayAll0 (jK ds)=true/\PyData.depthAll (jK ds)<=n
 | [],_=>⟨by unfold fT;rfl,by unfold jK PyData.canLayAll0;rfl,by unfold jK PyData.depthAll;omega⟩
 | d ::ds,h=>by
   obtain⟨h1,h2,h3⟩:=i5.all (ds:=ds) fun x hx=>h x (List.mem_cons_of_mem _ hx)
   have f:=h d List.mem_cons_self;refine⟨by unfold fT;rw [f.pl,h1];rfl,by unfold jK PyData.canLayAll0;rw [f.ly,h2];rfl,?_⟩
   unfold jK PyData.depthAll;have:=f.dp;omega
theorem i5.lst{n:Nat}{ds:List D}(h:∀d∈ds,i5 n d):i5 (n+1) (.lst ds):=by
 obtain⟨h1,h2,h3⟩:=i5.all h;exact⟨by unfold cx;exact h1,by unfold toPy PyData.canLay0;exact h2,by unfold toPy PyData.depth;omega⟩
theorem i5.tup{n:Nat}{ds:List D}(h:∀d∈ds,i5 n d):i5 (n+1) (.tup ds):=by
 obtain⟨h1,h2,h3⟩:=i5.all h;exact⟨by unfold cx;exact h1,by unfold toPy PyData.canLay0;exact h2,by unfold toPy PyData.depth;omega⟩
theorem i5.sh{n:Nat}{d:D}(h:i5 n d)(hn:n<=64):SeqAt.shaped (toPy d)=true:=by
 unfold SeqAt.shaped;rw[h.ly,decide_eq_true (Nat.le_trans h.dp hn)];rfl
theorem Ig{d e:List D}:Ed (.lst d) (.lst e)=R.aI (cx (.lst d) && cx (.lst e) && SeqAt.shaped (toPy (.lst d)) && SeqAt.shaped (toPy (.lst e))) (.ok (PyData.eqv (toPy (.lst d)) (toPy (.lst e)))):=rfl
theorem Ib{d e:List D}:Ed (.tup d) (.tup e)=R.aI (cx (.tup d) && cx (.tup e) && SeqAt.shaped (toPy (.tup d)) && SeqAt.shaped (toPy (.tup e))) (.ok (PyData.eqv (toPy (.tup d)) (toPy (.tup e)))):=rfl
theorem i5.eqT{n:Nat}{ds:List D}(h:i5 n (.tup ds))(hn:n<=64):Ed (.tup ds) (.tup ds)= .ok true:=by
 rw[Ib,h.pl,h.sh hn,SeqAt.eqv_refl _ h.ly];rfl
theorem i5.Tw{n:Nat}{ds:List D}(h:i5 n (.lst ds))(hn:n<=64):Ed (.lst ds) (.lst ds)= .ok true:=by
 rw[Ig,h.pl,h.sh hn,SeqAt.eqv_refl _ h.ly];rfl
end
end L3
end
section
namespace L2
open PySem PySem.Spec PyProof.Rows
section
variable {X:Cx}
def G0:D->Bool | .cu=>true | _=>false
def Xk(d e:D):R D:=match e with | .cu=> .ok (.bl (G0 d)) | _=> .no
def Ur(d e:D):R D:=match e with | .cu=> .ok (.bl (!G0 d)) | _=> .no
theorem AL:jS X (.type "int") (fun xs H Q=>∃x n,xs=[.str x]/\PySem.intText? x=some n/\x.length<=640/\Q (.int n) H):=by
 intro pins s σ H xs us Q I r h;obtain⟨x,n,rfl,h1,h2,q⟩:=h;obtain⟨u,rfl,ru⟩:=vals1 r;obtain⟨t,rfl⟩:=ru;exact PySem.W.KIN.call_text h1 h2 ⟨.int n,H,I.tok _,⟨_,rfl⟩,q⟩
def BK:List D->R D
 | [.str x]=>R.aI (decide (x.length<=640)) (match PySem.intText? x with | some n=> .ok (.int n) | none=> .no)
 | _=> .no
theorem Hw:dG X (.type "int") BK:=dG.of AL fun B H ds d xs Q _ rs hg q=>by
 unfold BK at hg;split at hg
 .obtain⟨h1,h2⟩:=R.aN hg;split at h2
  .rename_i e;cases h2;obtain⟨x,rfl,r⟩:=rs.one;exact⟨_,_,by rw[Rep.str.mp r],e,of_decide_eq_true h1,q _ H (aH.refl H) (Rep.int.mpr rfl)⟩
  .cases h2
 .cases hg
def zC(ds:List D):R D:=match ds with | [.str _]=>BK ds | _=>cInt ds
theorem JG:dG X (.type "int") zC:=dG.or Hw LB fun a d h=>by
 unfold zC at h;split at h
 .exact .inl h
 .exact .inr h
def S7(f:FD):FD:=fun δ=>(f δ).bind fun d=>match d with | .int i=> .ok (.int (-i)) | _=> .no
def Sj(d:D)(ds:List D):R D:=match d,ds with
 | .str x,[.str y]=> .ok (.int (Txt.find x y))
 | _,_=> .no
def To(aA:List (Str × Str)):D:= .dct (aA.map fun p=>Sum.inr p.1) (aA.map fun p=> .str p.2)
def Xo(aA:List (Str × Str)):List (Key × V):=aA.map fun p=>((Sum.inr p.1:Key),V.str p.2)
def UN(d k:D):R D:=match d,k with
 | .dct ks ds, .str x=>(match (ks.zip ds).find? fun p=>decide (p.1=Sum.inr x) with | some p=> .ok p.2 | none=> .no)
 | _,_=> .no
end
end L2
namespace L3
open PySem PySem.Spec PyProof.Rows L2
section
variable {X:Cx} {cl:Ye}
def Sb(f:FX):FB:=fun δ S=>(f δ S).bind fun v S=>match v with | .d (.bl b)=> .ok b S | _=> .no
def Vt(f g:FX):FX:=fun δ S=>(Sb f δ S).bind fun b S=>if b then g δ S else .ok (.d (.bl false)) S
def Xp(f g:FX):FX:=fun δ S=>(Sb f δ S).bind fun b S=>if b then .ok (.d (.bl true)) S else g δ S
def Uz(i:Nat)(F:FZ):FZ:=fun δ S=>match pS δ i with
 | some k=>(match cY S k with | some ds=>F (δ.set i (some (.d (.lst ds)))) (S.set k .pO) | none=> .no)
 | none=> .no
end
def Flat(S:aG):Prop:=∀o∈S,∀n,we n o=true
theorem Flat.nil:Flat []:=fun o ho=>by cases ho
end L3
end
section
namespace PySem
open Sem (wp)
open AutoSeq1 (wpAny_loadPart')
section
variable {prog:Program} {w:World} {A:Around} {E:X_} {s:Shared}
end
end PySem
namespace L2
open PySem PySem.Spec PyProof.Rows
section
variable {X:Cx}
def M0(f:FD):FD:=fun δ=>(f δ).bind fun d=>match d with
 | .int j=>R.aI (decide (-(2 ^ 62)<=j/\j < 16777216)) (.ok (.tup (qN 0 j.toNat)))
 | _=> .no
end
end L2
end
section
namespace PySem
open Sem (wp)
open AutoSeq1 (wpAny_loadPart')
section
variable {prog:Program} {w:World} {A:Around} {E:X_} {s:Shared}
end
end PySem
namespace L2
open PySem PySem.Spec PyProof.Rows
def Vv(K:W.Frag)(a:Addr):It:=
 ⟨fun i H=>∃xs x,qp K H a xs/\xs[i]? =some x,fun i H v H'=>∃p x,H p=none/\v= .ref p/\(∀xs,qp K H a xs->xs[i]? =some x)/\H'=upd H p (.tup [.int i,x]),fun i H=>∃xs,qp K H a xs/\xs.length<=i⟩
section
variable {X:Cx}
def Nh(f:FD):aq->R (List D):=fun δ=>(f δ).bind fun d=>match d with | .tup ds=> .ok (wG ds) | _=> .no
end
end L2
end
section
namespace L2
open PySem PySem.Spec PyProof.Rows
section
variable {X:Cx}
abbrev Q2:D->D->R D:=Eg (fun _ j=>decide (0 < j/\j.natAbs.log2 < 9000)) fun i j=>i / j
def UL(f:aq->R (List D))(g:FD):aq->R (List D):=fun δ=>(f δ).bind fun ds=>(g δ).bind fun d=>match d with
 | .int k=>R.aI (decide (0<=k/\k < 1000000/\ds.length*k.toNat<=sizeLine)) (.ok (List.replicate k.toNat ds).flatten)
 | _=> .no
def DT(ns:List Int):List Int:=ns.mergeSort fun a b=>decide (a<=b)
def MZ:List D->R D
 | [.lst ds]=>(match ints? ds with | some ns=>R.aI (decide (ns.length < 64)) (.ok (.lst ((DT ns).map .int))) | none=> .no)
 | _=> .no
def Q0:List D->R D
 | [.lst ds]=>(match ints? ds with | some (n ::ns)=> .ok (.int (ns.foldl min n)) | _=> .no)
 | ds=>Oa ds
def Sd:List D->R D
 | [.lst ds]=>(match ints? ds with | some (n ::ns)=> .ok (.int (ns.foldl max n)) | _=> .no)
 | ds=>Ot ds
end
end L2
namespace L3
open PySem PySem.Spec PyProof.Rows L2
def KY(S:aG):V3->Option (List D)
 | .d (.lst ds)=>some ds
 | .loc k=>cY S k
 | _=>none
section
variable {X:Cx} {cl:Ye}
def Vg(fa fb:FX):FX:=fun δ S=>(fa δ S).bind fun a S1=>(fb δ S1).bind fun b S2=>match KY S2 a,KY S2 b with
 | some ds,some es=>R3.aI (decide (ds.length+es.length<=sizeLine)) (.ok (.loc S2.length) (S2++[.lst (ds++es)]))
 | _,_=> .no
def Ut(i:Nat):FZ:=fun δ S=>match pS δ i with
 | none=> .no
 | some k=>(match cY S k with | some _=> .ok (.nx δ) (S.set k (.lst [])) | none=> .no)
end
end L3
end
section
namespace L3
open PySem PySem.Spec PyProof.Rows L2
def lx(S:aG)(c k:Nat):Option (List (Str × V3)):=match S[k]? with | some (.ins c' fs)=>(if c'=c then some fs else none) | _=>none
theorem lZ{S:aG}{c k:Nat}{fs:List (Str × V3)}(h:lx S c k=some fs):S[k]? =some (.ins c fs):=by
 unfold lx at h;split at h
 .rename_i c' KA e;split at h
  .rename_i hc;cases h;rw [e,hc]
  .cases h
 .cases h
theorem zq{K:W.Frag}{v:V3}:∀{fs:List (Str × V3)} {ys:List (Str × V)},ys.map (·.1)=fs.map (·.1)->ay K ρ H (fs.map (·.2)) (ys.map (·.2))->fs.lookup f=some v->∃x,ys.lookup f=some x/\aO K ρ H v x
 | [],ys,_,_,h=>by simp at h
 | (g,w) ::fs,[],e,_,_=>by simp at e
 | (g,w) ::fs,(g',y) ::ys,e,r,h=>by
   obtain⟨e1,pY⟩:=List.cons.inj e;have e1:g'=g:=e1;subst e1;obtain⟨x,xs,ex,r1,r2⟩:=r.cq;cases ex;rw[List.lookup_cons] at h ⊢;cases hq:f==g' with
   | true=>rw [hq] at h;cases h;exact⟨y,rfl,r1⟩
   | false=>rw [hq] at h;exact zq pY r2 h
theorem vG:∀{fs:List (Str × V3)} {ys:List (Str × V)},ys.map (·.1)=fs.map (·.1)->fs.lookup f=none->ys.lookup f=none
 | [],[],_,_=>rfl
 | [],_ ::_,e,_=>by simp at e
 | _ ::_,[],e,_=>by simp at e
 | (g,w) ::fs,(g',y) ::ys,e,h=>by
   obtain⟨e1,pY⟩:=List.cons.inj e;have e1:g'=g:=e1;subst e1;rw[List.lookup_cons] at h ⊢;cases hq:f==g' with
   | true=>rw [hq] at h;cases h
   | false=>rw [hq] at h;exact vG pY h
def u6(f:Str)(v:V3):List (Str × V3)->List (Str × V3)
 | []=>[(f,v)]
 | (g,x) ::r=>if g=f then(g,v) ::r else(g,x) ::u6 f v r
theorem zl{K:W.Frag}{f:Str}{v:V3}{u:V}(rv:aO K ρ H v u):∀{fs:List (Str × V3)} {ys:List (Str × V)},ys.map (·.1)=fs.map (·.1)->ay K ρ H (fs.map (·.2)) (ys.map (·.2))->
 (kL f u ys).map (·.1)=(u6 f v fs).map (·.1)/\ay K ρ H ((u6 f v fs).map (·.2)) ((kL f u ys).map (·.2))
 | [],[],_,_=>⟨rfl,ay.cons rv ay.nil⟩
 | [],_ ::_,e,_=>by simp at e
 | _ ::_,[],e,_=>by simp at e
 | (g,w) ::fs,(g',y) ::ys,e,r=>by
   obtain⟨e1,pY⟩:=List.cons.inj e;have e1:g'=g:=e1;subst e1;obtain⟨x,xs,ex,r1,r2⟩:=r.cq;cases ex;unfold u6 kL;by_cases hg:g'=f
   .rw [if_pos hg,if_pos hg];exact⟨by rw[List.map_cons,List.map_cons,pY],ay.cons rv r2⟩
   .rw [if_neg hg,if_neg hg];obtain⟨h1,h2⟩:=zl rv pY r2;exact⟨by rw[List.map_cons,List.map_cons,h1],ay.cons r1 h2⟩
section
variable {X:Cx} {cl:Ye}
def eE(c:Nat)(f:Str)(g:FX):FX:=fun δ S=>(g δ S).bind fun v S1=>match v with
 | .loc k=>(match lx S1 c k with | some fs=>(match fs.lookup f with | some v=> .ok v S1 | none=> .no) | none=> .no)
 | _=> .no
theorem b7{c:Nat}{pos:Pos}(hC:w9 X.K (cl c))(hn:cX X.K (cl c) f)(he:PX X cl e g)(hb:attributeBase e f X.env (eval e X.env)=eval e X.env:=by rfl):PX X cl (.Attribute e f pos) (eE c f g):=⟨(JD he.1 hb).imp fun σ H Q ⟨ρ,S,δ,v,S',E,hf,q⟩=>by
 obtain⟨o,S1,h1,h2⟩:=R3.af hf;split at h2
 .rename_i k;split at h2
  .rename_i fs e1;split at h2
   .rename_i w pY;cases h2;refine⟨ρ,S,δ, .loc k,_,E,h1,fun u bA H1 p1 w1 r1=>?_⟩
    unfold aO at r1;obtain⟨a,a1,rfl⟩:=r1;obtain⟨dx,ys,ey,ek,rs⟩:=w1.ob k a _ a1 (lZ e1);obtain⟨x,hx,rx⟩:=zq ek rs pY;exact⟨a,cl c,dx,ys,x,rfl,ey,hC,hn,hx,q x bA H1 p1 w1 rx⟩
   .cases h2
  .cases h2
 .cases h2⟩
theorem w_fld{c k:Nat}{g:FX}{δ:DE}{S:aG}{Q:V3->aG->Prop}(h:W3 (g δ S) fun v S1=>∃fs w,v= .loc k/\S1[k]? =some (.ins c fs)/\fs.lookup f=some w/\Q w S1):W3 (eE c f g δ S) Q:=
 W3.bind (h.mono fun v S1 ⟨fs,w,e1,pY,e3,q⟩=>by
  subst e1;have e4:lx S1 c k=some fs:=by unfold lx;simp only[pY,if_true]
  simp only[e4,e3];exact W3.ok q)
def Q3(P:Program)(w:World)(K:W.Frag)(mg:Yd)(base:Heap)(cl:Ye)(k c:Nat)(m:Str)(n:Nat)(g:List V3->aG->R3 V3):Prop:=
 ∃(f:Addr) (fd:FuncData) (ps:List Str),w9 K (cl c)/\Meth K (cl c) m f/\iT P w K mg base t_ k f fd ps (Gg K cl (n+1) g)/\Binds K fd ps []
def pA(c:Nat)(m:Str)(g:List V3->aG->R3 V3)(fo:FX)(fs:FA):FX:=fun δ S=>(fo δ S).bind fun o S1=>match o with
 | .loc k=>(match lx S1 c k with | some ys=>(match ys.lookup m with | none=>(fs δ S1).bind fun vs S2=>g (.loc k ::vs) S2 | some _=> .no) | none=> .no)
 | _=> .no
def Du(P:Program)(w:World)(K:W.Frag)(mg:Yd)(base:Heap)(cl:Ye)(k c:Nat)(x:Str)(n:Nat)(g:List V3->aG->R3 V3):Prop:=
 ∃(f:Addr) (fd:FuncData) (ps:List Str),Mk K (cl c) f/\iT P w K mg base t_ k f fd ps (Gg K cl (n+1) g)/\mg x=some (.ref (cl c))/\Binds K fd ps []
def CA(c:Nat)(g:List V3->aG->R3 V3)(fs:FA):FX:=fun δ S=>(fs δ S).bind fun vs S1=>(g (.loc S1.length ::vs) (S1++[.ins c []])).bind fun v S2=>match v with
 | .d .cu=> .ok (.loc S1.length) S2
 | _=> .no
def vf(c:Nat)(f:Str)(fo fe:FX):FZ:=fun δ S=>(fe δ S).bind fun v S1=>(fo δ S1).bind fun o S2=>match o with
 | .loc k=>(match lx S2 c k with | some fs=>R3.aI (decide (fs.length < 1000)) (.ok (.nx δ) (S2.set k (.ins c (u6 f v fs)))) | none=> .no)
 | _=> .no
theorem qr{c:Nat}{pos pos':Pos}(hC:w9 X.K (cl c))(hn:cX X.K (cl c) f)(ho:PX X cl o fo)(he:PX X cl value fe)(hs:swapsWith value (some (.Attribute o f pos')) pos.line X.env=pure false:=by rfl) :
 PZ X cl (.Assign [.Attribute o f pos'] value pos) (vf c f fo fe):=⟨(HU ho.1 he.1 hs).imp fun D σ H ⟨ρ,S,δ,ou,S',E,hf,q⟩=>by
 obtain⟨v,S1,h1,h2⟩:=R3.af hf;obtain⟨vo,S2,h3,h4⟩:=R3.af h2;split at h4
 .rename_i k;split at h4
  .rename_i fs e1;obtain⟨hl,h5⟩:=R3.aN h4;cases h5;refine⟨ρ,S,δ,v,S1,E,h1,fun u bA H1 p1 w1 r1=>⟨bA,S1,δ, .loc k,S2,E.to p1 w1,h3,fun u2 o9 H2 p2 w2 r2=>?_⟩⟩
   unfold aO at r2;obtain⟨a,a1,rfl⟩:=r2;obtain⟨dx,ys,ey,ek,rs⟩:=w2.ob k a _ a1 (lZ e1);have hlen:ys.length=fs.length:=by have:=congrArg List.length ek;simpa using this
   obtain⟨k1,k2⟩:=zl (f:=f) (r1.pre p2) ek rs;obtain⟨w3,p3⟩:=w2.put (o:= .ins c (u6 f v fs)) (u:= .ins (cl c) dx (kL f u ys)) a1 (w2.fz k a a1 (by rw[lZ e1];intro h;cases h)) ⟨dx,_,rfl,k1,k2⟩
   exact⟨a,cl c,dx,ys,rfl,ey,hC,hn,by rw[hlen];exact of_decide_eq_true hl,q σ o9 _ (p1.trans (p2.trans p3)) (E.to (p1.trans (p2.trans p3)) w3)⟩
  .cases h4
 .cases h4⟩
theorem lC{c k:Nat}{fo fe:FX}{δ:DE}{S:aG}{QO:Ou->aG->Prop}(h:W3 (fe δ S) fun v S1=>W3 (fo δ S1) fun o S2=>∃fs,o= .loc k/\S2[k]? =some (.ins c fs)/\fs.length < 1000/\QO (.nx δ) (S2.set k (.ins c (u6 f v fs)))):W3 (vf c f fo fe δ S) QO:=
 W3.bind (h.mono fun v S1 h=>W3.bind (h.mono fun o S2 ⟨fs,e1,pY,hl,q⟩=>by
  subst e1;have e4:lx S2 c k=some fs:=by unfold lx;simp only[pY,if_true]
  simp only[e4];exact W3.wh (decide_eq_true hl) (W3.ok q)))
theorem HI{c:Nat}{g:List V3->aG->R3 V3}{fs:FA}{δ:DE}{S:aG}{Q:V3->aG->Prop}(h:W3 (fs δ S) fun vs S1=>W3 (g (.loc S1.length ::vs) (S1++[.ins c []])) fun v S2=>v= .d .cu/\Q (.loc S1.length) S2):W3 (CA c g fs δ S) Q:=
 W3.bind (h.mono fun vs S1 h=>W3.bind (h.mono fun v S2 ⟨e,q⟩=>by subst e;exact W3.ok q))
end
end L3
end
section
namespace PySem
open Sem (wp)
def Uc(t:Bool)(h:Heap)(i l:Addr)(k:Nat):Prop:=cond t (h.IsTupleIter i l k) (h.IsListIter i l k)
def UR(t:Bool)(h:Heap)(l:Addr)(xs:Array Value):Prop:=cond t (h.IsTuple l xs) (h.IsList l xs)
def DR(t:Bool):String:=cond t "tuple_iterator" "list_iterator"
section
variable {prog:Program} {w:World} {A:Around} {E:X_} {s:Shared}
end
abbrev Se(t:Bool)(h:Heap)(l1:Addr):Heap:=h.push {cls:= .type (DR t),data:= .fields #[.ref l1, .int 0 0]}
abbrev Rm(t u:Bool)(h:Heap)(l1 l2:Addr):Heap:=(Se t h l1).push {cls:= .type (DR u),data:= .fields #[.ref l2, .int 0 0]}
abbrev RD(t u:Bool)(h:Heap)(l1 l2:Addr):Heap:=(Rm t u h l1 l2).push {cls:= .type "tuple",data:= .seq #[.ref h.objs.size, .ref (Se t h l1).objs.size]}
abbrev Tb(t u:Bool)(h:Heap)(l1 l2:Addr):Heap:=(RD t u h l1 l2).push {cls:= .type "tuple",data:= .seq #[.none, .none]}
abbrev Xe(t u:Bool)(h:Heap)(l1 l2:Addr):Heap:=(Tb t u h l1 l2).push {cls:= .type "zip",data:= .fields #[.none, .bool false, .bool false, .ref (Rm t u h l1 l2).objs.size, .ref (RD t u h l1 l2).objs.size]}
end PySem
namespace L2
open PySem PySem.Spec PyProof.Rows
def Ku(t:Bool)(K:W.Frag)(H:Hp)(a:Addr)(xs:List V):Prop:=cond t (qp K H a xs) (nX K H a xs)
def WS(K:W.Frag)(t u:Bool)(a b:Addr):It:=
 ⟨fun i H=>∃xs ys x y,Ku t K H a xs/\Ku u K H b ys/\xs[i]? =some x/\ys[i]? =some y,
  fun i H v H'=>∃p x y,H p=none/\v= .ref p/\(∀xs,Ku t K H a xs->xs[i]? =some x)/\(∀ys,Ku u K H b ys->ys[i]? =some y)/\H'=upd H p (.tup [x,y]),
  fun i H=>∃xs ys,Ku t K H a xs/\Ku u K H b ys/\(xs.length<=i\/ys.length<=i)⟩
section
variable {X:Cx}
def LV(ds es:List D):List D:=(ds.zip es).map fun p=> .tup [p.1,p.2]
def seqD?:D->Option (List D)
 | .lst ds=>some ds
 | .tup ds=>some ds
 | _=>none
def RQ(f g:FD):aq->R (List D):=fun δ=>(f δ).bind fun d=>(g δ).bind fun e=>match seqD? d,seqD? e with | some ds,some es=> .ok (LV ds es) | _,_=> .no
def R1(T U:String)(f:FD):FD:=fun δ=>(f δ).bind fun d=>match d with | .dct _ _=> .no | _=> .ok (.bl (xQ (tyName d) T || xQ (tyName d) U))
def XU(lo:Int)(n:Nat):It:=⟨fun i _=>i < n,fun i H x H'=>H'=H/\x= .int (lo - i),fun i _=>n<=i⟩
def N9(lo:Int)(n:Nat):List D:=(List.range n).map fun(i:Nat)=>D.int (lo - i)
def R8(f g h:FD):aq->R (List D):=fun δ=>(f δ).bind fun d=>(g δ).bind fun e=>(h δ).bind fun k=>match d,e,k with
 | .int i, .int j, .int m=>R.aI (decide (m= -1/\ -(2 ^ 60)<=i/\i < 2 ^ 60/\ -(2 ^ 60)<=j/\j < 2 ^ 60)) (.ok (N9 i (i - j).toNat)) | _,_,_=> .no
def bls?:List D->Option (List Bool)
 | []=>some []
 | .bl b ::ds=>(bls? ds).map (b ::·)
 | _ ::_=>none
theorem vW{K:W.Frag}{B:List Addr}:∀{ds:List D} {xs:List V} {bs:List Bool},az K B H ds xs->bls? ds=some bs->xs=bs.map V.bl
 | [],xs,bs,r,h=>by unfold az at r;subst r;cases h;rfl
 | d ::ds,xs,bs,r,h=>by
   obtain⟨x,q,rfl,r1,r2⟩:=r.cq;cases d with
   | bl b=>
     have h:(bls? ds).map (b ::·)=some bs:=h
     cases e:bls? ds with
     | none=>rw [e] at h;cases h
     | some cs=>
       rw[e] at h;cases h;rw[Rep.bl.mp r1,vW r2 e];rfl
   | _=>cases h
theorem zH:∀bs:List Bool,bls? (bs.map D.bl)=some bs
 | []=>rfl
 | b ::bs=>by show(bls? (bs.map D.bl)).map (b ::·)=_;rw [zH bs];rfl
theorem r_:∀{bs:List Bool} {us:List Value},Vals (bs.map V.bl) us->us=bs.map Value.bool
 | [],us,h=>by cases h;rfl
 | b ::bs,us,h=>by
   cases h with
   | cons r t=>rw [r_ t,show _=Value.bool b from r];rfl
theorem range_all(bs:List Bool):(List.range bs.length).all (fun i=>bs.getD i false)=bs.all id:=by
 rw[Bool.eq_iff_iff];simp only[List.all_eq_true,List.mem_range,id];constructor
 .intro h b hb;obtain⟨i,hi,rfl⟩:=List.getElem_of_mem hb;have:=h i hi;rw[List.getD_eq_getElem?_getD,List.getElem?_eq_getElem hi] at this;exact this
 .intro h i hi;rw[List.getD_eq_getElem?_getD,List.getElem?_eq_getElem hi];exact h _ (List.getElem_mem hi)
def B4:List D->R D
 | [.lst ds]=>(match bls? ds with | some bs=> .ok (.bl (bs.all id)) | none=> .no)
 | _=> .no
def TL:List D->R D
 | [.lst ds]=>(match bls? ds with | some bs=> .ok (.bl (bs.any id)) | none=> .no)
 | _=> .no
theorem K7{bs:List Bool}{i:Nat}{v:Value}(h:((bs.map Value.bool).toArray)[i]? =some v):v= .bool (bs.getD i false):=by
 rw[List.getElem?_toArray,List.getElem?_map] at h;rw[List.getD_eq_getElem?_getD];cases e:bs[i]? with
 | none=>rw [e] at h;cases h
 | some b=>rw [e] at h;cases h;rfl
theorem GZ(hc:X.calm=true):dG X (.builtin "all") B4:=by
 intro pins s σ H B ds d xs us I hb rx rs hg;unfold B4 at hg;split at hg
 .split at hg
  .rename_i es bs e;cases hg;obtain⟨x,rfl,r⟩:=rs.one;obtain⟨a,ys,rfl,l,r⟩:=Rep.lst.mp r;obtain⟨u,rfl,ru⟩:=vals1 rx;cases ru;obtain⟨its,n,rv,e1,hz⟩:=I.LU l;rw[vW r e] at rv;obtain rfl:=r_ rv;have hl:s.heap.IsList a (bs.map Value.bool).toArray:=⟨_,e1,rfl,n,rfl⟩;have n4:a < s.heap.objs.size:=Heap.lt_size e1;refine call_all_walk (wpAny_pyIter_list hl ?_);refine⟨_,_,_,_,_,_,fun i=>bs.getD i false,rfl,Walks.list (A:=X.A.in1) (I.ok.hd hc) _ a (Nat.ne_of_lt n4) _,⟨⟨_,Heap.get?_push_size _ rfl,rfl,rfl⟩,hl.push _⟩,?_,fun h' tk hk=>?_⟩
   .intro i v s Q E hP hQ;rw[K7 hP];exact wpAny_truthy_bool hQ
   .refine⟨.bl (bs.all id),H,I.kept (old_kept hk),?_,aH.refl H,Rep.bl.mpr rfl⟩;show Value.bool _=Value.bool _;rw[<-range_all];simp
  .cases hg
 .cases hg
end
end L2
end
section
namespace L2
open PySem PySem.Spec PyProof.Rows
section
variable {X:Cx}
def Xs:FS:=fun _=> .no
def RF(f:FD):FS:=fun δ=>(f δ).bind fun _=> .ok (.nx δ)
end
end L2
namespace L3
open PySem PySem.Spec PyProof.Rows L2
section
variable {X:Cx} {cl:Ye}
def W4:FZ:=fun _ _=> .no
def Q4(f:aq->R (List D)):FX:=fun δ S=>(R3.of (f (Bz S δ)) S).bind fun ds S=>R3.aI (wI ds) (.ok (.loc S.length) (S++[.lst ds]))
def Tj(i:Nat)(f:FX):FZ:=fun δ S=>match pS δ i with
 | none=> .no
 | some k=>match cY S k with
   | none=> .no
   | some _=>(f δ S).bind fun v S1=>match v with
     | .d (.lst es)=>(match cY S1 k with
       | some ds=>R3.aI (decide (ds.length+es.length<=sizeLine)) (.ok (.nx δ) (S1.set k (.lst (ds++es))))
       | none=> .no)
     | _=> .no
end
end L3
end
section
namespace L2
open PySem PySem.Spec PyProof.Rows
section
variable {X:Cx}
def RN(d e:D):R D:=match d,e with
 | .tup a, .tup b=>R.aI (decide (a.length+b.length<=sizeLine)) (.ok (.tup (a++b)))
 | d,e=>bO d e
def MY(f:FD):aq->R (List D):=fun δ=>(f δ).bind fun d=>match d with | .lst ds=> .ok (wG ds) | .tup ds=> .ok (wG ds) | _=> .no
def XH(K:W.Frag)(a:Addr)(n:Nat):It:=
 ⟨fun i H=>∃xs x,nX K H a xs/\xs.length=n/\i < n/\xs[n - 1 - i]? =some x,fun i H v H'=>H'=H/\∀xs,nX K H a xs->xs[n - 1 - i]? =some v,fun i H=>(∃xs,nX K H a xs)/\i=n⟩
def QX(f:FD):aq->R (List D):=fun δ=>(f δ).bind fun d=>match d with | .lst ds=> .ok ds.reverse | _=> .no
def qS(K:W.Frag)(C:Addr)(m qual:Str)(st:Stmt):Prop:=∃f fd,xl K m qual st f fd/\Meth K C m f
def IK(K:W.Frag)(C:Addr)(m qual:Str)(st:Stmt):Prop:=∃f fd,xl K m qual st f fd/\Mk K C f
end
end L2
namespace L3
open PySem PySem.Spec PyProof.Rows L2
section
variable {X:Cx} {cl:Ye}
end
end L3
end
section
namespace L2
open PySem PySem.Spec PyProof.Rows
section
variable {X:Cx}
def Tq(f:FD):aq->R (List D):=fun δ=>(f δ).bind fun d=>match d with | .int j=>R.aI (decide (-(2 ^ 62)<=j/\j < 16777216)) (.ok (qN 0 j.toNat)) | _=> .no
def UD(f:FD):FD:=fun δ=>(f δ).bind fun d=>match d with | .lst ds=> .ok (.lst ds.reverse) | _=> .no
end
end L2
end
section
namespace L2
open PySem PySem.Spec PyProof.Rows
section
variable {X:Cx}
def Uh(K:W.Frag)(n:Nat)(t:GV):TG:=fun v σ H Q=>∃a xs,v= .ref a/\nX K H a xs/\xs.length=n/\t xs σ H Q
end
end L2
namespace L3
open PySem PySem.Spec PyProof.Rows L2
section
variable {X:Cx} {cl:Ye}
def XM(n:Nat)(t:Jw):FG:=fun d δ=>match d with
 | .d (.lst ds)=>if ds.length=n then t (ds.map .d) δ else none
 | .lst vs=>if vs.length=n then t vs δ else none
 | _=>none
def TV(f g:FX):FA:=fun δ S=>(aR f (aR g dh) δ S).bind fun vs S1=>match vs with
 | [.d d, .d e]=>(match seqD? d,seqD? e with | some ds,some es=> .ok ((LV ds es).map .d) S1 | _,_=> .no)
 | _=> .no
def JN(S:aG):Prop:=∀o∈S,we S.length o=true
theorem Flat.Oe{S:aG}(h:Flat S):JN S:=fun o ho=>h o ho _
theorem Li{N:List Str}{vs:List V3}{S:aG}{QV:V3->aG->Prop}(h:W3 (tm N F vs S) fun v S1=>(∀o∈S1.take S.length,we S.length o=true)/\mM S.length v=true/\∃d,res S1 v=some d/\QV (.d d) (S1.take S.length)):W3 (xh N F vs S) QV:=
 W3.bind (h.mono fun v S1 ⟨hl,hg,d,e,q⟩=>by
  rw[e];exact W3.wh (by rw[List.all_eq_true.mpr hl,hg];rfl) (W3.ok q))
theorem Hd{N:List Str}{vs:List V3}{S:aG}{QV:V3->aG->Prop}(hS:JN S)(h:W3 (tm N F vs S) fun v S1=>mM S.length v=true/\(∃T,S1=S++T)/\∃d,res S1 v=some d/\QV (.d d) S):W3 (xh N F vs S) QV:=
 Li (h.mono fun v S1 ⟨hg,⟨T,e1⟩,d,e,q⟩=>by
  subst e1;rw[List.take_append_of_le_length (Nat.le_refl _),List.take_length];exact⟨hS,hg,d,e,q⟩)
end
end L3
end
section
namespace L2
open PySem PySem.Spec PyProof.Rows
section
variable {X:Cx}
def ois?:List D->Option (List (Option Int))
 | []=>some []
 | .int i ::ds=>(ois? ds).map (some i ::·)
 | .cu ::ds=>(ois? ds).map (none ::·)
 | _ ::_=>none
def Xg:Option Int->V | some i=> .int i | none=> .cu
def TZ(d e:D):R Bool:=match d,e with
 | .cu, .lst ds=>(match ois? ds with | some ss=> .ok (ss.any (·.isNone)) | none=> .no)
 | _,_=> .no
def UY(d e:D):R D:=(TZ d e).bind fun b=> .ok (.bl b)
end
end L2
end
section
namespace L2
open PySem PySem.Spec PyProof.Rows
section
variable {X:Cx}
def NZ(d:D)(ds:List D):R D:=match d,ds with
 | .lst es,[.int k]=>(match ints? es with | some ss=> .ok (.int (ss.count k:Nat)) | none=> .no)
 | _,_=> .no
end
end L2
end
section
namespace L2
open PySem PySem.Spec PyProof.Rows
section
variable {X:Cx}
abbrev T_:D->D->R D:=Eg (fun i j=>decide (0<=j/\j < 1000/\ -1000 < i/\i < 1000)) fun i j=>i*2 ^ j.toNat
def Si(d e:D):R D:=match d,e with | .bl a, .bl b=> .ok (.bl (a !=b)) | _,_=> .no
end
end L2
namespace L3
open PySem PySem.Spec PyProof.Rows L2
section
variable {X:Cx} {cl:Ye}
def mD(fo f:FX):FZ:=fun δ S=>(fo δ S).bind fun o S0=>match o with
 | .loc k=>(match cY S0 k with
   | none=> .no
   | some _=>(f δ S0).bind fun v S1=>match v with
     | .d d=>(match cY S1 k with | some ds=>R3.aI (decide (ds.length < sizeLine)) (.ok (.nx δ) (S1.set k (.lst (ds++[d])))) | none=> .no)
     | _=> .no)
 | _=> .no
theorem ER{o e:Expr}{fo f:FX}{apos bx pos:Pos}(ho:PX X cl o fo)(he:PX X cl e f)
 (hs:starEach [e] X.env=(false,eval e X.env) ::starEach [] X.env:=by rfl) (i3:(apos.endLine==bx.line)=true:=by rfl)
 (mm:((backTo bx (starEach [e] X.env)).all (fun x=>!x.1) && (backToKw bx (keywordEach [] X.env)).all (fun x=>x.1.isSome)
   && decide (([e]:List Expr).length+([]:List Keyword).length+(if([]:List Keyword).isEmpty then 0 else 1) < 30))=true:=by rfl)
 (D4:swapsWith (.Call (.Attribute o "append" apos) [e] [] bx) none pos.line X.env=pure false:=by rfl)
 (i0:attributeBase o "append" X.env (eval o X.env)=eval o X.env:=by rfl) :
 PZ X cl (.Expr (.Call (.Attribute o "append" apos) [e] [] bx) pos) (mD fo f):=by
 refine⟨(uK (BF (X:=X) PySem.F.plainAttrs_list PySem.F.slot_list_append PySem.F.type_list_append pZ ho.1 (fZ he.1 lW hs) i0 mm i3 hs) D4).imp fun D σ H ⟨ρ,S,δ,oo,S',E,hf,q⟩=>?_⟩
 unfold mD at hf;obtain⟨vo,S0,g1,g2⟩:=R3.af hf;split at g2
 .rename_i k;split at g2
  .cases g2
  .rename_i DZ h0;obtain⟨v,S1,h1,h2⟩:=R3.af g2;split at h2
   .rename_i d;split at h2
    .rename_i ds h3;obtain⟨hl,h4⟩:=R3.aN h2;cases h4;refine⟨ρ,S,δ, .loc k,S0,E,g1,fun u O6 H0 p0 w0 r0=>?_⟩
     unfold aO at r0;obtain⟨a,a1,rfl⟩:=r0;obtain⟨Qv,x0,_⟩:=w0.ob k a _ a1 (g9 h0);refine⟨.inl ⟨rfl,Qv,nX.of x0⟩,⟨O6,S0,δ, .d d,S1,E.to p0 w0,h1,fun y bA H1 p1 w1 r1=>?_⟩⟩
     have b1:=p1.ext k a a1;obtain⟨xs,x1,x2⟩:=w1.ob k a _ b1 (g9 h3);refine⟨a,xs,y,rfl,rfl,x1,by rw[<-x2.length];exact of_decide_eq_true hl,?_⟩
     unfold aO at r1;obtain⟨w2,p2⟩:=w1.put (o:= .lst (ds++[d])) (u:= .lst (xs++[y])) b1 (w1.fz k a b1 (by rw[g9 h3];intro h;cases h)) ⟨xs++[y],rfl,x2.append (az.cons r1 az.nil)⟩
     exact q σ bA _ (p0.trans (p1.trans p2)) (E.to (p0.trans (p1.trans p2)) w2)
    .cases h2
   .cases h2
 .cases g2
theorem JE{fo f:FX}{δ:DE}{S:aG}{k:Nat}{QO:Ou->aG->Prop}(h:W3 (fo δ S) fun o S0=>o= .loc k/\(∃ds,S0[k]? =some (.lst ds))/\W3 (f δ S0) fun v S1=>∃d ds,v= .d d/\S1[k]? =some (.lst ds)/\ds.length < sizeLine/\QO (.nx δ) (S1.set k (.lst (ds++[d])))):W3 (mD fo f δ S) QO:=by
 unfold mD;refine W3.bind (h.mono fun o S0 ⟨e,⟨DZ,h0⟩,h⟩=>?_)
 subst e;have e0:cY S0 k=some DZ:=by unfold cY;rw [h0]
 simp only[e0];refine W3.bind (h.mono fun v S1 ⟨d,ds,e1,pY,hl,q⟩=>?_)
 subst e1;have e3:cY S1 k=some ds:=by unfold cY;rw [pY]
 simp only[e3];exact W3.wh (decide_eq_true hl) (W3.ok q)
def Rz(f:FX):FA:=fun δ S=>(aR f dh δ S).bind fun vs S1=>match vs with
 | [.d (.lst ds)]=> .ok ((wG ds).map .d) S1
 | _=> .no
end
end L3
end
section
namespace L2
open PySem PySem.Spec PyProof.Rows
section
variable {X:Cx}
end
end L2
end
section
namespace L3
open PySem PySem.Spec PyProof.Rows L2
section
variable {cl:Ye}
def N_(it:FA)(t:FG)(c:FB)(f:FX)(own:List Str)(kp:List Nat):FX:=fun δ S=>(it δ S).bind fun vs S1=>R3.aI (decide (vs.length<=sizeLine)) ((mX t c f (om own kp δ) vs S1).bind fun ys S2=>match qf ys with | some ds=> .ok (.loc S2.length) (S2++[.lst ds]) | none=> .no)
end
section
variable {X:Cx} {cl:Ye}
end
end L3
end
section
namespace L3
open PySem PySem.Spec PyProof.Rows L2
section
variable {X:Cx} {cl:Ye}
def ON(g:List D->R D)(fs:FA):FX:=fun δ S=>(fs δ S).bind fun vs S1=>match vO S1 vs with
 | some ds=>(R3.of (g ds) S1).bind fun d S=>R3.aI (xA d) (.ok (.d d) S)
 | none=> .no
end
end L3
end
section
namespace L2
open PySem PySem.Spec PyProof.Rows
section
variable {X:Cx}
def U1(f:FD):FD:=fun δ=>(f δ).bind fun d=>match d with | .int i=> .ok (.int (-i - 1)) | _=> .no
def U2(d:D)(lo hi:Option Int):R D:=match d with
 | .tup ds=>R.aI (decide (¬(HT.rm ds.length 0 lo=0/\HT.rm ds.length ds.length hi=ds.length))) (.ok (.tup (cutD ds lo hi)))
 | _=> .no
def Tu(f:FD)(fl fh:FO):FD:=fun δ=>(f δ).bind fun d=>(fl δ).bind fun lo=>(fh δ).bind fun hi=>U2 d lo hi
end
end L2
namespace L3
open PySem PySem.Spec PyProof.Rows L2
section
variable {X:Cx} {cl:Ye}
structure WV (X:Cx) (cl:Ye) (st:List Stmt) (F:FZ):Prop where
 go:uZ X st (fun D σ H=>D.ct=D.nx/\sX X.K cl F D σ H)
end
end L3
end
section
namespace L2
open PySem PySem.Spec PyProof.Rows
end L2
namespace L3
open PySem PySem.Spec PyProof.Rows L2
section
variable {X:Cx} {cl:Ye}
def Vz(i:Nat)(f:FX):FX:=fun δ S=>match pS δ i with
 | none=> .no
 | some k=>match cY S k with
   | none=> .no
   | some _=>(f δ S).bind fun v S1=>match v with
     | .d (.int j)=>(match cY S1 k with
       | some ds=>(match DK ds.length j with
         | some p=>(match ds[p]? with | some d=>R3.aI (decide (-(2 ^ 63)<=j/\j < 2 ^ 63)) (.ok (.d d) (S1.set k (.lst (ds.eraseIdx p)))) | none=> .no)
         | none=> .no)
       | none=> .no)
     | _=> .no
end
end L3
end
section
namespace L3
open PySem PySem.Spec PyProof.Rows L2
section
variable {X:Cx} {cl:Ye}
def Ua(f:FX)(fl fh:Kw):FX:=fun δ S=>(f δ S).bind fun v S1=>(fl δ S1).bind fun lo S2=>(fh δ S2).bind fun hi S3=>match v with
 | .lst vs=> .ok (.lst (L2.cutD vs lo hi)) S3
 | _=> .no
end
end L3
end
section
namespace L2
open PySem PySem.Spec PyProof.Rows
section
variable {X:Cx}
def OK:List V->Hp->VK->Prop:=fun xs H Q=>∃a aA ns,xs=[V.ref a]/\H a=some (.dK aA)/\aA.map (·.1)=ns.map Sum.inl/\ns.length < 64/\∀p,H p=none->Q (.ref p) (upd H p (.lst ((DT ns).map V.int)))
end
end L2
end
section
namespace L3
open PySem PySem.Spec PyProof.Rows L2
section
variable {X:Cx} {cl:Ye}
def oM(aA:List (Key × D))(k:Key)(d:D):List (Key × D):=if(aA.any fun kv=>decide (kv.1=k))=true then aA.map (fun kv=>if kv.1=k then(kv.1,d) else kv) else aA++[(k,d)]
def pK(S:aG)(k:Nat):Option (List (Key × D)):=match S[k]? with | some (.dct aA)=>some aA | _=>none
theorem rW{S:aG}{k:Nat}{aA:List (Key × D)}(h:pK S k=some aA):S[k]? =some (.dct aA):=by
 unfold pK at h;split at h
 .rename_i e;cases h;exact e
 .cases h
theorem zm{α β:Type}(k:Key):∀{a:List (Key × α)} {b:List (Key × β)},a.map (·.1)=b.map (·.1)->(a.any fun kv=>decide (kv.1=k))=b.any fun kv=>decide (kv.1=k)
 | [],[],_=>rfl
 | [],_ ::_,h=>by simp at h
 | _ ::_,[],h=>by simp at h
 | x ::a,y ::b,h=>by
   rw[List.map_cons,List.map_cons] at h;obtain⟨h1,h2⟩:=List.cons.inj h;rw[List.any_cons,List.any_cons,zm k h2,h1]
theorem zk{K:W.Frag}{B:List Addr}{k:Key}{d:D}{v:V}(rv:Rep K B H d v):∀{aA:List (Key × D)} {ys:List (Key × V)},ys.map (·.1)=aA.map (·.1)->az K B H (aA.map (·.2)) (ys.map (·.2))->
 (ys.map fun kv=>if kv.1=k then(kv.1,v) else kv).map (·.1)=(aA.map fun kv=>if kv.1=k then(kv.1,d) else kv).map (·.1)/\az K B H ((aA.map fun kv=>if kv.1=k then(kv.1,d) else kv).map (·.2)) ((ys.map fun kv=>if kv.1=k then(kv.1,v) else kv).map (·.2))
 | [],[],_,_=>⟨rfl,az.nil⟩
 | [],_ ::_,h,_=>by simp at h
 | _ ::_,[],h,_=>by simp at h
 | (k1,d1) ::aA,(k2,v2) ::ys,h,r=>by
   obtain⟨h1,h2⟩:=List.cons.inj h;have h1:k2=k1:=h1;subst h1;obtain⟨x,r',e,q1,q2⟩:=az.cq r;cases e;obtain⟨i1,i2⟩:=zk rv h2 q2;simp only[List.map_cons];by_cases hk:k2=k
   .rw [if_pos hk,if_pos hk];exact⟨by rw[i1],az.cons rv i2⟩
   .rw [if_neg hk,if_neg hk];exact⟨by rw[i1],az.cons q1 i2⟩
theorem Mt{K:W.Frag}{B:List Addr}{k:Key}{d:D}{v:V}(rv:Rep K B H d v){aA:List (Key × D)}{ys:List (Key × V)}(h:ys.map (·.1)=aA.map (·.1))(r:az K B H (aA.map (·.2)) (ys.map (·.2))) :
 (putK ys k v).map (·.1)=(oM aA k d).map (·.1)/\az K B H ((oM aA k d).map (·.2)) ((putK ys k v).map (·.2)):=by
 unfold putK oM;rw[zm k h];split
 .exact zk rv h r
 .rw [List.map_append,List.map_append,List.map_append,List.map_append,h];exact⟨rfl,r.append (az.cons rv az.nil)⟩
def wz:FX:=fun δ S=> .ok (.loc S.length) (S++[.dct []])
theorem uG:PX X cl (.Dict [] [] pos) wz:=⟨DV.imp fun σ H Q ⟨ρ,S,δ,v,S',E,hf,q⟩=>by
 cases hf;intro p hp;obtain⟨w,pr⟩:=E.sw.new (a:=p) (o:= .dct []) (bz (o:= .dK []) hp) hp ⟨[],a_,rfl,az.nil⟩;exact q _ _ _ pr w (by unfold aO;exact⟨p,by show(ρ.r++[p])[_]? =_;rw [<-E.sw.len,List.getElem?_append_right (by omega),Nat.sub_self];rfl,rfl⟩)⟩
def Q6(fo fi fe:FX):FZ:=fun δ S=>(fe δ S).bind fun v S1=>(fo δ S1).bind fun o S2=>(fi δ S2).bind fun j S3=>match v,o,j with
 | .d d, .loc k, .d (.int n)=>(match pK S3 k with | some aA=>R3.aI (decide (aA.length < sizeLine)) (.ok (.nx δ) (S3.set k (.dct (oM aA (Sum.inl n) d)))) | none=> .no)
 | _,_,_=> .no
def T8(fa fo:FX):FX:=fun δ S=>(fa δ S).bind fun j S1=>(fo δ S1).bind fun o S2=>match j,o with
 | .d (.int n), .loc k=>(match pK S2 k with | some aA=> .ok (.d (.bl (aA.any fun kv=>decide (kv.1=Sum.inl n)))) S2 | none=> .no)
 | _,_=> .no
def intK?:List Key->Option (List Int)
 | []=>some []
 | .inl n ::ks=>(intK? ks).map (n ::·)
 | .inr _ ::_=>none
def NH(f:FX):FX:=fun δ S=>(f δ S).bind fun o S1=>match o with
 | .loc k=>(match pK S1 k with
   | some aA=>(match intK? (aA.map (·.1)) with | some ns=>R3.aI (decide (ns.length < 64)) (.ok (.d (.lst ((DT ns).map .int))) S1) | none=> .no)
   | none=> .no)
 | _=> .no
theorem xy{δ:DE}{S:aG}{QV:V3->aG->Prop}(h:QV (.loc S.length) (S++[.dct []])):W3 (wz δ S) QV:=W3.ok h
end
end L3
end
section
namespace L2
open PySem PySem.Spec PyProof.Rows
section
variable {X:Cx}
def Na:V->List V->Hp->VK->Prop:=fun x vs H Q=>∃(l:Addr) (xs:List V) (j:Int) (i:Nat) (y:V),x= .ref l/\vs=[.int j,y]/\H l=some (.lst xs)/\j=i/\i<=xs.length/\xs.length < sizeLine/\Q .cu (upd H l (.lst (xs.take i++y ::xs.drop i)))
end
end L2
namespace L3
open PySem PySem.Spec PyProof.Rows L2
section
variable {X:Cx} {cl:Ye}
def T7(i:Nat)(f g:FX):FZ:=fun δ S=>match pS δ i with
 | none=> .no
 | some k=>match cY S k with
   | none=> .no
   | some _=>(f δ S).bind fun v S1=>match v with
     | .d (.int j)=>(g δ S1).bind fun w S2=>(match w with
       | .d d=>(match cY S2 k with
         | some ds=>R3.aI (decide (0<=j/\j.toNat<=ds.length/\ds.length < sizeLine)) (.ok (.nx δ) (S2.set k (.lst (ds.take j.toNat++d ::ds.drop j.toNat))))
         | none=> .no)
       | _=> .no)
     | _=> .no
end
end L3
end
section
namespace L3
open PySem PySem.Spec PyProof.Rows L2
section
variable {X:Cx} {cl:Ye}
structure W2 (X:Cx) (pos:Pos) (keys:List (Option Expr)) (values:List Expr) (ks:List Str) (g:aq->R (List D)):Prop where
 h:∃KG,U5 X pos keys values KG/\∀(σ:L2.St) (H:Hp) (Q:List (V × V)->Hp->Prop),(∃Z B δ ds,i9 X.K Z B H σ δ/\g δ= .ok ds/\∀vs H',aH H H'->az X.K B H' ds vs->Q ((ks.zip vs).map fun p=>(V.str p.1,p.2)) H')->vj KG σ H Q
def IY(ks:List Str)(ns:List Int):List (Key × D):=(ks.zip ns).foldl (fun acc p=>oM acc (Sum.inr p.1) (.int p.2)) []
def O0(ks:List Str)(g:aq->R (List D)):FX:=fun δ S=>(R3.of (g (down δ)) S).bind fun ds S=>match ints? ds with
 | some ns=>R3.aI (decide (ns.length=ks.length/\ks.length<=15)) (.ok (.loc S.length) (S++[.dct (IY ks ns)]))
 | none=> .no
def Oj(aA:List (Key × D))(k:Key):Option D:=(aA.find? fun kv=>decide (kv.1=k)).map (·.2)
def Ra(i:Nat)(f g:FD):FX:=fun δ S=>match pS δ i with
 | none=> .no
 | some k=>match pK S k with
   | none=> .no
   | some aA=>(R3.of (f (down δ)) S).bind fun kd S=>(R3.of (g (down δ)) S).bind fun d S=>match kd with
     | .str x=> .ok (.d ((Oj aA (Sum.inr x)).getD d)) S
     | _=> .no
end
end L3
end
section
namespace L2
open PySem PySem.Spec PyProof.Rows
section
variable {X:Cx}
def Rl:List D->R D
 | [.tup ds]=>(match ints? ds with | some ns=> .ok (.int ns.sum) | none=> .no)
 | ds=>Nu ds
end
end L2
end
section
namespace L2
open PySem PySem.Spec PyProof.Rows
section
variable {X:Cx}
def RW(d e:D):R D:=match d,e with
 | .tup a, .int k=>R.aI (decide (2<=k/\k < 1000/\a≠[]/\a.length*k.toNat<=sizeLine)) (.ok (.tup (List.replicate k.toNat a).flatten))
 | d,e=>nV d e
end
end L2
end
section
namespace L2
open PySem PySem.Spec PyProof.Rows
def vb(P:Program)(w:World):Ba:=fun outer H s E e s'=>
 ∃(a:Addr) (B:Heap) (cls a0:Value) (H':Hp),e= .ref a/\s'.os=s.os/\AllBare s'.gens/\Un (oP outer) [] H H' s.heap s'.heap/\mO P w H' s'.heap/\Heap.FlyingW B outer a cls a0 s'.heap/\
  (∀b o,s'.heap.get? b=some o->b ∉ oP outer->((∃u,s.heap.get? b=some u)\/∃u,H' b=some u)->B.get? b=some o)/\E cls none H'
section
variable {X:Cx} {pins:X9} {σ:St} {H1 H':Hp} {s1 s':Shared} {B KI:Heap} {a:Addr} {cls a0:Value} {E:XK}
theorem vm{H:Hp}{h:Heap}{b:Addr}{o:HO}(k:mO P w H h)(e:H b=some o):∃u,h.get? b=some u:=by
 have hx:=k b o e
 induction o with
 | lst xs=>obtain⟨_,_,_,_,e⟩:=hx;exact⟨_,e⟩
 | tup xs=>obtain⟨_,_,_,o,e,_⟩:=hx;exact⟨_,e⟩
 | dK aA=>obtain⟨_,_,_,_,o,_,_,e,_⟩:=hx;exact⟨_,e⟩
 | dT aA=>obtain⟨_,_,_,_,o,_,_,e,_⟩:=hx;exact⟨_,e⟩
 | set S n=>obtain⟨o,_,_,_,e,_⟩:=hx;exact⟨_,e⟩
 | ins C dx fs=>obtain⟨_,_,_,e,_⟩:=hx;exact⟨_,e⟩
 | own y=>exact hx
 | xd fs=>obtain⟨_,⟨o,_,_,e,_⟩,_⟩:=hx;exact⟨_,e⟩
 | rng lo hi=>obtain⟨_,_,_,e⟩:=hx;exact⟨_,e⟩
 | pO o u _=>exact⟨_,hx.1⟩
 | tbl ps=>exact⟨_,hx⟩
 | met f x=>exact⟨_,hx⟩
 | ext φ=>exact hx.2.1
theorem CH(I:Inv X pins σ H1 s1)(yA:X.stack=X.env ::X.outer)(hf:X.env.frame=some X.env.locals)(hex:X.ex=[])(os:s'.os=s1.os)(bare:AllBare s'.gens)(un:Un (oP X.stack) [] H1 H' s1.heap s'.heap)(hok:mO X.prog X.w H' s'.heap)
 (vy:∀b o,s'.heap.get? b=some o->b ∉ oP X.stack->((∃u,s1.heap.get? b=some u)\/∃u,H' b=some u)->B.get? b=some o) (fl:Heap.FlyingW B X.outer a cls a0 KI) (up:s'.heap.UpToSlots KI) (e:E cls none H') :
 vb X.prog X.w X.outer X.H₀ X.s₀ E (.ref a) {s' with heap:=KI}:=by
 have Eo:∀b,b∈oP X.stack↔b=X.env.locals\/b∈oP X.outer:=fun b=>by
  rw[yA];unfold oP;rw [List.filterMap_cons,hf];exact List.mem_cons
 have hfree:∀b,b∈oP X.stack->H' b=none:=fun b hb=>by
  obtain⟨_,o,ho,_⟩:=I.stack.mem hb;exact un.free b o ho (I.nS b hb) (by simp)
 have old:∀b o,X.s₀.heap.get? b=some o->b≠X.env.locals:=fun b o q=>Nat.ne_of_lt (Nat.lt_of_lt_of_le (Heap.lt_size q) I.ok.above)
 have thr:∀b o,X.s₀.heap.get? b=some o->∃u,s1.heap.get? b=some u:=fun b o q=>I.base.there b o q (by rw[hex];simp)
 have thr2:∀b o,s1.heap.get? b=some o->∃u,s'.heap.get? b=some u:=fun b o q=>un.there b o q (by simp)
 have stB:∀b o,B.get? b=some o->KI.get? b=some o:=fl.1;have Eb:∀b o,H' b=some o->∀u,s'.heap.get? b=some u->KI.get? b=some u:=fun b o q u hu=>stB b u (vy b u hu (fun hb=>by rw[hfree b hb] at q;cases q) (.inr ⟨o,q⟩))
 refine⟨a,B,cls,a0,H',rfl,os.trans I.os,bare,⟨fun b o q n hb _=>?_,fun b o q n hb _=>?_,fun b o q n _=>?_,fun b o q _=>?_,fun b xs q=>un.tups b xs (I.base.tups b xs q),fun b o u q=>un.frzs b o u (I.base.frzs b o u q),fun b ps q=>?_⟩,fun b o q=>?_,fl,fun b o q hb Nq=>?_,e⟩
 .have h1:=I.base.keep b o q n hb (by rw[hex];simp)
  have n1:=I.base.free b o q n (by rw[hex];simp)
  have rp:b ∉ oP X.stack:=fun z=>((Eo b).mp z).elim (old b o q) hb
  have h2:=un.keep b o h1 n1 rp (by simp)
  exact stB b o (vy b o h2 rp (.inl ⟨o,h1⟩))
 .obtain⟨sl,h1⟩:=I.base.slot b o q n hb (by rw[hex];simp)
  have n1:=I.base.free b o q n (by rw[hex];simp)
  obtain⟨Qe,h2⟩:=un.slot b _ h1 n1 ((Eo b).mpr (.inr hb)) (by simp)
  obtain⟨_,o',qy,hd⟩:=I.ok.pf.mem hb;rw[q] at qy;cases qy;obtain⟨J_,h3⟩:=up b _ h2 hd;exact⟨J_,h3⟩
 .obtain⟨u,h1⟩:=thr b o q;exact un.free b u h1 (I.base.free b o q n (by rw[hex];simp)) (by simp)
 .obtain⟨u,h1⟩:=thr b o q;obtain⟨u2,h2⟩:=thr2 b u h1;by_cases hb:b∈oP X.outer
  .obtain⟨_,o',qy,hd⟩:=I.stack.mem ((Eo b).mpr (.inr hb));obtain⟨sl,h3⟩:=un.slot b o' qy (I.nS b ((Eo b).mpr (.inr hb))) ((Eo b).mpr (.inr hb)) (by simp)
   obtain⟨J_,h4⟩:=up b _ h3 hd;exact⟨_,h4⟩
  .exact⟨u2,stB b u2 (vy b u2 h2 (fun z=>((Eo b).mp z).elim (old b o q) hb) (.inl ⟨u,h1⟩))⟩
 .obtain⟨m1,e1⟩:=I.base.tbls b ps q;obtain⟨m2,e2⟩:=un.tbls b _ e1;exact⟨m1++m2,by rw[e2,Array.append_assoc]⟩
 .refine(hok b o q).wC (fun c u hc hu=>?_) (fun c z=>z) (fun c xs z=>z)
  rcases hc with rfl | hc
  .exact Eb c o q u hu
  .exact Eb c _ hc u hu
 .have rp:b≠X.env.locals:=fun z=>by
   subst z;rcases Nq with⟨u,hu⟩ | ⟨u,hu⟩
   .exact old _ u hu rfl
   .rw [hfree _ ((Eo _).mpr (.inl rfl))] at hu;cases hu
  have hb2:b ∉ oP X.stack:=fun z=>((Eo b).mp z).elim rp hb
  have:(∃u,s1.heap.get? b=some u)\/∃u,H' b=some u:=Nq.imp (fun⟨u,hu⟩=>thr b u hu) id
  obtain⟨u,hu⟩:∃u,s'.heap.get? b=some u:=this.elim (fun⟨u,hu⟩=>thr2 b u hu) fun⟨u,hu⟩=>vm hok hu
  have h3:=vy b u hu hb2 this;have h4:=stB b u h3;rw[q] at h4;cases h4;exact h3
end
section
variable {P:Program} {w:World} {K:W.Frag} {mg:Yd} {base:Heap} {N:List Str} {qual:Str} {scope:Scope} {f:Addr} {cd:Value} {A:Around} {outer:List Env} {s:Shared} {H:Hp} {E:XK}
theorem Me:Passes (vb P w) (lz (vb P w) P w K mg base N qual scope f cd A outer s H E) E:=by
 intro pins σ H1 s1 e s' I hc;obtain⟨a,B,cls,a0,H',rfl,os,bare,un,hok,fl,vy,hE⟩:=hc;exact wpAny_leaves_onW (env:=envOfC qual scope s.heap.objs.size f cd) (outer:=outer) (L:=s.heap.objs.size) I.ok.frames rfl fl fun h' f1 up=>CH I rfl rfl rfl os bare un hok vy f1 up hE
theorem ID{pins:X9}{s1:Shared}{a:Addr}{cls:Value}{vs:List Value}(I:Inv (lz (vb P w) P w K mg base N qual scope f cd A outer s H E) pins σ H1 s1)(hx:Heap.MadeExcOf s1.heap h' a cls vs)(hE:E cls none H1) :
 (lz (vb P w) P w K mg base N qual scope f cd A outer s H E).xe (.ref a) {s1 with heap:=h'}:=by
 have hin:∀env∈(envOfC qual scope s.heap.objs.size f cd ::outer),∀b,env.frame=some b->b∈oP (envOfC qual scope s.heap.objs.size f cd ::outer):=fun env he b hb=>List.mem_filterMap.mpr ⟨env,he,hb⟩
 have ff:s1.heap.FunFrames base (envOfC qual scope s.heap.objs.size f cd ::outer):=I.stack;refine wpAny_leaves_madeW (env:=envOfC qual scope s.heap.objs.size f cd) (outer:=outer) (L:=s.heap.objs.size) (base:=PySem.W.hideAll s1.heap (oP (envOfC qual scope s.heap.objs.size f cd ::outer))) (h:=s1.heap) (s:={s1 with heap:=h'}) I.ok.frames rfl (fun b o q=>PySem.W.of_hideAll _ q) (PySem.W.funFrames_hide ff hin) hx fun KI t x1 x2 x3 x4=>?_
 exact CH (s':={s1 with heap:=h'}) I rfl rfl rfl rfl I.bare (Un.kept hx.keeps) (I.hok.kept hx.keeps) (fun b o q hb Nq=>by
  obtain⟨u,hu⟩:∃u,s1.heap.get? b=some u:=Nq.elim id fun⟨u,hu⟩=>vm I.hok hu
  have h2:=hx.keeps b u hu;have q:h'.get? b=some o:=q;rw[q] at h2;cases h2;exact PySem.W.hideAll_get _ hu hb) x1 x4 hE
end
end L2
end
section
namespace L2
open PySem PySem.Spec PyProof.Rows
def Cn:List Value:=[.type "ValueError", .type "Exception", .type "BaseException", .type "object"]
structure XC (K:W.Frag) (C:Addr):Prop where
 ex:PySem.W.excIn K C Cn "ValueError.__new__"=true
 ga:PySem.W.findIn K (.ref C) "__getattribute__"=some (some (.builtin "BaseException.__getattribute__"))
 gt:PySem.W.findIn K (.ref C) "__getattr__"=some none
 co:PySem.W.findIn K (.ref C) "__class__"=some (some (.builtin "object.__class__"))
 gs:PySem.W.specialIn K (.builtin "object.__class__") "__get__"=some (some (.builtin "getset_descriptor.__get__"))
 tk:PySem.W.takesIn K (.builtin "object.__class__")=some true
 mo:PySem.W.mroIn K C (.type "object")=some true
 mb:PySem.W.mroIn K C (.type "BaseException")=some true
 ic:(PySem.W.clsIn K C).isSome=true
def uX(x C:Addr)(h:Heap):Prop:=∃o,h.get? x=some o/\o.cls= .ref C
theorem uX.ty{M:Model}{x C:Addr}(I:uX x C h):PySem.W.Looks M h (typeOf (.ref x)) (.ref C):=by
 obtain⟨o,e,c⟩:=I;exact c▸(PySem.W.Looks.ld e).andThen .now
section
variable {prog:Program} {w:World} {A:Around} {E:X_} {s:Shared} {K:W.Frag} {x C:Addr}
theorem Dk{M:Model}(T:XC K C)(X:K.In h):PySem.W.Looks M h (Builtin.ObjectAttr.find (.ref x) (.ref C) "__class__") (.bind (.builtin "getset_descriptor.__get__") (.builtin "object.__class__")):=by
 have a1:=PySem.W.looks_findIn (M:=M) X T.co;have a2:PySem.W.Looks M h (Builtin.ObjectAttr.getOf (some (.builtin "object.__class__"))) (some (.builtin "getset_descriptor.__get__")):=PySem.W.looks_specialIn X T.gs;have a3:=PySem.W.looks_takesIn (M:=M) X T.tk;exact a1.andThen (a2.andThen ((show PySem.W.Looks M h (Builtin.ObjectAttr.dataDescriptor? (some (.builtin "object.__class__")) (some (.builtin "getset_descriptor.__get__"))) (some (.builtin "getset_descriptor.__get__", .builtin "object.__class__")) from a3.andThen .now).andThen (PySem.W.Looks.tag .now)))
theorem Fc{tp:Value}{R:Result->Shared->Prop}(T:XC K C)(X:K.In s.heap)(I:uX x C s.heap)(h:R (.ok (.ret (.ref C))) s) :
 codeAny (model prog w) A (.call (.builtin "getset_descriptor.__get__") ⟨[.builtin "object.__class__", .ref x,tp],[]⟩) R s:=by
 obtain⟨hp,gn,dr,tk,oo⟩:=s;have b0:=I.ty (M:=model prog w);have b1:=PySem.W.looks_mroIn (M:=model prog w) X T.mo;refine codeAny_call_builtin PySem.W.KF.slot_gs.plain PySem.W.KF.entry_gs (PySem.W.KF.slot_gs.check _ _ _ _ _ _ _ _ PySem.W.KF.type_class (PySem.W.KF.args_gs _ _ _) ?_);unfold Builtin.«getset_descriptor.__get__» PySem.Builtin.Getset_descriptor.descrGet;rw[PySem.W.dga_obj];refine wpAny_bind (wpAny_pure ?_);unfold PySem.Builtin.Getset_descriptor.descrGetter PySem.Builtin.Getset_descriptor.descrCheckInstance PySem.Builtin.Getset_descriptor.descrNameAndClass isInstance;simp only[PySem.W.KF.owner_class]
 repeat lk
 refine⟨Code.quiet_builtin _ (by decide+kernel),codeAny_builtin PySem.W.KF.entry_class ?_⟩
 unfold Builtin.«object.__class__» shownTypeOf
 repeat lk
 exact h
theorem IS{tk:Tok}{R:Result->Shared->Prop}(T:XC K C)(X:K.In s.heap)(I:uX x C s.heap)(h:R (.ok (.ret (.ref C))) s) :
 codeAny (model prog w) A (.call (.builtin "BaseException.__getattribute__") ⟨[.ref x, .str "__class__" tk],[]⟩) R s:=by
 have L0:=I.ty (M:=model prog w);have L1:=Dk (M:=model prog w) (x:=x) T X;have LM:=PySem.W.looks_mroIn (M:=model prog w) X T.mb;have LI:PySem.W.Looks (model prog w) s.heap (isInstance (.ref x) (.type "BaseException")) true:=L0.andThen LM;have hk:builtinKind "BaseException.__getattribute__"=some .slot:=by decide+kernel
 have zZ:splitId "BaseException.__getattribute__"=some ("BaseException","__getattribute__"):=by decide+kernel
 have ha:=PySem.F.args_bexc_ga (.ref x) (.str "__class__" tk);refine codeAny_call_builtin PySem.F.excAttr_ValueError.ga.plain PySem.F.entry_bexc_ga ?_;obtain⟨hh,g,d,t,os⟩:=s;simp only[checkBuiltinCall,hk,zZ];refine wpAny_bind (LI.at ?_);simp only[Bool.not_true,Bool.false_eq_true,if_false];refine wpAny_of_eq ha ?_;refine wpAny_bind (wpAny_pure (wpAny_bind (wpAny_pure (wpAny_bind (L0.at (wpAny_bind (L1.at ?_)))))));show wpAny _ _ (holding [Value.builtin "object.__class__"] (call (.builtin "getset_descriptor.__get__") [.builtin "object.__class__", .ref x, .ref C]) >>=ret) _ _ _;refine wpAny_bind (wpAny_holding (wpAny_call (Fc (s:=⟨hh,g,d,t,os⟩) T X I ?_)));exact wpAny_pure h
theorem AH{Q:Option Value->Shared->Prop}(T:XC K C)(X:K.In s.heap)(I:uX x C s.heap)(h:Q (some (.ref C)) {s with toks:=s.toks+1}):wpAny (model prog w) A (getAttr? (.ref x) "__class__") Q E s:=by
 obtain⟨hh,g,d,t,os⟩:=s;have L0:=I.ty (M:=model prog w);have L1:=PySem.W.looks_findIn (M:=model prog w) X T.ga;have L2:=PySem.W.looks_findIn (M:=model prog w) X T.gt;have hb:=PySem.F.excAttr_ValueError.ga.bind (.ref x);unfold getAttr? getAttrBy? getAttrBy;refine wpAny_bind (wpAny_mkText (wpAny_bind (wpAny_attempt (wpAny_holding (wpAny_bind (L0.at (wpAny_bind (L1.at ?_))))))));have sW:(onTheHeap (Value.ref C) && Value.builtin "BaseException.__getattribute__"==Value.builtin "object.__getattribute__")=false:=by
  have z:(Value.builtin "BaseException.__getattribute__"==Value.builtin "object.__getattribute__")=false:=by decide+kernel
  rw[z];exact Bool.and_false _
 dsimp only;rw[sW,if_neg Bool.false_ne_true];unfold getAttrByItsOwn hookBefore;refine wpAny_bind (L2.at ?_);refine wpAny_bind (wpAny_attempt (wpAny_holding ?_));show wpAny _ _ (boundAndCalled _ _ _) _ _ _;unfold boundAndCalled;rw[hb];refine wpAny_bind (wpAny_pure ?_);refine wpAny_call (IS (s:=⟨hh,g,d,t+1,os⟩) T X I ?_);show wpAny _ _ (handedOut (.ref C)) _ _ _;exact PySem.W.handed_on rfl (wpAny_pure h)
theorem By(T:XC K C):PySem.W.KitX K (.ref x) (.ref C) (uX x C) where
 ty:=fun _ _ _ I=>I.ty
 it:=fun M h X _=>by
  obtain⟨cd,hc⟩:=Option.isSome_iff_exists.mp T.ic;unfold PySem.W.clsIn at hc;split at hc
  .rename_i ho;intro A' Q' E' s' k q;unfold isType loadHead;exact wpAny_bind (wpAny_loadPart (k _ _ (X _ _ ho)) (wpAny_pure q))
  .cases hc
 ne:=fun h tp dd its n sl X VY=>by
  obtain⟨cd,hc⟩:=Option.isSome_iff_exists.mp T.ic;refine Bool.eq_false_iff.mpr fun q=>?_
  cases Value.ref.inj (beq_iff_eq.mp q);unfold PySem.W.clsIn at hc;split at hc
  .rename_i ho;have z:=(X _ _ ho).symm.trans VY;cases z
  .cases hc
 ca:=fun X I k=>AH T X I k
theorem Gm(X:K.In h)(q:PySem.W.excIn K C Cn "ValueError.__new__"=true):∃bm N nm qn bs hdct sn sub ab col dd k0 k1 k2 k3 k5 mN,
 h.get? C=some (excClassObj nm qn C N bs bm hdct sn sub ab col dd k0 k1 k2 k3 k5 "ValueError.__new__")/\h.Ns N mN/\mN "__init__"=none/\OwnTail h Cn bm:=by
 unfold PySem.W.excIn at q;split at q
 .rename_i dd cd sl ho;split at q
  .rename_i C' bm k0 k1 k2 k3 n k5 hm hs;simp only[Bool.and_eq_true,beq_iff_eq,Bool.not_eq_true'] at q;obtain⟨⟨⟨⟨⟨q1,q2⟩,q3⟩,q4⟩,q5⟩,q6⟩:=q;subst q1 q2;obtain⟨nm,bs,mro,ns,qn,hd,sn,sub,ab,col,del⟩:=cd;obtain⟨l⟩:=sl;dsimp only at hm hs q3 q5 q6;subst hm hs q3;exact⟨bm,ns,nm,qn,bs,hd,sn,sub,ab,col,dd,k0,k1,k2,k3,k5,_,X _ _ ho,Heap.Ns.of_isNs (PySem.W.isNs_of_in X q5),PySem.W.nsMap_none_of_in X q5 q6,PySem.W.tail_of_in X q4⟩
  .cases q
 .cases q
end
end L2
end
section
namespace L3
open PySem PySem.Spec PyProof.Rows L2
theorem R3.eZ{α β:Type}{r:R3 α}{f:α->aG->R3 β}{c:Nat}{S':aG}(h:r.bind f= .ex c S'):r= .ex c S'\/∃a S,r= .ok a S/\f a S= .ex c S':=by
 cases r with
 | ok a S=>exact .inr ⟨a,S,rfl,h⟩
 | ex c' S=>cases h;exact .inl rfl
 | no=>cases h
def Ee{α:Type}(r:R3 α):R3 α:=match r with | .ex _ _=> .no | .ok a S=> .ok a S | .no=> .no
theorem i7{α:Type}{r:R3 α}{a:α}{S:aG}(h:Ee r= .ok a S):r= .ok a S:=by
 cases r with
 | ok b S=>exact h
 | ex c S=>cases h
 | no=>cases h
theorem oF{α:Type}{r:R3 α}{c:Nat}{S:aG}(h:Ee r= .ex c S):False:=by
 cases r <;> cases h
def zw(K:W.Frag)(cl:Ye)(E:XK)(ρ:P3)(H:Hp)(S':aG)(c:Nat):Prop:=∀bg H',Pre ρ H bg H'->SW K cl bg H' S'->E (.ref (cl c)) none H'
theorem zw.pre{K:W.Frag}{cl:Ye}{E:XK}{S':aG}{c:Nat}(q:zw K cl E ρ H S' c)(p:Pre ρ H bA H1):zw K cl E bA H1 S' c:=fun bg H' p' w=>q bg H' (p.trans p') w
def Uo(K:W.Frag)(cl:Ye)(E:XK)(f:FX):TE:=fun σ H Q=>∃ρ S δ,el K cl ρ H S σ δ/\((∃v S',f δ S= .ok v S'/\∀u bg H',Pre ρ H bg H'->SW K cl bg H' S'->aO K bg H' v u->Q u H')\/∃c S',f δ S= .ex c S'/\zw K cl E ρ H S' c)
def OG(K:W.Frag)(cl:Ye)(E:XK)(f:FA):TA:=fun σ H Q=>∃ρ S δ,el K cl ρ H S σ δ/\((∃vs S',f δ S= .ok vs S'/\∀us bg H',Pre ρ H bg H'->SW K cl bg H' S'->ay K bg H' vs us->Q us H')\/∃c S',f δ S= .ex c S'/\zw K cl E ρ H S' c)
def M7(K:W.Frag)(cl:Ye)(E:XK)(F:FZ):TS:=fun D σ H=>∃ρ S δ,el K cl ρ H S σ δ/\((∃o S',F δ S= .ok o S'/\uU K cl ρ H D S' o)\/∃c S',F δ S= .ex c S'/\zw K cl E ρ H S' c)
structure G4 (X:Cx) (cl:Ye) (E:XK) (e:Expr) (f:FX):Prop where
 go:PE X e (Uo X.K cl E f)
structure xV (X:Cx) (cl:Ye) (E:XK) (es:List Expr) (f:FA):Prop where
 go:PA X es (OG X.K cl E f)
structure G_ (X:Cx) (cl:Ye) (E:XK) (st:Stmt) (F:FZ):Prop where
 go:PS X st (M7 X.K cl E F)
structure tO (X:Cx) (cl:Ye) (E:XK) (st:List Stmt) (F:FZ):Prop where
 go:uZ X st (M7 X.K cl E F)
section
variable {X:Cx} {cl:Ye} {E:XK}
def tP(f:FX):FX:=fun δ S=>Ee (f δ S)
def eU(f:FA):FA:=fun δ S=>Ee (f δ S)
def Bh(f:FZ):FZ:=fun δ S=>Ee (f δ S)
theorem yk(h:PX X cl e f):G4 X cl E e (tP f):=⟨h.1.imp fun σ H Q ⟨ρ,S,δ,En,z⟩=>by
 rcases z with⟨v,S',hf,q⟩ | ⟨c,S',hf,q⟩
 .exact⟨ρ,S,δ,v,S',En,i7 hf,q⟩
 .exact(oF hf).elim⟩
theorem dj(h:E7 X cl es f):xV X cl E es (eU f):=⟨h.1.imp fun σ H Q ⟨ρ,S,δ,En,z⟩=>by
 rcases z with⟨v,S',hf,q⟩ | ⟨c,S',hf,q⟩
 .exact⟨ρ,S,δ,v,S',En,i7 hf,q⟩
 .exact(oF hf).elim⟩
theorem x_{st:Stmt}(h:PZ X cl st F):G_ X cl E st (Bh F):=⟨h.1.imp fun D σ H ⟨ρ,S,δ,En,z⟩=>by
 rcases z with⟨v,S',hf,q⟩ | ⟨c,S',hf,q⟩
 .exact⟨ρ,S,δ,v,S',En,i7 hf,q⟩
 .exact(oF hf).elim⟩
theorem px{st:List Stmt}(h:Dt X cl st F):tO X cl E st (Bh F):=⟨h.1.imp fun D σ H ⟨ρ,S,δ,En,z⟩=>by
 rcases z with⟨v,S',hf,q⟩ | ⟨c,S',hf,q⟩
 .exact⟨ρ,S,δ,v,S',En,i7 hf,q⟩
 .exact(oF hf).elim⟩
def v7(K:W.Frag)(cl:Ye)(n:Nat)(g:List V3->aG->R3 V3):Sp:=fun vs H Q E=>vs.length=n/\∃ρ S xs,SW K cl ρ H S/\ay K ρ H xs vs/\
 ((∃v S',g xs S= .ok v S'/\∀u bg H',Pre ρ H bg H'->SW K cl bg H' S'->aO K bg H' v u->Q u H')\/∃c S',g xs S= .ex c S'/\zw K cl E ρ H S' c)
def eo(P:Program)(w:World)(K:W.Frag)(mg:Yd)(base:Heap)(cl:Ye)(k:Nat)(x:Str)(n:Nat)(g:List V3->aG->R3 V3):Prop:=
 ∃(f:Addr) (fd:FuncData) (ps:List Str),iT P w K mg base (vb P w) k f fd ps (v7 K cl n g)/\mg x=some (.ref f)/\PySem.W.keepIn K (.ref f)=true/\Binds K fd ps []
theorem rV{g:List V3->aG->R3 V3}{k j n:Nat}{x:Str}{p pos:Pos}{e:Expr}{es:List Expr}{fs:FA}(hp:Passes (vb X.prog X.w) X E)(C:eo X.prog X.w X.K X.mg X.base cl k x n g)(hr:dw j X.A)(DY:k<=j)(hg:Gl X x)(ha:xV X cl E (e ::es) fs)
 (hn:∀δ S ds S',fs δ S= .ok ds S'->ds.length=n) (j9:(x==("__debug__":Str))=false:=by decide) (he:starEach (e ::es) X.env=(false,eval e X.env) ::starEach es X.env:=by rfl) (lP:(backTo pos (starEach es X.env)).any (·.1)=false:=by rfl) :
 G4 X cl E (.Call (.Name x p) (e ::es) [] pos) (qJ g fs):=by
 obtain⟨f,fd,ps,F,hm,hk,hb⟩:=C;refine⟨(uF F (hr.mono DY) hg hm hk hb .nil hp ha.1 j9 he lP).imp fun σ H Q ⟨ρ,S,δ,En,z⟩=>⟨ρ,S,δ,En,?_⟩⟩
 have go:∀vs S1,fs δ S= .ok vs S1->((∃v S',g vs S1= .ok v S'/\∀u bg H',Pre ρ H bg H'->SW X.K cl bg H' S'->aO X.K bg H' v u->Q u H')\/∃c S',g vs S1= .ex c S'/\zw X.K cl E ρ H S' c)->
  (∃vs S',fs δ S= .ok vs S'/\∀us bg H',Pre ρ H bg H'->SW X.K cl bg H' S'->ay X.K bg H' vs us->(fun vs H1=>v7 X.K cl n g (vs++[]) H1 Q E) us H')\/∃c S',fs δ S= .ex c S'/\zw X.K cl E ρ H S' c:=fun vs S1 h1 h2=>by
  refine .inl ⟨vs,S1,h1,fun us bA H1 p1 w1 r1=>?_⟩
  show v7 X.K cl n g (us++[]) H1 Q E;rw[List.append_nil];refine⟨by rw[<-r1.length];exact hn δ S vs S1 h1,bA,S1,vs,w1,r1,?_⟩
  rcases h2 with⟨v,S',h3,q⟩ | ⟨c,S',h3,q⟩
  .exact .inl ⟨v,S',h3,fun u o9 H2 p2 w2 r2=>q u o9 H2 (p1.trans p2) w2 r2⟩
  .exact .inr ⟨c,S',h3,q.pre p1⟩
 rcases z with⟨v,S',hf,q⟩ | ⟨c,S',hf,q⟩
 .obtain⟨vs,S1,h1,h2⟩:=R3.af hf;exact go vs S1 h1 (.inl ⟨v,S',h2,q⟩)
 .rcases R3.eZ hf with h1 | ⟨vs,S1,h1,h2⟩
  .exact .inr ⟨c,S',h1,q⟩
  .exact go vs S1 h1 (.inr ⟨c,S',h2,q⟩)
theorem mQ{pos:Pos}(he:G4 X cl E e f)(D4:swapsWith e none pos.line X.env=pure false:=by rfl):G_ X cl E (.Expr e pos) (rY f):=⟨(uK he.1 D4).imp fun D σ H ⟨ρ,S,δ,En,z⟩=>by
 refine⟨ρ,S,δ,En,?_⟩;rcases z with⟨o,S',hf,q⟩ | ⟨c,S',hf,q⟩
 .obtain⟨v,S1,h1,h2⟩:=R3.af hf;cases h2;exact .inl ⟨v,_,h1,fun u bA H1 p1 w1 r1=>q _ bA H1 p1 (En.to p1 w1)⟩
 .rcases R3.eZ hf with h1 | ⟨v,S1,h1,h2⟩
  .exact .inr ⟨c,S',h1,q⟩
  .cases h2⟩
def wg(f:FB):FB:=fun δ S=>Ee (f δ S)
theorem fX(hc:A7 X cl c fc)(ha:tO X cl E a F)(hb:tO X cl E b G):G_ X cl E (.If c a b pos) (tj (wg fc) F G):=⟨(Di hc.1 ha.1 hb.1).imp fun D σ H ⟨ρ,S,δ,En,z⟩=>by
 have fin:∀k S1,fc δ S= .ok k S1->((∃o S',(if k then F δ S1 else G δ S1)= .ok o S'/\uU X.K cl ρ H D S' o)\/∃c S',(if k then F δ S1 else G δ S1)= .ex c S'/\zw X.K cl E ρ H S' c)->K8 (Kv X.K cl fc) (M7 X.K cl E F) (M7 X.K cl E G) D σ H:=fun k S1 h1 h2=>by
  refine⟨ρ,S,δ,k,S1,En,h1,fun bA H1 p1 w1=>?_⟩
  cases k with
  | true=>
    refine BU ⟨bA,S1,δ,En.to p1 w1,?_⟩;rcases h2 with⟨o,S',h3,q⟩ | ⟨c,S',h3,q⟩
    .rw [if_pos rfl] at h3;exact .inl ⟨o,S',h3,q.pre p1⟩
    .rw [if_pos rfl] at h3;exact .inr ⟨c,S',h3,q.pre p1⟩
  | false=>
    refine DJ ⟨bA,S1,δ,En.to p1 w1,?_⟩;rcases h2 with⟨o,S',h3,q⟩ | ⟨c,S',h3,q⟩
    .rw [if_neg (by decide)] at h3;exact .inl ⟨o,S',h3,q.pre p1⟩
    .rw [if_neg (by decide)] at h3;exact .inr ⟨c,S',h3,q.pre p1⟩
 rcases z with⟨o,S',hf,q⟩ | ⟨c,S',hf,q⟩
 .obtain⟨k,S1,h1,h2⟩:=R3.af hf;exact fin k S1 (i7 h1) (.inl ⟨o,S',h2,q⟩)
 .rcases R3.eZ hf with h1 | ⟨k,S1,h1,h2⟩
  .exact(oF h1).elim
  .exact fin k S1 (i7 h1) (.inr ⟨c,S',h2,q⟩)⟩
theorem dP:tO X cl E [] mK:=⟨ur.imp fun D σ H ⟨ρ,S,δ,En,z⟩=>by
 rcases z with⟨o,S',hf,q⟩ | ⟨c,S',hf,q⟩
 .cases hf;exact q σ ρ H (Pre.refl ρ H) En
 .cases hf⟩
theorem bJ{st:Stmt}(h:G_ X cl E st F):tO X cl E [st] F:=⟨uE h.1⟩
theorem bQ{st:Stmt}{rest:List Stmt}(h1:G_ X cl E st F)(h2:tO X cl E rest G):tO X cl E (st ::rest) (cz F G):=⟨(rB h1.1 h2.1).imp fun D σ H ⟨ρ,S,δ,En,z⟩=>by
 refine⟨ρ,S,δ,En,?_⟩;rcases z with⟨o,S',hf,q⟩ | ⟨c,S',hf,q⟩
 .obtain⟨o1,S1,h1,h2⟩:=R3.af hf;refine .inl ⟨o1,S1,h1,?_⟩;cases o1 with
  | nx δ1=>exact fun Qn bA H1 p1 E1=>⟨bA,S1,δ1,E1, .inl ⟨o,S',h2,q.pre p1⟩⟩
  | rt d=>cases h2;exact q
 .rcases R3.eZ hf with h1 | ⟨o1,S1,h1,h2⟩
  .exact .inr ⟨c,S',h1,q⟩
  .refine .inl ⟨o1,S1,h1,?_⟩;cases o1 with
   | nx δ1=>exact fun Qn bA H1 p1 E1=>⟨bA,S1,δ1,E1, .inr ⟨c,S',h2,q.pre p1⟩⟩
   | rt d=>cases h2⟩
def xn(X:Cx)(E:XK):Prop:=∀(pins:X9) (σ:L2.St) (H:Hp) (s:Shared) (h':Heap) (a:Addr) (cls:Value) (vs:List Value),Inv X pins σ H s->Heap.MadeExcOf s.heap h' a cls vs->E cls none H->X.xe (.ref a) {s with heap:=h'}
def fk(c:Nat)(fs:FA):FZ:=fun δ S=>(fs δ S).bind fun vs S=>R3.aI (decide (vs.length<=sizeLine)) (.ex c S)
theorem Ci{C:Addr}{t:TA}{x:Str}{e:Expr}{es:List Expr}{np bx pos:Pos}(hf:xn X E)(hc:X.calm=true)(T:XC X.K C)(hg:Gl X x)(hm:X.mg x=some (.ref C))(ha:PA X (e ::es) t)(j9:(x==("__debug__":Str))=false:=by decide)
 (he:starEach (e ::es) X.env=(false,eval e X.env) ::starEach es X.env:=by rfl) (lP:(backTo bx (starEach es X.env)).any (·.1)=false:=by rfl) :
 PS X (.Raise (some (.Call (.Name x np) (e ::es) [] bx)) none pos) (fun D σ H=>t σ H fun vs H1=>vs.length<=sizeLine/\E (.ref C) none H1):=by
 intro pins s σ H D I h;obtain⟨bm,N,nm,qn,bs,hdct,sn,sub,ab,col,dd,k0,k1,k2,k3,k5,mN,hC,hN,hni,OT⟩:=Gm (C:=C) I.mod.kin T.ex;refine wpAny_Raise_call_subT (C:=C) (nm:=nm) (q:=qn) (N:=N) (bs:=bs) (bm:=bm) (hdct:=hdct) (sn:=sn) (sub:=sub) (ab:=ab) (col:=col) (dd:=dd) (k0:=k0) (k1:=k1) (k2:=k2) (k3:=k3) (k5:=k5) (bmB:=Cn) PySem.F.excBase_ValueError (mN:=mN) (OT.hasType PySem.F.excBase_ValueError.hasBase) (I.ok.hd hc)
  (by rw[he];show(false || (backTo bx (starEach es X.env)).any (·.1))=false;rw [lP];rfl) hni (pF I hg hm ⟨rfl,?_⟩ j9)
 have hA:=ha bx pins s σ H _ I h;rw[he] at hA ⊢;refine Calls.evalArgs_plain (wpAny_mono hA (fun us s2 ⟨vs,H1,I1,r,hl,hE⟩=>⟨rfl,by rw[<-r.length];exact hl,I1.bk _ _ hC,hN.keeps I1.bk,OT.keeps I1.bk,fun h' a hx=>hf pins σ H1 s2 h' a _ _ I1 hx hE⟩) fun _ _ y=>y)
theorem cG{c:Nat}{fs:FA}{x:Str}{e:Expr}{es:List Expr}{np bx pos:Pos}(hf:xn X E)(hc:X.calm=true)(T:XC X.K (cl c))(hg:Gl X x)(hm:X.mg x=some (.ref (cl c)))(ha:xV X cl E (e ::es) fs)(j9:(x==("__debug__":Str))=false:=by decide)
 (he:starEach (e ::es) X.env=(false,eval e X.env) ::starEach es X.env:=by rfl) (lP:(backTo bx (starEach es X.env)).any (·.1)=false:=by rfl) :
 G_ X cl E (.Raise (some (.Call (.Name x np) (e ::es) [] bx)) none pos) (fk c fs):=⟨(Ci hf hc T hg hm ha.1 j9 he lP).imp fun D σ H ⟨ρ,S,δ,En,z⟩=>by
 refine⟨ρ,S,δ,En,?_⟩;rcases z with⟨o,S',hf,q⟩ | ⟨c',S',hf,q⟩
 .obtain⟨vs,S1,h1,h2⟩:=R3.af hf;unfold R3.aI at h2;split at h2 <;> cases h2
 .rcases R3.eZ hf with h1 | ⟨vs,S1,h1,h2⟩
  .exact .inr ⟨c',S',h1,q⟩
  .unfold R3.aI at h2;split at h2
   .rename_i hl;cases h2;exact .inl ⟨vs,_,h1,fun us bA H1 p1 w1 r1=>⟨by rw[<-r1.length];exact of_decide_eq_true hl,q bA H1 p1 w1⟩⟩
   .cases h2⟩
end
theorem lK{P:Program}{w:World}{K:W.Frag}{mg:Yd}{base:Heap}{cl:Ye}{x qual:Str}{st:Stmt}{f:Addr}{fd:FuncData}{N ps:List Str}{k:Nat}{F:FZ}{b:List Stmt}{sc:Scope}(hb:aQ st=b)(hs:aD st=sc)(Fn:xl K x qual st f fd)(S:bb N ps sc)
 (g5:∀(dJ:Value) (A:Around) (outer:List Env) (s:Shared) (H:Hp) (E:XK),dw k (A.deeper (envOfC qual sc s.heap.objs.size f dJ))->
   tO (lz (vb P w) P w K mg base N qual sc f dJ A outer s H E) cl E b F):iT P w K mg base (vb P w) (k+1) f fd ps (v7 K cl ps.length (tm N F)):=by
 subst hb hs;obtain⟨oc,od,kV,doc,pm,an,dJ,ct,D3,rfl,lk,xf⟩:=Fn.ex;refine GQ lk xf S (fun vs H Q E h=>h.1) fun A outer s H vs Q E hr zZ=>⟨_,(g5 dJ A outer s H E hr).1,?_⟩
 obtain⟨_,ρ,S,ds,w,r,z⟩:=zZ;refine⟨ρ,S,dm N ds,vI w r,?_⟩;rcases z with⟨v,S',hg,q⟩ | ⟨c,S',hg,q⟩
 .obtain⟨o,S1,h1,h2⟩:=R3.af hg;refine .inl ⟨o,S1,h1,?_⟩;cases o with
  | nx i4=>
    cases h2;exact fun cj bg H' p' E'=>q _ bg H' p' E'.sw (by unfold aO Rep;rfl)
  | rt d'=>
    cases h2;exact fun u bg H' p' w' r'=>q u bg H' p' w' r'
 .rcases R3.eZ hg with h1 | ⟨o,S1,h1,h2⟩
  .exact .inr ⟨c,S',h1,q⟩
  .cases o with
   | nx i4=>cases h2
   | rt d'=>cases h2
theorem jG{P:Program}{w:World}{K:W.Frag}{mg:Yd}{base:Heap}{N:List Str}{qual:Str}{scope:Scope}{f:Addr}{cd:Value}{A:Around}{outer:List Env}{s:Shared}{H:Hp}{E:XK} :
 Passes (vb P w) (lz (vb P w) P w K mg base N qual scope f cd A outer s H E) E:=Me
theorem cH{P:Program}{w:World}{K:W.Frag}{mg:Yd}{base:Heap}{N:List Str}{qual:Str}{scope:Scope}{f:Addr}{cd:Value}{A:Around}{outer:List Env}{s:Shared}{H:Hp}{E:XK} :
 xn (lz (vb P w) P w K mg base N qual scope f cd A outer s H E) E:=fun pins σ H1 s1 h' a cls vs I hx hE=>ID I hx hE
end L3
end
section
namespace L2
open PySem PySem.Spec PyProof.Rows
abbrev Cx.alt(X:Cx)(A:Around)(calm:Bool)(pn:X9)(xe:X_):Cx:={X with A:=A,calm:=calm,pn:=pn,xe:=xe}
theorem Cx.Ok.alt{X:Cx}(ok:X.Ok){A:Around}{calm:Bool}{pn:X9}{xe:X_}(hd:calm=true->A.handled=none)(hf:A.frames=X.A.frames):(X.alt A calm pn xe).Ok:=
 ⟨ok.mod,ok.kind,ok.glob,ok.blt,ok.above,ok.inj,ok.has,ok.cab,hd,hf.trans ok.frames,ok.stk,ok.exf,ok.bs,ok.bsz,ok.noex,ok.exfs,ok.pf,ok.frf⟩
section
variable {X:Cx} {pins lO:X9} {σ:St} {H H1 H':Hp} {s s1 s':Shared}
theorem Inv.alt{A:Around}{calm:Bool}{pn:X9}{xe:X_}(I:Inv X pins σ H s)(hd:calm=true->A.handled=none)(hf:A.frames=X.A.frames)(hp:∀p∈pn++lO,p∈X.pn++pins):Inv (X.alt A calm pn xe) lO σ H s:=
 ⟨I.ok.alt hd hf,I.os,I.bare,I.base,I.loc,I.cell,I.free,I.freeC,fun p hq=>I.pin p (hp p hq),I.hok,I.len⟩
theorem Inv.LO{calm:Bool}{pn:X9}{xe:X_}(ok:X.Ok)(I:Inv (X.alt A calm pn xe) lO σ H s)(hp:∀p∈X.pn++pins,p∈pn++lO):Inv X pins σ H s:=
 ⟨ok,I.os,I.bare,I.base,I.loc,I.cell,I.free,I.freeC,fun p hq=>I.pin p (hp p hq),I.hok,I.len⟩
theorem zM{M:Model}{A:Around}{E:X_}{i:Nat}{x:Str}{pos:Pos}{Q:Unit->Shared->Prop}(I:Inv X pins σ H s)(hN:X.N.Nodup)(hi:X.N[i]? =some x)(hk:X.env.kindOf x=some .local)
 (h:∀s',Inv X pins (σ.set i none) H s'->Q () s'):wpAny M A (do bindName X.env x .none;unbindBehindTheSuite X.env x pos) Q E s:=by
 obtain⟨m,hn,hl⟩:=id I.loc;have hcls:(X.env.scope.kind== .class || (X.env.scope.kind== .module && X.env.locals !=X.env.globals))=false:=by rw[I.ok.kind];rfl
 have hiσ:i < σ.length:=by rw[I.len];exact(List.getElem?_eq_some_iff.mp hi).1
 have Dh:=I.Dh;refine wpAny_nameGoes_keeps hk hn hcls fun h' v MN hs=>?_
 refine h _ ⟨I.ok,I.os,I.bare,⟨fun b o e n hb hx=>?_,fun b o e n hb hx=>?_,I.base.free,fun b o e hx=>?_,I.base.tups,I.base.frzs,I.base.tbls⟩,⟨_,MN,fun j y v' e1 e2 e3=>?_⟩,fun y c e=>?_,I.free,I.freeC,fun p hp=>?_,fun b ob e=>?_,by simpa using I.len⟩
 .exact(hs.2 b (Nat.ne_of_lt (Nat.lt_of_lt_of_le (Heap.lt_size e) I.ok.above))).trans (I.base.keep b o e n hb hx)
 .obtain⟨sl,e1⟩:=I.base.slot b o e n hb hx;exact⟨sl,(hs.2 b (Nat.ne_of_lt (Nat.lt_of_lt_of_le (Heap.lt_size e) I.ok.above))).trans e1⟩
 .obtain⟨o',e1⟩:=I.base.there b o e hx;exact⟨o',(hs.2 b (Nat.ne_of_lt (Nat.lt_of_lt_of_le (Heap.lt_size e) I.ok.above))).trans e1⟩
 .by_cases hj:j=i
  .subst hj;rw[List.getElem?_set_self hiσ] at e2;cases e2
  .rw [List.getElem?_set_ne (Ne.symm hj)] at e2;obtain⟨u',r',q⟩:=hl j y v' e1 e2 e3;refine⟨u',r',?_⟩;rcases q with⟨k,e⟩ | ⟨k,c,e,z⟩
   .refine .inl ⟨k,?_⟩;have:y≠x:=fun e=>hj (mZ hN e1 (e▸hi))
    simp [this,e]
   .exact .inr ⟨k,c,e,z.sameBut hs (Dh y c e)⟩
 .obtain⟨w',z⟩:=I.cell y c e;exact⟨w',z.sameBut hs (Dh y c e)⟩
 .obtain⟨e,n,ne,nf,d⟩:=I.pin p hp;exact⟨(hs.2 p.1 ne).trans e,n,ne,nf,d⟩
 .refine(I.hok b ob e).wC (fun c w' hc q=>(hs.2 c ?_).trans q) (fun _ q=>q) fun _ _ q=>q
  rintro rfl;rcases hc with rfl | hc
  .have z:=I.free;rw [z] at e;cases e
  .have z:=I.free;rw [z] at hc;cases hc
theorem rE{B h5:Heap}{a:Addr}{C:Addr}{a0:Value}(I:Inv X pins σ H1 s1)(yA:X.stack=X.env ::X.outer)(os:s'.os=s1.os)(bare:AllBare s'.gens)(un:Un (oP X.stack) [] H1 H' s1.heap s'.heap)(hok:mO X.prog X.w H' s'.heap)
 (vy:∀b o,s'.heap.get? b=some o->b ∉ oP X.stack->((∃u,s1.heap.get? b=some u)\/∃u,H' b=some u)->B.get? b=some o) (fl:Heap.FlyingW B X.stack a (.ref C) a0 h5) (up:s'.heap.UpToSlots h5) :
 H' a=none/\uX a C h5/\Inv X pins σ (upd H' a (.ext (L3.isExc C a))) {s' with heap:=h5}:=by
 have hfree:∀b,b∈oP X.stack->H' b=none:=fun b hb=>by
  obtain⟨_,o,ho,_⟩:=I.stack.mem hb;exact un.free b o ho (I.nS b hb) (by simp)
 have stB:∀b o,B.get? b=some o->h5.get? b=some o:=fl.1;have Eb:∀b o,H' b=some o->∀u,s'.heap.get? b=some u->h5.get? b=some u:=fun b o q u hu=>stB b u (vy b u hu (fun hb=>by rw[hfree b hb] at q;cases q) (.inr ⟨o,q⟩))
 obtain⟨oe,vs,he,hec,hed,_⟩:=fl.first
 have nst:a ∉ oP X.stack:=fun hb=>by
  obtain⟨_,o,ho,hd⟩:=fl.2.2.1.mem hb;rw[he] at ho;cases ho;exact hd _ hed
 have n0:∀u,s1.heap.get? a≠some u:=fun u hu=>by
  obtain⟨u2,h2⟩:=un.there a u hu (by simp)
  have:=vy a u2 h2 nst (.inl ⟨u,hu⟩);rw[fl.2.1] at this;cases this
 have n1:H' a=none:=by
  cases q:H' a with
  | none=>rfl
  | some u=>
    obtain⟨u2,h2⟩:=vm hok q;have:=vy a u2 h2 nst (.inr ⟨u,q⟩);rw[fl.2.1] at this;cases this
 have n2:H1 a=none:=by
  cases q:H1 a with
  | none=>rfl
  | some u=>
    obtain⟨u2,h2⟩:=vm I.hok q;exact absurd h2 (n0 u2)
 refine⟨n1,⟨oe,he,hec⟩,?_⟩;have un2:Un (oP X.stack) [] H1 (upd H' a (.ext (L3.isExc C a))) s1.heap h5:=by
  refine⟨fun b o q n hb _=>?_,fun b o q n hb _=>?_,fun b o q n _=>?_,fun b o q _=>?_,fun b xs q=>?_,fun b o u q=>?_,fun b ps q=>?_⟩
  .exact stB b o (vy b o (un.keep b o q n hb (by simp)) hb (.inl ⟨o,q⟩))
  .obtain⟨Qe,h2⟩:=un.slot b o q n hb (by simp)
   obtain⟨_,o',qy,hd⟩:=I.stack.mem hb;rw[q] at qy;cases qy;obtain⟨J_,h3⟩:=up b _ h2 hd;exact⟨J_,h3⟩
  .rw [aW (fun z=>by subst z;exact n0 o q)];exact un.free b o q n (by simp)
  .obtain⟨u2,h2⟩:=un.there b o q (by simp)
   by_cases hb:b∈oP X.stack
   .obtain⟨_,o',qy,hd⟩:=I.stack.mem hb;obtain⟨sl,h3⟩:=un.slot b o' qy (I.nS b hb) hb (by simp)
    obtain⟨J_,h4⟩:=up b _ h3 hd;exact⟨_,h4⟩
   .exact⟨u2,stB b u2 (vy b u2 h2 hb (.inl ⟨o,q⟩))⟩
  .rw [aW (bf q n2)];exact un.tups b xs q
  .rw [aW (bf q n2)];exact un.frzs b o u q
  .rw [aW (bf q n2)];exact un.tbls b ps q
 have hok2:mO X.prog X.w (upd H' a (.ext (L3.isExc C a))) h5:=fun b o q=>by
  by_cases hb:b=a
  .subst hb;rw[a_] at q;cases q;refine⟨⟨oe,he,hec⟩,⟨oe,he⟩,fun h1 h2 p k=>?_⟩
   obtain⟨o,h3,h4⟩:=p;exact⟨o,k o h3,h4⟩
  .rw [aW hb] at q;refine(hok b o q).wC (fun c u hc hu=>?_) (fun c z=>by rw[aW (bf z n1)];exact z) (fun c xs z=>by rw[aW (bf z n1)];exact z)
   rcases hc with rfl | hc
   .exact Eb c o q u hu
   .exact Eb c _ hc u hu
 exact I.G9 (s':={s' with heap:=h5}) os un2 hok2 bare (fun b z=>absurd z (by simp))
end
end L2
namespace L3
open PySem PySem.Spec PyProof.Rows L2
section
variable {X:Cx} {cl:Ye}
def tG(F:FZ)(ok:Nat->Bool)(i:Nat)(G:FZ):FZ:=fun δ S=>match F δ S with
 | .ok o S'=> .ok o S'
 | .ex c S'=>R3.aI (ok c) ((Ee (G ((List.replicate δ.length none).set i (some (.loc S'.length))) (S'++[.exc c]))).bind fun o S2=>match o with | .nx i4=> .ok (.nx (i4.set i none)) S2 | .rt v=> .ok (.rt v) S2)
 | .no=> .no
theorem Il{F G:FZ}{ok:Nat->Bool}{i:Nat}{n fx:Str}{Cf:Addr}{body D6:List Stmt}{b0:Stmt}{np MJ pos:Pos}(yA:X.stack=X.env ::X.outer)(Eo:X.env.frame=some X.env.locals)(Sz:X.calm=true)
 (hC:∀c,ok c=true->PySem.W.exmOne X.K (.ref (cl c)) (.ref Cf)=some true) (hg:Gl X fx) (hm:X.mg fx=some (.ref Cf)) (hN:X.N.Nodup) (hi:X.N[i]? =some n) (hk:X.env.kindOf n=some .local)
 (g5:∀(pn:X9) (xe:X_) (E:XK),Passes (vb X.prog X.w) (X.alt X.A X.calm pn xe) E->tO (X.alt X.A X.calm pn xe) cl E body F)
 (MH:∀(a:Addr) (pn:X9),Dt (X.alt (X.A.mark (some (.ref a))) false pn fun _ _=>False) cl (b0 ::D6) G) (j9:(fx==("__debug__":Str))=false:=by decide) :
 PZ X cl (.Try body [.ExceptHandler (some (.Name fx np)) (some n) (b0 ::D6) MJ] [] [] pos) (tG F ok i G):=⟨by
 intro pins s σ H D I ⟨ρ,S,δ,o,S',En,hf,q⟩;refine wpAny_Try_except ?_;have I1:∀xe,Inv (X.alt X.A X.calm (X.pn++pins) xe) [] σ H s:=fun xe=>I.alt I.ok.hd rfl fun p hp=>by simpa using hp
 have back:∀{cj H' s'} {xe} {A calm lO},Inv (X.alt A calm (X.pn++pins) xe) lO cj H' s'->Inv X pins cj H' s':=fun J=>Inv.LO I.ok J fun p hp=>List.mem_append_left _ hp
 have nxt:∀{xe f s1},SP (X.alt X.A X.calm (X.pn++pins) xe) [] D f s1->(match f with | .next=>wpAny (model X.prog X.w) X.A (execs [] X.env) (SP X pins D) X.xe s1 | f=>SP X pins D f s1):=fun {xe f s1} z=>by
  cases f with
  | next=>obtain⟨cj,H',J,w⟩:=z;exact wpAny_execs_nil ⟨cj,H',back J,w⟩
  | brk=>obtain⟨cj,H',J,w⟩:=z;exact⟨cj,H',back J,w⟩
  | cont=>obtain⟨cj,H',J,w⟩:=z;exact⟨cj,H',back J,w⟩
  | ret u=>obtain⟨v,cj,H',J,r,w⟩:=z;exact⟨v,cj,H',back J,r,w⟩
 cases hF:F δ S with
 | no=>simp only[tG,hF] at hf;cases hf
 | ok o1 S1=>
   simp only[tG,hF] at hf;cases hf;exact cU ((g5 (X.pn++pins) _ E0 fun _ _ _ _ _ _ _ ⟨_,_,_,_,_,_,_,_,_,_,_,_,z⟩=>z.elim).1 [] s σ H D (I1 _) ⟨ρ,S,δ,En, .inl ⟨_,_,hF,q⟩⟩) fun f s1 z=>nxt z
 | ex c S1=>
   simp only[tG,hF] at hf;obtain⟨hok,hf⟩:=R3.aN hf;obtain⟨o2,S2,hG,hf⟩:=R3.af hf;have hG:=i7 hG;refine cU ((g5 (X.pn++pins) (fun e s₁=>wpAny (model X.prog X.w) X.A (noteFrame e X.env) (fun _ tR=>wpAny (model X.prog X.w) X.A (setFlight e none) (fun _ Gz=>wpAny (model X.prog X.w) X.A (handleBy e X.env [.ExceptHandler (some (.Name fx np)) (some n) (b0 ::D6) MJ]) (SP X pins D) X.xe Gz) X.xe tR) X.xe s₁)
    (fun cls d H'=>cls= .ref (cl c)/\∃bg,Pre ρ H bg H'/\SW X.K cl bg H' S1) ?_).1 [] s σ H D (I1 _) ⟨ρ,S,δ,En, .inr ⟨c,S1,hF,fun bg H' p w=>⟨rfl,bg,p,w⟩⟩⟩) fun f s1 z=>nxt z
   intro lO cj H1 s1 e s' J hc;obtain⟨a,B,cls,a0,H',rfl,os,bare,un,hokH,fl,vy,rfl,bg,p',w'⟩:=hc;have fl:Heap.FlyingW B (X.env ::X.outer) a (.ref (cl c)) a0 s'.heap:=by rw[<-yA];exact fl
   refine wpAny_looks_onW (by rw[I.ok.frames,yA]) Eo fl fun h4 held SA=>?_
   refine wpAny_landsW held fun h5 Sr SG=>?_
   have C5:=rE (X:=X.alt X.A X.calm (X.pn++pins) _) (s':=s') J yA os bare un hokH vy (by rw[show Cx.stack (X.alt X.A X.calm (X.pn++pins) _)=X.env ::X.outer from yA];exact Sr) (SA.trans SG)
   have J5:Inv (X.alt (X.A.mark (some (.ref a))) false (X.pn++pins) fun _ _=>False) lO cj _ {s' with heap:=h5}:=Inv.alt (X:=X.alt X.A X.calm (X.pn++pins) _) C5.2.2 (fun z=>by cases z) rfl fun p hp=>hp
   refine wpAny_handleBy_cons (codeAny_handlers_test (pF J5 hg hm ?_ j9)) (by intro q;cases q)
   refine(PySem.W.exm_one J5.nZ (uX.ty C5.2.1) (hC c hok)).here ?_;refine codeAny_handlers_suite_as ?_;refine PyProof.Rows.lands_againW Sr fun h6 Wj VJ=>?_
   have C6:=rE (X:=X.alt X.A X.calm (X.pn++pins) _) (s':=s') J yA os bare un hokH vy (by rw[show Cx.stack (X.alt X.A X.calm (X.pn++pins) _)=X.env ::X.outer from yA];exact Wj) ((SA.trans SG).trans VJ)
   have J6:Inv (X.alt (X.A.mark (some (.ref a))) false (X.pn++pins) fun _ _=>False) lO cj _ {s' with heap:=h6}:=Inv.alt (X:=X.alt X.A X.calm (X.pn++pins) _) C6.2.2 (fun z=>by cases z) rfl fun p hp=>hp
   have sm:aH H' (upd H' a (.ext (isExc (cl c) a))):=bz C6.1;obtain⟨w6,p6⟩:=w'.new (o:= .exc c) sm C6.1 (show Bf X.K cl (bg.push a) _ (.exc c) _ from⟨a,a_⟩)
   have la:(bg.push a).r[S1.length]? =some a:=by
    show(bg.r++[a])[S1.length]? =some a;rw[<-w'.len,List.getElem?_append_right (Nat.le_refl _),Nat.sub_self];rfl
   refine sT (X:=X.alt (X.A.mark (some (.ref a))) false (X.pn++pins) fun _ _=>False) J6 hN hi (.inl hk) (v:= .ref a) rfl (fun s7 J7=>?_) (.inr hk)
   have VI:el X.K cl (bg.push a) (upd H' a (.ext (isExc (cl c) a))) (S1++[.exc c]) (cj.set i (some (.ref a))) ((List.replicate δ.length none).set i (some (.loc S1.length))):=by
    refine⟨?_,w6,fun j d e=>?_⟩
    .rw [List.length_set,List.length_set,List.length_replicate,En.len,I.len];exact J.len.symm
    .by_cases hj:i=j
     .subst hj;have n4:i < (List.replicate δ.length (none:Option V3)).length:=by
       rw[List.length_replicate,En.len,I.len];exact(List.getElem?_eq_some_iff.mp hi).1
      rw[List.getElem?_set_self n4] at e;cases e;refine⟨.ref a,?_,by unfold aO;exact⟨a,la,rfl⟩⟩
      rw[List.getElem?_set_self];have:cj.length=X.N.length:=J.len;rw[this];exact(List.getElem?_eq_some_iff.mp hi).1
     .rw [List.getElem?_set_ne hj,List.getElem?_replicate] at e;split at e <;> cases e
   have q7:uU X.K cl (bg.push a) (upd H' a (.ext (isExc (cl c) a))) {nx:=fun JZ H8=>D.nx (JZ.set i none) H8,rt:=D.rt} S2 o2:=by
    cases o2 with
    | nx kQ=>
      cases hf;intro JZ Pp H8 p8 E8;refine q (JZ.set i none) Pp H8 ((p'.trans p6).trans p8) ⟨?_,E8.sw,fun j d e=>?_⟩
      .rw [List.length_set,List.length_set];exact E8.len
      .by_cases hj:i=j
       .subst hj;by_cases n4:i < kQ.length
        .rw [List.getElem?_set_self n4] at e;cases e
        .rw [List.getElem?_eq_none (by rw[List.length_set];omega)] at e;cases e
       .rw [List.getElem?_set_ne hj] at e ⊢;exact E8.val j d e
    | rt v=>
      cases hf;exact fun u Pp H8 p8 w8 r8=>q u Pp H8 ((p'.trans p6).trans p8) w8 r8
   refine wpAny_mono ((MH a (X.pn++pins)).1 lO s7 _ _ _ J7 ⟨bg.push a,S1++[.exc c],_,o2,S2,VI,hG,q7⟩) (fun f s8 z=>?_) fun _ _ z=>z.elim
   cases f with
   | next=>
     obtain⟨JZ,H8,J8,z⟩:=z;exact zM (back J8) hN hi hk fun s9 J9=>⟨_,H8,J9,z⟩
   | brk=>obtain⟨JZ,H8,J8,z⟩:=z;exact z.elim
   | cont=>obtain⟨JZ,H8,J8,z⟩:=z;exact z.elim
   | ret u=>
     obtain⟨v,JZ,H8,J8,r8,z⟩:=z;exact zM (back J8) hN hi hk fun s9 J9=>⟨v,_,H8,J9,r8,z⟩⟩
end
end L3
end
section
namespace L2
open PySem PySem.Spec PyProof.Rows
theorem Jo{H:Hp}{a b C:Addr}(k:mO P w H h)(e:H a=some (.ext (L3.isExc C b))):uX a C h:=by
 obtain⟨p,⟨o,ho⟩,st⟩:=(show cR P w H h a (.ext (L3.isExc C b)) from k a _ e)
 by_cases hab:a=b
 .subst hab;exact p
 .exfalso
  obtain⟨o2,h2,_⟩:=st h (PySem.W.hideAll h [b]) p fun o q=>PySem.W.hideAll_get [b] q (by simpa using hab)
  rw[PySem.W.hideAll_none [b] (List.mem_singleton.mpr rfl)] at h2;cases h2
def sH:V->Bool | .ref _=>true | .ty _=>true | _=>false
def AG:V->Value | .ref a=> .ref a | .ty n=> .type n | _=> .none
theorem y4{v:V}{u:Value}(h:sH v=true)(r:RelV v u):u=AG v:=by
 cases v with
 | ref a=>exact r
 | ty n=>exact r
 | _=>cases h
section
variable {X:Cx}
def JI(K:W.Frag):List V->Hp->VK->Prop:=fun xs H Q=>∃a b C cv k,xs=[V.ref a,cv]/\H a=some (.ext (L3.isExc C b))/\XC K C/\sH cv=true/\PySem.W.kitOne K (.ref C) (AG cv)=some k/\Q (.bl k) H
def JJ(K:W.Frag):List V->Hp->VK->Prop:=fun xs H Q=>∃cv k,xs=[V.cu,cv]/\sH cv=true/\PySem.W.kitOne K (.type "NoneType") (AG cv)=some k/\Q (.bl k) H
def TJ(K:W.Frag):List V->Hp->VK->Prop:=fun xs H Q=>∃a b C tp ME k,xs=[V.ref a,V.ref tp]/\H a=some (.ext (L3.isExc C b))/\XC K C/\H tp=some (.tup ME)/\ME.all sH=true/\PySem.W.kitAny K (.ref C) (ME.map AG)=some k/\Q (.bl k) H
theorem Dv:jS X (.builtin "isinstance") (JI X.K):=by
 intro pins s σ H xs us Q I r h;obtain⟨a,b,C,cv,k,rfl,e,T,hc,hk,q⟩:=h;obtain⟨u,w',rfl,ru,xb⟩:=vals2 r;cases ru;rw[y4 hc xb];exact PySem.W.kia_one (By T) I.nZ (Jo I.hok e) hk (fun z=>nomatch z) fun tk=>⟨.bl k,H,I.tok _,rfl,q⟩
theorem BC:jS X (.builtin "isinstance") (JJ X.K):=by
 intro pins s σ H xs us Q I r h;obtain⟨cv,k,rfl,hc,hk,q⟩:=h;obtain⟨u,w',rfl,ru,xb⟩:=vals2 r;cases ru;rw[y4 hc xb];exact PySem.W.kia_one PySem.W.kitx_none I.nZ True.intro hk (fun z=>nomatch z) fun tk=>⟨.bl k,H,I.tok _,rfl,q⟩
end
end L2
namespace L3
open PySem PySem.Spec PyProof.Rows L2
section
variable {X:Cx} {cl:Ye} {E:XK}
def kO(f:FX)(tb:Nat->Option Bool):FX:=fun δ S=>(f δ S).bind fun v S1=>match v with
 | .loc k=>(match S1[k]? with | some (.exc c)=>(match tb c with | some b=> .ok (.d (.bl b)) S1 | none=> .no) | _=> .no)
 | .d .cu=> .ok (.d (.bl false)) S1
 | _=> .no
theorem fW{e c:Expr}{f:FX}{tb:Nat->Option Bool}{cv:V}{p pos:Pos}(he:PX X cl e f)(hc:PE X c (tC cv))(Su:sH cv=true)(hg:Gl X "isinstance")(hm:X.mg "isinstance"=none)
 (ht:∀c b,tb c=some b->XC X.K (cl c)/\PySem.W.kitOne X.K (.ref (cl c)) (AG cv)=some b) (hn:PySem.W.kitOne X.K (.type "NoneType") (AG cv)=some false)
 (hs:starEach [e,c] X.env=(false,eval e X.env) ::starEach [c] X.env:=by rfl) (Nn:starEach [c] X.env=(false,eval c X.env) ::starEach [] X.env:=by rfl) (lP:(backTo pos (starEach [c] X.env)).any (·.1)=false:=by rfl) :
 PX X cl (.Call (.Name "isinstance" p) [e,c] [] pos) (kO f tb):=⟨by
 have both:jS X (.builtin "isinstance") (fun xs H Q=>JI X.K xs H Q\/JJ X.K xs H Q):=fun pins s σ H xs us Q I r h=>h.elim (Dv pins s σ H xs us Q I r) (BC pins s σ H xs us Q I r)
 refine(pJ both hg hm boot_isinstance (fZ he.1 (fZ hc lW Nn) hs) (by decide) (by decide) hs lP).imp fun σ H Q ⟨ρ,S,δ,v,S',En,hf,q⟩=>?_
 obtain⟨v1,S1,h1,h2⟩:=R3.af hf;refine⟨ρ,S,δ,v1,S1,En,h1,fun u bA H1 p1 w1 r1=>?_⟩
 show JI X.K [u,cv] H1 Q\/JJ X.K [u,cv] H1 Q;split at h2
 .rename_i k;split at h2
  .rename_i cc hS;split at h2
   .rename_i b hb;cases h2;unfold aO at r1;obtain⟨a,ha,rfl⟩:=r1;obtain⟨b',hH⟩:=w1.ob k a _ ha hS;exact .inl ⟨a,b',cl cc,cv,b,rfl,hH,(ht cc b hb).1,Su,(ht cc b hb).2,q _ bA H1 p1 w1 (by unfold aO;exact Rep.bl.mpr rfl)⟩
   .cases h2
  .cases h2
 .cases h2;unfold aO at r1;cases Rep.cu.mp r1;exact .inr ⟨cv,false,rfl,Su,hn,q _ bA H1 p1 w1 (by unfold aO;exact Rep.bl.mpr rfl)⟩
 .cases h2⟩
def Vc(f:FX)(tb:Nat->Option Bool):FX:=fun δ S=>(f δ S).bind fun v S1=>match v with
 | .loc k=>(match S1[k]? with | some (.exc c)=>(match tb c with | some b=> .ok (.d (.bl b)) S1 | none=> .no) | _=> .no)
 | _=> .no
def WU(ME:List V):TA:=fun _ H Q=>Q ME H
theorem uT{fs:FA}{n:Nat}(h:∀δ S ds S',fs δ S= .ok ds S'->ds.length=n):∀δ S ds S',eU fs δ S= .ok ds S'->ds.length=n:=fun δ S ds S' e=>h δ S ds S' (i7 e)
end
end L3
end
section
namespace L3
open PySem PySem.Spec PyProof.Rows L2
section
variable {α β:Type} {S S':aG} {δ:DE} {c:Nat}
theorem A1{r:R3 α}{Q:α->aG->Prop}(h:W3 r Q):W3 (Ee r) Q:=by
 obtain⟨a,S,e,q⟩:=h;rw[e];exact⟨a,S,rfl,q⟩
theorem Bm{f:FX}{Q:V3->aG->Prop}(h:W3 (f δ S) Q):W3 (tP f δ S) Q:=A1 h
theorem um{f:FA}{Q:List V3->aG->Prop}(h:W3 (f δ S) Q):W3 (eU f δ S) Q:=A1 h
theorem Lm{f:FZ}{Q:Ou->aG->Prop}(h:W3 (f δ S) Q):W3 (Bh f δ S) Q:=A1 h
theorem KL{f:FB}{Q:Bool->aG->Prop}(h:W3 (f δ S) Q):W3 (wg f δ S) Q:=A1 h
theorem JL{F G:FZ}{ok:Nat->Bool}{i:Nat}{Q:Ou->aG->Prop}(h:W3 (F δ S) Q):W3 (tG F ok i G δ S) Q:=by
 obtain⟨o,S1,e,q⟩:=h;unfold tG;rw[e];exact W3.ok q
theorem Jl{F G:FZ}{ok:Nat->Bool}{i:Nat}{Q:Ou->aG->Prop}(h:F δ S= .ex c S')(hc:ok c=true)(hg:W3 (G ((List.replicate δ.length none).set i (some (.loc S'.length))) (S'++[.exc c])) fun o S2=>∃δ1,o= .nx δ1/\Q (.nx (δ1.set i none)) S2):W3 (tG F ok i G δ S) Q:=by
 unfold tG;rw[h];refine W3.wh hc (W3.bind (A1 (hg.mono fun o S2 ⟨δ1,e,q⟩=>?_)))
 subst e;exact W3.ok q
theorem Mm{f:FX}{tb:Nat->Option Bool}{Q:V3->aG->Prop}(h:W3 (f δ S) fun v S1=>∃k c b,v= .loc k/\S1[k]? =some (.exc c)/\tb c=some b/\Q (.d (.bl b)) S1):W3 (kO f tb δ S) Q:=W3.bind (h.mono fun v S1 ⟨k,c,b,e,e1,e2,q⟩=>by
 subst e;simp only[e1,e2];exact W3.ok q)
end
end L3
end
section
namespace L3
open PySem PySem.Spec PyProof.Rows L2
def XW(K:W.Frag)(mg:Yd)(x:Str):Prop:=∃f,PySem.W.nsIn K mainGlobals x=some (some (.ref f))/\mg x=some (.ref f)
section
variable {X:Cx} {cl:Ye} {E:XK}
def XN(x:Str):FX:=fun _ S=> .ok (.fn x) S
theorem Iu:Passes (vb X.prog X.w) X E0:=fun _ _ _ _ _ _ _ ⟨_,_,_,_,_,_,_,_,_,_,_,_,z⟩=>z.elim
theorem Jh(h:G4 X cl E e f):PX X cl e f:=⟨h.1.imp fun σ H Q ⟨ρ,S,δ,v,S',En,hf,q⟩=>⟨ρ,S,δ,En, .inl ⟨v,S',hf,q⟩⟩⟩
abbrev GT:=List (Str × (List V3->aG->R3 V3))
def Ft(P:Program)(w:World)(K:W.Frag)(mg:Yd)(base:Heap)(cl:Ye)(j n:Nat)(l:GT):Prop:=∀x g,l.lookup x=some g->∃k,k<=j/\eo P w K mg base cl k x n g
def Nw(i:Nat)(l:GT)(fs:FA):FX:=fun δ S=>match δ[i]? with
 | some (some (.fn x))=>(match l.lookup x with | some g=>(fs δ S).bind g | none=> .no)
 | _=> .no
end
end L3
end
section
namespace HT
open PySem PySem.Spec PyProof.Rows
section
variable {prog:Program} {w:World} {A:Around} {E:X_} {s:Shared}
end
end HT
namespace L2
open PySem PySem.Spec PyProof.Rows
def rM:D->Option Key
 | .int n=>some (Sum.inl n)
 | .str x=>some (Sum.inr x)
 | _=>none
theorem wX{K:W.Frag}{B:List Addr}{d:D}{k:Key}{v:V}(h:rM d=some k)(r:Rep K B H d v):v=kV k:=by
 cases d with
 | int n=>cases h;exact Rep.int.mp r
 | str x=>cases h;exact Rep.str.mp r
 | cu=>cases h
 | bl b=>cases h
 | lst ds=>cases h
 | tup ds=>cases h
 | dct ks ds=>cases h
def Lo(ks:List Key)(k:Key):Bool:=ks.any fun x=>decide (x=k)
def N8(ks:List Key)(ds:List D)(k:Key):Option D:=((ks.zip ds).find? fun p=>decide (p.1=k)).map (·.2)
def Ug(a b:D):R D:=match b with
 | .dct ks _=>(match rM a with | some k=> .ok (.bl (Lo ks k)) | none=> .no)
 | _=> .no
def UG(a b:D):R D:=match b with
 | .dct ks _=>(match rM a with | some k=> .ok (.bl (!Lo ks k)) | none=> .no)
 | _=> .no
def RG(d k:D):R D:=match d with
 | .dct ks ds=>(match rM k with | some k=>(match N8 ks ds k with | some x=> .ok x | none=> .no) | none=> .no)
 | _=> .no
section
variable {X:Cx}
def Sk(f:FD):FD:=fun δ=>(f δ).bind fun d=>match d with | .tup ds=> .ok (.tup ds.reverse) | _=> .no
def QY(i:Nat)(f:FD):FS:=fun δ=>(f δ).bind fun d=>match seqD? d with
 | some es=>(yY δ i).bind fun ds=>R.aI (decide (ds.length+es.length<=sizeLine)) (.ok (.nx (δ.set i (.bld (ds++es)))))
 | none=> .no
def Q1(f g:FD):aq->R (List D):=fun δ=>(f δ).bind fun d=>(g δ).bind fun e=>match d,e with
 | .int i, .int j=>R.aI (decide (-(2 ^ 62)<=i/\i < 2 ^ 62/\ -(2 ^ 62)<=j/\j < 2 ^ 62/\j - i < 16777216)) (.ok (qN i (j - i).toNat))
 | _,_=> .no
end
end L2
namespace L3
open PySem PySem.Spec PyProof.Rows L2
section
variable {X:Cx} {cl:Ye}
def Rt(i:Nat)(f:FX):FZ:=fun δ S=>match pS δ i with
 | none=> .no
 | some k=>match cY S k with
   | none=> .no
   | some _=>(f δ S).bind fun v S1=>match v with
     | .d d=>(match seqD? d with
       | some es=>(match cY S1 k with
         | some ds=>R3.aI (decide (ds.length+es.length<=sizeLine)) (.ok (.nx δ) (S1.set k (.lst (ds++es))))
         | none=> .no)
       | none=> .no)
     | _=> .no
def oq(fo fi fe:FX):FZ:=fun δ S=>(fe δ S).bind fun v S1=>(fo δ S1).bind fun o S2=>(fi δ S2).bind fun j S3=>match v,o,j with
 | .d d, .loc k, .d n=>(match pK S3 k,rM n with | some aA,some key=>R3.aI (decide (aA.length < sizeLine)) (.ok (.nx δ) (S3.set k (.dct (oM aA key d)))) | _,_=> .no)
 | _,_,_=> .no
theorem mW{pos pos':Pos}(hu:X.A.units+1 < cLine)(hv:PX X cl value fe)(ho:PX X cl o fo)(hi:PX X cl i fi)(hs:swapsWith value (some (.Subscript o i pos')) pos.line X.env=pure false:=by rfl):PZ X cl (.Assign [.Subscript o i pos'] value pos) (oq fo fi fe):=
 ⟨(Ga hu ho.1 hi.1 hv.1 hs).imp fun D σ H ⟨ρ,S,δ,ou,S',E,hf,q⟩=>by
   obtain⟨v,S1,h1,h2⟩:=R3.af hf;obtain⟨o,S2,h3,h4⟩:=R3.af h2;obtain⟨j,S3,h5,h6⟩:=R3.af h4;refine⟨ρ,S,δ,v,S1,E,h1,fun u1 bA H1 p1 w1 r1=>⟨bA,S1,δ,o,S2,E.to p1 w1,h3,fun u2 o9 H2 p2 w2 r2=>⟨o9,S2,δ,j,S3,(E.to p1 w1).to p2 w2,h5,fun u3 A3 H3 p3 w3 r3=>?_⟩⟩⟩
   split at h6
   .rename_i d k n;split at h6
    .rename_i aA key hd hn;obtain⟨hl,h7⟩:=R3.aN h6;cases h7;have r2':=r2.pre p3;unfold aO at r2';obtain⟨a,a1,rfl⟩:=r2';unfold aO at r3;have:=wX hn r3;subst this;obtain⟨ys,y1,y2,y3⟩:=w3.ob k a _ a1 (rW hd);have zX:=(r1.pre p2).pre p3;unfold aO at zX;obtain⟨e1,pY⟩:=Mt (k:=key) zX y2 y3;have hll:ys.length=aA.length:=by have:=congrArg List.length y2;simpa using this
     refine⟨a,_,rfl,Ao.k (k:=key) y1 (by rw[hll];exact of_decide_eq_true hl),?_⟩
     obtain⟨w4,p4⟩:=w3.put (o:= .dct (oM aA key d)) (u:= .dK (putK ys key u1)) a1 (w3.fz k a a1 (by rw[rW hd];intro h;cases h)) ⟨_,rfl,e1,pY⟩
     exact q σ A3 _ (p1.trans (p2.trans (p3.trans p4))) (E.to (p1.trans (p2.trans (p3.trans p4))) w4)
    .cases h6
   .cases h6⟩
theorem pM{fo fi fe:FX}{δ:DE}{S:aG}{QO:Ou->aG->Prop}(h:W3 (fe δ S) fun v S1=>W3 (fo δ S1) fun o S2=>W3 (fi δ S2) fun j S3=>∃d k n key aA,v= .d d/\o= .loc k/\j= .d n/\rM n=some key/\S3[k]? =some (.dct aA)/\aA.length < sizeLine/\QO (.nx δ) (S3.set k (.dct (oM aA key d)))):W3 (oq fo fi fe δ S) QO:=
 W3.bind (h.mono fun _ _ h=>W3.bind (h.mono fun _ _ h=>W3.bind (h.mono fun _ S3 ⟨d,k,n,key,aA,e1,e2,e3,e6,e4,hl,q⟩=>by
  subst e1 e2 e3;have e5:pK S3 k=some aA:=by unfold pK;simp only[e4]
  simp only[e5,e6];exact W3.wh (decide_eq_true hl) (W3.ok q))))
end
end L3
end
section
namespace PySem.W
open PySem PySem.Calls PyProof.Rows
def GU{α:Type}(n:Nat)(lt:Nat->Nat->Bool):KasT α->Option α
 | .ret a=>some a
 | .ask i j k=>if i < n/\j < n then GU n lt (k (lt i j)) else none
section
variable {prog:Program} {w:World} {A:Around} {E:X_} {s:Shared} {a:Addr} {vs:List Value} {κ:SortKind}
abbrev TQ(h:Heap)(a:Addr)(vs:List Value):Heap:=((h.update a (Obj.mapSeq fun _=>(#[]:Array Value))).push (seqObj "tuple" vs.toArray 0)).push (seqObj "list" #[] 0)
end
end PySem.W
namespace L2
open PySem PySem.Spec PyProof.Rows
def Ti:D->Option (Int × List Int)
 | .tup [.int a, .tup zs]=>(ints? zs).map fun ns=>(a,ns)
 | _=>none
def Md:List D->Option (List (Int × List Int))
 | []=>some []
 | d ::ds=>(Ti d).bind fun p=>(Md ds).map (p ::·)
def TM(x y:Int × List Int):Bool:=if x.1=y.1 then(if x.2=y.2 then false else HT.lexLt x.2 y.2) else decide (x.1 < y.1)
def NN(ps:List (Int × List Int)):Option (Array Nat):=PySem.W.GU ps.length (fun i j=>TM (ps.getD i (0,[])) (ps.getD j (0,[]))) (PySem.W.kas_sort ps.length)
def Nz:List D->R D
 | [.lst ds]=>(match Md ds with
   | some ps=>R.aI (decide (2<=ps.length/\ps.length < 64)) (match NN ps with | some p=>R.aI (p.toList.all (fun i=>decide (i < ps.length)) && decide (p.toList.length < 64)) (.ok (.lst (p.toList.map fun i=>ds.getD i .cu))) | none=> .no)
   | none=> .no)
 | _=> .no
def UO(h:Heap)(v:Value)(p:Int × List Int):Prop:=
 ∃(x b:Addr) (t:Tok) (n:Nat) (o:Obj) (its:Array Value),v= .ref x/\h.get? x=some o/\o.cls= .type "tuple"/\o.data= .seq #[.int p.1 t, .ref b] n/\IsTup h b its/\IntsAre its.toList p.2
section
variable {X:Cx}
end
end L2
end
section
namespace L2
open PySem PySem.Spec PyProof.Rows
def K0(d a:D):Bool:=PyData.eqv (toPy d) (toPy a)
def QZ(d:D):Bool:=cx d && (toPy d).canLay0 && decide ((toPy d).depth<=8)
def R5(a b:D):R Bool:=match seqD? b with
 | some ds=>R.aI (QZ a && ds.all QZ) (.ok (ds.any fun d=>K0 d a))
 | none=> .no
def Ve(a b:D):R D:=(R5 a b).bind fun x=> .ok (.bl x)
def TB(a b:D):R D:=(R5 a b).bind fun x=> .ok (.bl (!x))
section
variable {X:Cx}
open Classical in
def Rb(h:Heap)(a:D)(y:Value):Bool:=decide (∃d as,Reads h y (toPy d) as/\(toPy d).canLay0=true/\K0 d a=true)
open Classical in
theorem NC{a d:D}{y:Value}{as:List Addr}(r:Reads h y (toPy d) as)(hl:(toPy d).canLay0=true):Rb h a y=K0 d a:=by
 unfold Rb;cases q:K0 d a with
 | true=>exact decide_eq_true ⟨d,as,r,hl,q⟩
 | false=>
   refine decide_eq_false fun⟨d',Wa,r',KC,q'⟩=>?_
   have:=SeqAt.Reads.unique _ _ y as Wa hl r r';unfold K0 at q q';rw[<-this,q] at q';cases q'
end
end L2
end
section
set_option maxHeartbeats 1000000
namespace L3
open PySem PySem.Spec PyProof.Rows L2
section
variable {X:Cx} {cl:Ye}
def R_(i:Nat)(F:FZ):FZ:=fun δ S=>match pS δ i with
 | some k=>(match S[k]? with | some (.dct aA)=>F (δ.set i (some (.d (.dct (aA.map (·.1)) (aA.map (·.2)))))) (S.set k .pO) | _=> .no)
 | none=> .no
end
end L3
end
section
set_option maxHeartbeats 3200000
namespace PySem.W
open PySem PySem.Calls PyProof.Rows
namespace F2
end F2
section
variable {prog:Program} {w:World} {A:Around} {E:X_} {s:Shared}
end
section
variable {prog:Program} {w:World} {K:Type} [DecidableEq K] {knd:KeyKind prog w K} {A:Around} {s:Shared}
def OE(knd:KeyKind prog w K)(h:Heap)(v:Value)(q:K × Value):Prop:=
 ∃(x:Addr) (n:Nat) (o:Obj) (kv:Value),v= .ref x/\h.get? x=some o/\o.cls= .type "tuple"/\o.data= .seq #[kv,q.2] n/\knd.is q.1 kv=true
def fills(qs:List (K × Value))(aA:List (K × Value)):List (K × Value):=qs.foldl (fun acc q=>stored acc q.1 q.2) aA
end
end PySem.W
namespace L2
open PySem PySem.Spec PyProof.Rows
def TF:D->Option (Key × D)
 | .tup [a,b]=>(rM a).map fun k=>(k,b)
 | _=>none
def LG:List D->Option (List (Key × D))
 | []=>some []
 | d ::ds=>(TF d).bind fun p=>(LG ds).map (p ::·)
def He(qs:List (Key × D))(aA:List (Key × D)):List (Key × D):=qs.foldl (fun acc q=>L3.oM acc q.1 q.2) aA
def OZ:List D->R D
 | [.lst ds]=>(match LG ds with
   | some qs=>R.aI (decide (ds.length<=1000000)) (.ok (.dct ((He qs []).map (·.1)) ((He qs []).map (·.2))))
   | none=> .no)
 | _=> .no
section
variable {X:Cx}
end
end L2
end
section
set_option maxHeartbeats 1000000
namespace L3
open PySem PySem.Spec PyProof.Rows L2
def Dm(g:List V3->aG->R3 V3):List V3->aG->R3 V3:=fun vs S=>match g vs S with
 | .ok v S'=>(match res S' v with
   | some d=>R3.aI ((S'.take S.length).all (we S.length) && mM S.length v) (.ok (.d d) (S'.take S.length))
   | none=> .no)
 | .ex c S'=>R3.aI ((S'.take S.length).all (we S.length)) (.ex c (S'.take S.length))
 | .no=> .no
theorem HM{K:W.Frag}{cl:Ye}{g:List V3->aG->R3 V3}{n:Nat}{vs:List V}{Q:VK}{E:XK}(h:v7 K cl n (Dm g) vs H Q E):v7 K cl n g vs H Q E:=by
 obtain⟨hl,ρ,S,xs,w,r,z⟩:=h;refine⟨hl,ρ,S,xs,w,r,?_⟩;have pc:∀{bA H1},Pre ρ H bA H1->Pre ρ H (bA.cut S.length) H1:=fun p1=>SW.DC (K:=K) (cl:=cl) (by rw[w.len];exact Nat.le_refl _) p1
 rcases z with⟨v,S',hg,q⟩ | ⟨c,S',hg,q⟩
 .unfold Dm at hg;split at hg
  .rename_i v1 S1 h1;split at hg
   .rename_i d e;obtain⟨ok,h3⟩:=R3.aN hg;obtain⟨ok,hk⟩:=Bool.and_eq_true_iff.mp ok;cases h3;refine .inl ⟨v1,S1,h1,fun u bA H1 p1 w1 r1=>q u _ H1 (pc p1) (w1.cut ok) ?_⟩
    unfold aO;refine r1.resB w1 (iV _) (fun k a hk a1 ha=>?_) hk e
    rcases P3.eA.mp ha with⟨z,_⟩ | z
    .obtain⟨j,hj⟩:=List.getElem?_of_mem z;have hj:(bA.r.take S.length)[j]? =some a:=hj;rw[List.getElem?_take] at hj;split at hj
     .rename_i hjl;have:=w1.nd j k a hj a1;omega
     .cases hj
    .exact(w1.zb a z).2 (List.mem_of_getElem? a1)
   .cases hg
  .rename_i c1 S1 h1;unfold R3.aI at hg;split at hg <;> cases hg
  .cases hg
 .unfold Dm at hg;split at hg
  .rename_i v1 S1 h1;split at hg
   .unfold R3.aI at hg;split at hg <;> cases hg
   .cases hg
  .rename_i c1 S1 h1;unfold R3.aI at hg;split at hg
   .rename_i ok;cases hg;exact .inr ⟨_,S1,h1,fun bA H1 p1 w1=>q _ H1 (pc p1) (w1.cut ok)⟩
   .cases hg
  .cases hg
theorem eo.q{K:W.Frag}{mg:Yd}{cl:Ye}{k:Nat}{n:Nat}{g:List V3->aG->R3 V3}(C:eo P w K mg base cl k x n g):eo P w K mg base cl k x n (Dm g):=
 let⟨f,fd,ps,F,h⟩:=C;⟨f,fd,ps,F.imp fun _ _ _ _ h=>HM h,h⟩
section
variable {X:Cx} {cl:Ye} {E:XK}
def Io(f:FX):FX:=fun δ S=>(f δ S).bind fun v S1=>match v with | .d (.bl b)=> .ok (.d (.bl (!b))) S1 | _=> .no
theorem Hs(ha:PX X cl a f):PX X cl (.UnaryOp .Not a pos) (Io f):=⟨(Cz ha.1).imp fun σ H Q ⟨ρ,S,δ,v,S',En,hf,q⟩=>by
 obtain⟨v1,S1,h1,h2⟩:=R3.af hf;split at h2
 .rename_i b;cases h2;refine⟨ρ,S,δ,_,_,En,h1,fun u bA H1 p1 w1 r1=>⟨b,?_,q _ bA H1 p1 w1 (by unfold aO;exact Rep.bl.mpr rfl)⟩⟩
  unfold aO at r1;exact Rep.bl.mp r1
 .cases h2⟩
theorem IX{f:FX}{δ:DE}{S:aG}{Q:V3->aG->Prop}(h:W3 (f δ S) fun v S1=>∃b,v= .d (.bl b)/\Q (.d (.bl (!b))) S1):W3 (Io f δ S) Q:=W3.bind (h.mono fun v S1 ⟨b,e,q⟩=>by subst e;exact W3.ok q)
def OX(K:W.Frag)(cl:Ye)(E:XK)(ρ:P3)(H:Hp)(D:Ends)(r:R3 Ou):Prop:=match r with
 | .ok o S'=>uU K cl ρ H D S' o
 | .ex c S'=>zw K cl E ρ H S' c
 | .no=>False
def M9(f:FA):FA:=fun δ S=>Ee (f δ S)
theorem y0{tg iter:Expr}{body:List Stmt}{it:FA}{t:FG}{F:FZ}{pos:Pos}(hp:PassesOwn (model X.prog X.w) X.A X.env X.xe)(hc:X.calm=true)(hi:Ng X cl tg iter it)(hg:Nc X cl tg t)(hb:tO X cl E body F)
 (hs:∀x,foldedSetIterable iter X.env x=pure x:=by intro _;rfl):G_ X cl E (.For tg iter body [] pos) (vL (M9 it) t F):=⟨(Bj hp hc hi.1 hg.1 hb.1 hs).imp fun D σ H ⟨ρ,S,δ,En,z⟩=>by
 have key:∃ds S0,it δ S= .ok ds S0/\OX X.K cl E ρ H D (g4 t F ds δ S0):=by
  rcases z with⟨o,S',hf,q⟩ | ⟨c,S',hf,q⟩
  .obtain⟨ds,S0,h1,h2⟩:=R3.af hf;exact⟨ds,S0,i7 h1,by rw[h2];exact q⟩
  .rcases R3.eZ hf with h1 | ⟨ds,S0,h1,h2⟩
   .exact(oF h1).elim
   .exact⟨ds,S0,i7 h1,by rw[h2];exact q⟩
 obtain⟨ds,S0,h1,wi⟩:=key;obtain⟨r,hr⟩:∃r,g4 t F ds δ S0=r:=⟨_,rfl⟩;rw[hr] at wi;refine⟨ρ,S,δ,ds,S0,En,h1,fun J bA H1 p1 w1 ir=>?_⟩
 refine⟨fun i m cj H'=>m=ds.length - i/\i<=ds.length/\∃bg S1 i4,Pre bA H1 bg H'/\el X.K cl bg H' S1 cj i4/\g4 t F (ds.drop i) i4 S1=r,⟨ds.length,rfl,Nat.zero_le _,bA,S0,δ,Pre.refl bA H1,En.to p1 w1,by simpa using hr⟩,?_⟩
 rintro i m cj H' ⟨rfl,hi,bg,S1,i4,pv,E',hl⟩;obtain⟨go,stop⟩:=ir bg H' pv.pw E'.sw.bs;by_cases n4:i < ds.length
 .have hd:ds[i]? =some ds[i]:=List.getElem?_eq_getElem n4;have hdrop:ds.drop i=ds[i] ::ds.drop (i+1):=List.drop_eq_getElem_cons n4;rw[hdrop] at hl;unfold g4 at hl;split at hl
  .rw [<-hl] at wi;exact wi.elim
  .rename_i δ1 h3;obtain⟨g1,g2⟩:=go i _ hd;refine .inr ⟨g1,fun yE H2=>∃o9 S2 kQ,Pre bA H1 o9 H2/\el X.K cl o9 H2 S2 yE kQ/\g4 t F (ds.drop (i+1)) kQ S2=r,fun yE H2 n=>⟨ds.length - (i+1),by omega,rfl,n4,n⟩,fun x pX y=>?_⟩
   obtain⟨ss,rr⟩:=g2 x pX y;refine⟨bg,S1,i4,ds[i],δ1,E'.same ss,rr,h3,fun yE H2 s2 E2=>⟨bg,S1,δ1,E2,?_⟩⟩
   have pv2:Pre bA H1 bg H2:=pv.trans (Pre.same (ss.trans s2));cases hF:F δ1 S1 with
   | no=>rw [hF] at hl;rw [<-hl] at wi;exact wi.elim
   | ex c S2=>
     rw[hF] at hl;have hl:R3.ex c S2=r:=hl;rw[<-hl] at wi;exact .inr ⟨c,S2,rfl,zw.pre wi (p1.trans pv2)⟩
   | ok o1 S2=>
     rw[hF] at hl;refine .inl ⟨o1,S2,rfl,?_⟩;cases o1 with
     | nx kQ=>exact fun GG A3 H3 p3 E3=>⟨A3,S2,kQ,pv2.trans p3,E3,hl⟩
     | rt d=>
       have hl:R3.ok (Ou.rt d) S2=r:=hl;rw[<-hl] at wi;exact fun v A3 H3 p3 w r=>wi v A3 H3 (p1.trans (pv2.trans p3)) w r
 .have e:i=ds.length:=by omega
  subst e;rw[List.drop_length] at hl;have hl:R3.ok (Ou.nx i4) S1=r:=hl;rw[<-hl] at wi;exact .inl ⟨stop,wi cj bg H' (p1.trans pv) E'⟩⟩
theorem ye{P:Program}{w:World}{K:W.Frag}{mg:Yd}{base:Heap}{N:List Str}{qual:Str}{scope:Scope}{f:Addr}{cd:Value}{A:Around}{outer:List Env}{s:Shared}{H:Hp}{E:XK} :
 PassesOwn (model P w) (lz (vb P w) P w K mg base N qual scope f cd A outer s H E).A (lz (vb P w) P w K mg base N qual scope f cd A outer s H E).env (lz (vb P w) P w K mg base N qual scope f cd A outer s H E).xe:=PassesOwn.leaving
def kA(P:Program)(w:World)(K:W.Frag)(mg:Yd)(base:Heap)(cl:Ye)(k c:Nat)(m:Str)(n:Nat)(g:List V3->aG->R3 V3):Prop:=
 ∃(f:Addr) (fd:FuncData) (ps:List Str),w9 K (cl c)/\Meth K (cl c) m f/\iT P w K mg base (vb P w) k f fd ps (v7 K cl (n+1) g)/\Binds K fd ps []
theorem m6{g:List V3->aG->R3 V3}{k j n c:Nat}{m:Str}{o e:Expr}{es:List Expr}{fo:FX}{fs:FA}{apos pos:Pos}{pl:Sem Bool}(hp:Passes (vb X.prog X.w) X E)(M:kA X.prog X.w X.K X.mg X.base cl k c m n g)(hr:dw j X.A)(DY:k<=j)(ho:PX X cl o fo)(ha:E7 X cl (e ::es) fs)(hn:∀δ S ds S',fs δ S= .ok ds S'->ds.length=n)
 (yA:starEach (e ::es) X.env=(false,eval e X.env) ::starEach es X.env:=by rfl) (lP:(backTo pos (starEach es X.env)).any (·.1)=false:=by rfl)
 (ht:eval (.Call (.Attribute o m apos) (e ::es) [] pos) X.env=(do
   let ov <-eval o X.env
   standAt apos.atName
   let(f,first) <-holding [ov] (getMethod ov m pl)
   callWith pos f first (backTo pos (starEach (e ::es) X.env)) (backToKw pos (keywordEach [] X.env))):=by rfl) :
 G4 X cl E (.Call (.Attribute o m apos) (e ::es) [] pos) (pA c m g (tP fo) (eU fs)):=by
 obtain⟨f,fd,ps,hC,hm,F,hb⟩:=M;refine⟨(FV ho.1 hC hm F (hr.mono DY) hb .nil hp ha.1 yA lP ht).imp fun σ H Q ⟨ρ,S,δ,En,z⟩=>?_⟩
 have key:∃kk ys S1 vs S2,fo δ S= .ok (.loc kk) S1/\lx S1 c kk=some ys/\ys.lookup m=none/\fs δ S1= .ok vs S2/\((∃v S',g (.loc kk ::vs) S2= .ok v S'/\∀u bg H',Pre ρ H bg H'->SW X.K cl bg H' S'->aO X.K bg H' v u->Q u H')\/∃c S',g (.loc kk ::vs) S2= .ex c S'/\zw X.K cl E ρ H S' c):=by
  have go:∀{r:R3 V3},pA c m g (tP fo) (eU fs) δ S=r->r≠ .no->∃kk ys S1 vs S2,fo δ S= .ok (.loc kk) S1/\lx S1 c kk=some ys/\ys.lookup m=none/\fs δ S1= .ok vs S2/\g (.loc kk ::vs) S2=r:=fun {r} hr sW=>by
   unfold pA at hr;cases hfo:fo δ S with
   | no=>unfold tP at hr;rw [hfo] at hr;exact absurd hr.symm sW
   | ex c' S'=>unfold tP at hr;rw [hfo] at hr;exact absurd hr.symm sW
   | ok o S1=>
     unfold tP at hr;rw[hfo] at hr;simp only[Ee,R3.aK] at hr;split at hr
     .rename_i kk;split at hr
      .rename_i ys e1;split at hr
       .rename_i pY;cases hfs:fs δ S1 with
        | no=>unfold eU at hr;rw [hfs] at hr;exact absurd hr.symm sW
        | ex c' S'=>unfold eU at hr;rw [hfs] at hr;exact absurd hr.symm sW
        | ok vs S2=>
          unfold eU at hr;rw[hfs] at hr;exact⟨kk,ys,S1,vs,S2,rfl,e1,pY,hfs,hr⟩
       .exact absurd hr.symm sW
      .exact absurd hr.symm sW
     .exact absurd hr.symm sW
  rcases z with⟨v,S',hf,q⟩ | ⟨c',S',hf,q⟩
  .obtain⟨kk,ys,S1,vs,S2,a1,a2,a3,a4,a5⟩:=go hf (fun h=>by cases h)
   exact⟨kk,ys,S1,vs,S2,a1,a2,a3,a4, .inl ⟨v,S',a5,q⟩⟩
  .obtain⟨kk,ys,S1,vs,S2,a1,a2,a3,a4,a5⟩:=go hf (fun h=>by cases h)
   exact⟨kk,ys,S1,vs,S2,a1,a2,a3,a4, .inr ⟨c',S',a5,q⟩⟩
 obtain⟨kk,ys,S1,vs,S2,h1,e1,pY,h3,z⟩:=key;refine⟨ρ,S,δ, .loc kk,S1,En,h1,fun u bA H1 p1 w1 r1=>?_⟩
 have zX:=r1;unfold aO at r1;obtain⟨a,a1,rfl⟩:=r1;obtain⟨dx,zs,ey,ek,rs⟩:=w1.ob kk a _ a1 (lZ e1);refine⟨a,dx,zs,rfl,ey,vG ek pY,bA,S1,δ,vs,S2,En.to p1 w1,h3,fun us o9 H2 p2 w2 r2=>?_⟩
 show v7 X.K cl (n+1) g (V.ref a ::(us++[])) H2 Q E;rw[List.append_nil];refine⟨by rw[List.length_cons,<-r2.length,hn δ S1 vs S2 h3],o9,S2, .loc kk ::vs,w2,ay.cons (zX.pre p2) r2,?_⟩
 rcases z with⟨v,S',h4,q⟩ | ⟨c',S',h4,q⟩
 .exact .inl ⟨v,S',h4,fun z A3 H3 p3 w3 r3=>q z A3 H3 (p1.trans (p2.trans p3)) w3 r3⟩
 .exact .inr ⟨c',S',h4,q.pre (p1.trans p2)⟩
theorem Rp{g:List V3->aG->R3 V3}{vs:List V3}{S:aG}{QV:V3->aG->Prop}(hS:JN S)(h:W3 (g vs S) fun v S1=>mM S.length v=true/\(∃T,S1=S++T)/\∃d,res S1 v=some d/\QV (.d d) S):W3 (Dm g vs S) QV:=by
 obtain⟨v,S1,e,hg,⟨T,rfl⟩,d,hd,q⟩:=h;unfold Dm;rw[e];simp only[hd];rw[List.take_append_of_le_length (Nat.le_refl _),List.take_length];exact W3.wh (by rw[List.all_eq_true.mpr hS,hg];rfl) (W3.ok q)
theorem Vh{g:List V3->aG->R3 V3}{vs:List V3}{S T:aG}{c:Nat}(hS:JN S)(h:g vs S= .ex c (S++T)):Dm g vs S= .ex c S:=by
 unfold Dm;rw[h];simp only;rw[List.take_append_of_le_length (Nat.le_refl _),List.take_length];unfold R3.aI;rw[List.all_eq_true.mpr hS];rfl
def WE{α:Type}(r:R3 α)(Q:α->aG->Prop)(Y:Nat->aG->Prop):Prop:=(∃a S,r= .ok a S/\Q a S)\/∃c S,r= .ex c S/\Y c S
section
variable {α β:Type} {S:aG} {δ:DE} {Y:Nat->aG->Prop}
theorem WE.bind{r:R3 α}{f:α->aG->R3 β}{Q:β->aG->Prop}(h:WE r (fun a S1=>WE (f a S1) Q Y) Y):WE (r.bind f) Q Y:=by
 rcases h with⟨a,S1,rfl,q⟩ | ⟨c,S1,rfl,q⟩
 .exact q
 .exact .inr ⟨c,S1,rfl,q⟩
theorem WE.mono{r:R3 α}{Q Q':α->aG->Prop}{Y':Nat->aG->Prop}(h:WE r Q Y)(m:∀a S,Q a S->Q' a S)(n:∀c S,Y c S->Y' c S):WE r Q' Y':=by
 rcases h with⟨a,S1,e,q⟩ | ⟨c,S1,e,q⟩
 .exact .inl ⟨a,S1,e,m _ _ q⟩
 .exact .inr ⟨c,S1,e,n _ _ q⟩
theorem WE.ok{a:α}{Q:α->aG->Prop}(h:Q a S):WE (.ok a S) Q Y:= .inl ⟨a,S,rfl,h⟩
theorem iW{F G:FZ}{Q:Ou->aG->Prop}(h:WE (F δ S) (fun o S1=>∃δ1,o= .nx δ1/\WE (G δ1 S1) Q Y) Y):WE (cz F G δ S) Q Y:=WE.bind (h.mono (fun o S1 ⟨δ1,e,q⟩=>by subst e;exact q) fun _ _ q=>q)
theorem vY{F:FZ}{Q:Ou->aG->Prop}(h:W3 (F δ S) Q):WE (Bh F δ S) Q Y:= .inl (Lm h)
theorem pd{fc:FB}{F G:FZ}{Q:Ou->aG->Prop}(h:W3 (fc δ S) fun b S1=>if b then WE (F δ S1) Q Y else WE (G δ S1) Q Y):WE (tj (wg fc) F G δ S) Q Y:=WE.bind (.inl (KL (h.mono fun b S1 q=>by
 show WE (if b=true then F δ S1 else G δ S1) Q Y
 cases b with
 | true=>rw [if_pos rfl] at q ⊢;exact q
 | false=>rw [if_neg (by decide)] at q ⊢;exact q)))
theorem sL{f:FX}{Q:Ou->aG->Prop}(h:WE (f δ S) (fun v S1=>Q (.nx δ) S1) Y):WE (rY f δ S) Q Y:=WE.bind (h.mono (fun v S1 q=>WE.ok q) fun _ _ q=>q)
theorem BW{f:FX}{Q:V3->aG->Prop}(h:W3 (f δ S) Q):WE (tP f δ S) Q Y:= .inl (Bm h)
theorem B2{g:List V3->aG->R3 V3}{fs:FA}{Q:V3->aG->Prop}(h:W3 (fs δ S) fun vs S1=>WE (g vs S1) Q Y):WE (qJ g (eU fs) δ S) Q Y:=WE.bind (.inl (um h))
theorem sN{c k:Nat}{g:List V3->aG->R3 V3}{fo:FX}{fs:FA}{Q:V3->aG->Prop}(h:W3 (fo δ S) fun v S1=>∃ys,v= .loc k/\S1[k]? =some (.ins c ys)/\ys.lookup m=none/\W3 (fs δ S1) fun vs S2=>WE (g (.loc k ::vs) S2) Q Y):WE (pA c m g (tP fo) (eU fs) δ S) Q Y:=
 WE.bind (.inl (Bm (h.mono fun v S1 ⟨ys,e1,pY,e3,q⟩=>by
  subst e1;have e4:lx S1 c k=some ys:=by unfold lx;simp only[pY,if_true]
  simp only[e4,e3];exact WE.bind (.inl (um q)))))
theorem q_{c:Nat}{fs:FA}{Q:Ou->aG->Prop}(h:W3 (fs δ S) fun vs S1=>vs.length<=sizeLine/\Y c S1):WE (fk c (eU fs) δ S) Q Y:=WE.bind (.inl (um (h.mono fun vs S1 ⟨h1,h2⟩=>by
 unfold R3.aI;rw[decide_eq_true h1];exact .inr ⟨c,S1,rfl,h2⟩)))
theorem mS{Q:Ou->aG->Prop}(h:Q (.nx δ) S):WE (mK δ S) Q Y:=WE.ok h
theorem Kk{N:List Str}{F:FZ}{vs:List V3}{Q:V3->aG->Prop}(e:dm N vs=δ)(h:WE (F δ S) (fun o S1=>match o with | .rt v=>Q v S1 | .nx _=>Q (.d .cu) S1) Y):WE (tm N F vs S) Q Y:=by
 unfold tm;rw[e];refine WE.bind (h.mono (fun o S1 q=>?_) fun _ _ q=>q)
 cases o with
 | nx δ1=>exact WE.ok q
 | rt v=>exact WE.ok q
theorem S9{g:List V3->aG->R3 V3}{vs:List V3}{QV:V3->aG->Prop}(hS:JN S)(h:WE (g vs S) (fun v S1=>mM S.length v=true/\(∃T,S1=S++T)/\∃d,res S1 v=some d/\QV (.d d) S) (fun c S1=>(∃T,S1=S++T)/\Y c S)):WE (Dm g vs S) QV Y:=by
 rcases h with h | ⟨c,S1,e,⟨T,rfl⟩,q⟩
 .exact .inl (Rp hS h)
 .exact .inr ⟨c,S,Vh hS e,q⟩
theorem HK{t:FG}{F:FZ}(I:Nat->DE->aG->Prop){vs:List V3}(h0:I 0 δ S)(step:∀i v δ1 S1,vs[i]? =some v->I i δ1 S1->∃kQ,t v δ1=some kQ/\WE (F kQ S1) (fun o S2=>∃QK,o= .nx QK/\I (i+1) QK S2) Y) :
 WE (g4 t F vs δ S) (fun o S1=>∃δ1,o= .nx δ1/\I vs.length δ1 S1) Y:=by
 induction vs generalizing I δ S with
 | nil=>exact .inl ⟨_,_,rfl,δ,rfl,h0⟩
 | cons v vs ih=>
   obtain⟨kQ,e,h⟩:=step 0 v δ S rfl h0;unfold g4;rw[e];refine WE.bind (h.mono (fun o S2 ⟨QK,e3,q⟩=>?_) fun _ _ q=>q)
   subst e3;exact ih (fun i=>I (i+1)) q fun i w δ1 S1 hw hi=>step (i+1) w δ1 S1 hw hi
theorem Hh{it:FA}{Q:Ou->aG->Prop}(h:W3 (it δ S) fun vs S1=>WE (g4 t F vs δ S1) Q Y):WE (vL (M9 it) t F δ S) Q Y:=WE.bind (.inl (A1 h))
theorem K5{F G:FZ}{ok:Nat->Bool}{i:Nat}{Q:Ou->aG->Prop}(h:WE (F δ S) Q fun c S1=>ok c=true/\W3 (G ((List.replicate δ.length none).set i (some (.loc S1.length))) (S1++[.exc c])) fun o S2=>∃δ1,o= .nx δ1/\Q (.nx (δ1.set i none)) S2):W3 (tG F ok i G δ S) Q:=by
 rcases h with h | ⟨c,S1,e,h1,h2⟩
 .exact JL h
 .exact Jl e h1 h2
end
end
end L3
end
section
namespace L2
open PySem PySem.Spec PyProof.Rows
def gK(ks:List (Str × Int)):List (Key × V):=ks.map fun p=>(Sum.inr p.1,V.int p.2)
def mY(P:Program)(w:World)(K:W.Frag)(mg:Yd)(x:Str)(ks:List (Str × Int)):Prop:=∃a,mg x=some (.ref a)/\∀(H:Hp) (h:Heap),K.In h->cR P w H h a (.dK (gK ks))
theorem uz(x:Str):∀ks:List (Str × Int),kx (gK ks) (Sum.inr x)=(ks.lookup x).map V.int
 | []=>rfl
 | (y,i) ::ks=>by
   have ih:=uz x ks;unfold kx gK at ih ⊢;rw[List.map_cons,List.find?_cons,List.lookup_cons];by_cases h:x=y
   .subst h;simp
   .have h1:decide ((Sum.inr y:Key)=Sum.inr x)=false:=decide_eq_false fun q=>h (Sum.inr.inj q).symm
    have h2:(x==y)=false:=beq_eq_false_iff_ne.mpr h;simp only[h1,h2];exact ih
def LH(w:World)(es:List (Str × Tok × Int × Tok)):List DictEntry:=es.map fun e=>⟨hashStr w e.1, .str e.1 e.2.1, .int e.2.2.1 e.2.2.2⟩
theorem wY{P:Program}{w:World}{K:W.Frag}{h:Heap}{mg:Yd}(X:K.In h)(G:h.Ns mainGlobals mg){x:Str}{a:Addr}{es:Array DictEntry}{n:Nat}(ts:List (Str × Tok × Int × Tok)){ks:List (Str × Int)}
 (e:PySem.W.nsIn K mainGlobals x=some (some (.ref a))) (l:K.lookup a=some {cls:= .type "dict",data:= .dict es n}) (hs:es.toList=LH w ts) (hk:ks=ts.map fun e=>(e.1,e.2.2.1)) (hd:(ks.map (·.1)).Nodup) (hm:(a==sysModules)=false) (hz:ks.length<=1000):mY P w K mg x ks:=by
 subst hk;refine⟨a,PySem.W.mg_of X G e,fun H h2 X2=>⟨?_,hm,ts.map fun e=>(Sum.inr e.1, .int e.2.2.1 e.2.2.2),?_,_,es,n,X2 a _ l,⟨rfl,rfl,?_⟩,rfl,fun q hq=>?_,?_,?_⟩⟩
 .unfold gK;rw [List.length_map,sizeLine_eq];omega
 .unfold gK;rw[List.map_map]
  clear hs hd hz
  induction ts with
  | nil=>exact .nil
  | cons t ts ih=>exact .cons ⟨rfl,⟨_,rfl⟩⟩ ih
 .rfl
 .have:q∈LH w ts:=by rw[<-hs];exact Array.mem_toList_iff.mpr hq
  obtain⟨t,_,rfl⟩:=List.mem_map.mp this;exact⟨Sum.inr t.1,ng P w _ _,rfl⟩
 .rw [hs]
  clear hs hd hz
  induction ts with
  | nil=>exact .nil
  | cons t ts ih=>exact .cons (ng P w _ _) rfl ih
 .rw [List.map_map] at hd ⊢;have:(ts.map ((fun x:Key × Value=>x.1) ∘ fun e:Str × Tok × Int × Tok=>(Sum.inr e.1, .int e.2.2.1 e.2.2.2)))=(ts.map ((fun x:Str × Int=>x.1) ∘ fun e:Str × Tok × Int × Tok=>(e.1,e.2.2.1))).map Sum.inr:=by
   rw[List.map_map];rfl
  rw[this];exact hd.map _ fun _ _ z q=>z (Sum.inr.inj q)
section
variable {X:Cx}
theorem uS{ks:List (Str × Int)}{p:Pos}(g:mY X.prog X.w X.K X.mg x ks)(hg:Gl X x)(j9:(x==("__debug__":Str))=false:=by decide):∃a,PE X (.Name x p) (tC (.ref a))/\∀(H:Hp) (h:Heap),X.K.In h->cR X.prog X.w H h a (.dK (gK ks)):=by
 obtain⟨a,hm,ok⟩:=g;exact⟨a,dk (v:= .ref a) hg hm rfl j9,ok⟩
def Kt(ks:List (Str × Int))(d:D):R Bool:=match d with | .str x=> .ok (ks.lookup x).isSome | _=> .no
def Im(ks:List (Str × Int))(f:FD):FD:=fun δ=>(f δ).bind fun d=>(Kt ks d).bind fun b=> .ok (.bl b)
def S6(ks:List (Str × Int))(f:FD):FD:=fun δ=>(f δ).bind fun d=>(Kt ks d).bind fun b=> .ok (.bl (!b))
def TU(ks:List (Str × Int))(f:FD):aq->R Bool:=fun δ=>(f δ).bind fun d=>Kt ks d
def Ih(ks:List (Str × Int))(f:FD):aq->R Bool:=fun δ=>(f δ).bind fun d=>(Kt ks d).bind fun b=> .ok (!b)
def wH(ks:List (Str × Int))(f:FD):FD:=fun δ=>(f δ).bind fun d=>match d with | .str x=>(match ks.lookup x with | some i=> .ok (.int i) | none=> .no) | _=> .no
def MA(ks:List (Str × Int))(neg:Bool)(t:TE):TE:=fun σ H Q=>t σ H fun y H1=>∃x,y= .str x/\Q (.bl (neg !=(ks.lookup x).isSome)) H1
theorem IA{ks:List (Str × Int)}{p:Pos}{t:TE}(hu:X.A.units+1 < cLine)(hi:PE X i t)(g:mY X.prog X.w X.K X.mg x ks)(hg:Gl X x)(j9:(x==("__debug__":Str))=false:=by decide):PC X .In i (.Name x p) (MA ks false t):=by
 obtain⟨a,ho,ok⟩:=uS (p:=p) g hg j9;intro pins s σ H Q I h;refine cU (hi pins s σ H _ I h) fun iv s1 ⟨y,H1,I1,ry,z,ey,q1⟩=>cU (ho pins s1 σ H1 (fun u H2=>u= .ref a/\H2=H1) I1 ⟨rfl,rfl⟩) fun u s2 ⟨uv,H2,I2,rx,e1,e2⟩=>?_
 subst ey e1 e2;obtain rfl:u=Value.ref a:=rx;obtain⟨hz,hd,vs,rel,dd⟩:=ok H2 s2.heap I2.nZ;refine wpAny_in_of (qG (k:=Sum.inr z) ry) hd dd.mapOf ?_;rw[<-(rel.val (Sum.inr z)).g_,uz,Option.isSome_map];refine⟨.bl _,H2,I2.tok _,rfl,?_⟩;simpa using q1
theorem Ho{ks:List (Str × Int)}{p:Pos}{t:TE}(hu:X.A.units+1 < cLine)(hi:PE X i t)(g:mY X.prog X.w X.K X.mg x ks)(hg:Gl X x)(j9:(x==("__debug__":Str))=false:=by decide):PC X .NotIn i (.Name x p) (MA ks true t):=by
 obtain⟨a,ho,ok⟩:=uS (p:=p) g hg j9;intro pins s σ H Q I h;refine cU (hi pins s σ H _ I h) fun iv s1 ⟨y,H1,I1,ry,z,ey,q1⟩=>cU (ho pins s1 σ H1 (fun u H2=>u= .ref a/\H2=H1) I1 ⟨rfl,rfl⟩) fun u s2 ⟨uv,H2,I2,rx,e1,e2⟩=>?_
 subst ey e1 e2;obtain rfl:u=Value.ref a:=rx;obtain⟨hz,hd,vs,rel,dd⟩:=ok H2 s2.heap I2.nZ;refine wpAny_notIn_of (qG (k:=Sum.inr z) ry) hd dd.mapOf ?_;rw[<-(rel.val (Sum.inr z)).g_,uz,Option.isSome_map];refine⟨.bl _,H2,I2.tok _,rfl,?_⟩;simpa using q1
theorem CI{ks:List (Str × Int)}{d:D}{b:Bool}(h:Kt ks d= .ok b):∃x,d= .str x/\b=(ks.lookup x).isSome:=by
 unfold Kt at h;split at h
 .cases h;exact⟨_,rfl,rfl⟩
 .cases h
theorem Gh{ks:List (Str × Int)}{p pos:Pos}(hu:X.A.units+1 < cLine)(hi:QD X i f)(g:mY X.prog X.w X.K X.mg x ks)(hg:Gl X x)(j9:(x==("__debug__":Str))=false:=by decide)(hm:behindInMarks .In (.Name x p)=false:=by with_unfolding_all rfl):QD X (.Compare i [.In] [.Name x p] pos) (Im ks f):=
 ⟨(JA (IA hu hi.1 g hg j9) hm).imp fun σ H Q ⟨Z,B,δ,d,E,hf,q⟩=>by
   obtain⟨d1,h1,h2⟩:=R.af hf;obtain⟨b,h3,h4⟩:=R.af h2;cases h4;obtain⟨z,rfl,rfl⟩:=CI h3;exact⟨Z,B,δ,_,E,h1,fun v H1 s1 r1=>⟨z,Rep.str.mp r1,q _ H1 s1 (by rw[Bool.false_bne];exact Rep.bl.mpr rfl)⟩⟩⟩
theorem F4{ks:List (Str × Int)}{p pos:Pos}(hu:X.A.units+1 < cLine)(hi:QD X i f)(g:mY X.prog X.w X.K X.mg x ks)(hg:Gl X x)(j9:(x==("__debug__":Str))=false:=by decide)(hm:behindInMarks .NotIn (.Name x p)=false:=by with_unfolding_all rfl):QB X (.Compare i [.NotIn] [.Name x p] pos) (Ih ks f):=
 ⟨(xU (Ho hu hi.1 g hg j9) hm).imp fun σ H Q ⟨Z,B,δ,b,E,hf,q⟩=>by
   obtain⟨d1,h1,h2⟩:=R.af hf;obtain⟨b,h3,h4⟩:=R.af h2;cases h4;obtain⟨z,rfl,rfl⟩:=CI h3;exact⟨Z,B,δ,_,E,h1,fun v H1 s1 r1=>⟨z,Rep.str.mp r1,_,rfl,by rw[Bool.true_bne];exact q H1 s1⟩⟩⟩
theorem vT{ks:List (Str × Int)}{p pos:Pos}(hi:QD X i f)(g:mY X.prog X.w X.K X.mg x ks)(hg:Gl X x)(hs:EX i)(j9:(x==("__debug__":Str))=false:=by decide):QD X (.Subscript (.Name x p) i pos) (wH ks f):=⟨by
 obtain⟨a,ho,ok⟩:=uS (p:=p) g hg j9;intro pins s σ H Q I ⟨Z,B,δ,d,E,hf,q⟩;obtain⟨d1,h1,h2⟩:=R.af hf;have key:∃z n,d1= .str z/\ks.lookup z=some n/\d= .int n:=by
  split at h2
  .split at h2
   .rename_i e;cases h2;exact⟨_,_,rfl,e,rfl⟩
   .cases h2
  .cases h2
 obtain⟨z,n,rfl,hl,rfl⟩:=key;refine yX PySem.F.slot_dict_getitem.lookup hs (cU (ho pins s σ H (fun u H2=>u= .ref a/\H2=H) I ⟨rfl,rfl⟩) fun u s1 ⟨uv,H1,I1,rx,e1,e2⟩=>?_)
 subst e1 e2;obtain rfl:u=Value.ref a:=rx;refine cU (hi.1 pins s1 σ H1 (fun v H'=>aH H1 H'/\Rep X.K B H' (.str z) v) I1 ⟨Z,B,δ,_,E,h1,fun v H' s1 r1=>⟨s1,r1⟩⟩) fun iv s2 ⟨y,H2,I2,ry,ss,r2⟩=>?_
 cases Rep.str.mp r2;obtain⟨hz,hd,vs,rel,dd⟩:=ok H2 s2.heap I2.nZ;obtain⟨w',hw,xb⟩:=m4.some_of (v:= .int n) (o:=valueAt vs (Sum.inr z)) (by rw[show some (V.int n)=kx (gK ks) (Sum.inr z) by rw[uz,hl];rfl];exact rel.val (Sum.inr z))
 refine⟨dd.typeIs,wpAny_getItem_of (qG (k:=Sum.inr z) ry) dd.mapOf hw ?_⟩;exact⟨.int n,H2,I2.tok _,xb,q _ H2 ss (Rep.int.mpr rfl)⟩⟩
end
end L2
namespace L3
open PySem PySem.Spec PyProof.Rows L2
section
variable {X:Cx} {cl:Ye} {E:XK}
def kz(S:aG)(k:Nat):Option Nat:=match S[k]? with | some (.lst ds)=>some ds.length | some (.dct aA)=>some aA.length | _=>none
def xo(f:FX):FX:=fun δ S=>(f δ S).bind fun v S1=>match v with | .loc k=>(match kz S1 k with | some n=> .ok (.d (.int n)) S1 | none=> .no) | _=> .no
theorem Dc{K:W.Frag}{ρ:P3}{H:Hp}{S:aG}(w:SW K cl ρ H S){k n:Nat}{a:Addr}(ha:ρ.r[k]? =some a)(h:kz S k=some n):(∃xs,H a=some (.lst xs)/\xs.length=n)\/∃ys,H a=some (.dK ys)/\ys.length=n:=by
 unfold kz at h;split at h
 .rename_i ds e;cases h;obtain⟨xs,e1,r⟩:=w.ob k a _ ha e;exact .inl ⟨xs,e1,r.length.symm⟩
 .rename_i aA e;cases h;obtain⟨ys,e1,e2,r⟩:=w.ob k a _ ha e;refine .inr ⟨ys,e1,?_⟩;have:=congrArg List.length e2
  rwa [List.length_map,List.length_map] at this
 .cases h
theorem pj{p pos:Pos}(he:PX X cl e f)(hg:Gl X "len")(hm:X.mg "len"=none)(hs:starEach [e] X.env=(false,eval e X.env) ::starEach [] X.env:=by rfl)(lP:(backTo pos (starEach [] X.env)).any (·.1)=false:=by rfl):PX X cl (.Call (.Name "len" p) [e] [] pos) (xo f):=⟨by
 have both:jS X (.builtin "len") (fun xs H Q=>(∃p ys,xs=[.ref p]/\(nX X.K H p ys\/qp X.K H p ys)/\Q (.int ys.length) H)\/(∃a aA,xs=[V.ref a]/\H a=some (.dK aA)/\Q (.int aA.length) H)):=fun pins s σ H xs us Q I r h=>h.elim (vd pins s σ H xs us Q I r) (Aa pins s σ H xs us Q I r)
 refine(pJ both hg hm boot_len (fZ he.1 lW hs) (by decide) (by decide) hs lP).imp fun σ H Q ⟨ρ,S,δ,v,S',En,hf,q⟩=>?_
 obtain⟨v1,S1,h1,h2⟩:=R3.af hf;refine⟨ρ,S,δ,v1,S1,En,h1,fun u bA H1 p1 w1 r1=>?_⟩
 split at h2
 .rename_i k;split at h2
  .rename_i n hn;cases h2;unfold aO at r1;obtain⟨a,ha,rfl⟩:=r1;rcases Dc w1 ha hn with⟨xs,e1,rfl⟩ | ⟨ys,e1,rfl⟩
   .exact .inl ⟨a,xs,rfl, .inl (nX.of e1),q _ bA H1 p1 w1 (by unfold aO;exact Rep.int.mpr rfl)⟩
   .exact .inr ⟨a,ys,rfl,e1,q _ bA H1 p1 w1 (by unfold aO;exact Rep.int.mpr rfl)⟩
  .cases h2
 .cases h2⟩
theorem wK{f:FX}{δ:DE}{S:aG}{Q:V3->aG->Prop}(h:W3 (f δ S) fun v S1=>∃k n,v= .loc k/\kz S1 k=some n/\Q (.d (.int n)) S1):W3 (xo f δ S) Q:=W3.bind (h.mono fun v S1 ⟨k,n,e,e1,q⟩=>by subst e;simp only[e1];exact W3.ok q)
def mT(f:FX):FB:=fun δ S=>(f δ S).bind fun v S1=>match v with | .loc k=>(match kz S1 k with | some n=> .ok (decide (n≠0)) S1 | none=> .no) | _=> .no
theorem nc{a:Expr}(ha:PX X cl a f)(he:∀whole,isTrue a X.env whole=(do let v <-whole;standAt a.pos;holding [v] (truthy v)):=by intro _;rfl):A7 X cl a (mT f):=⟨(wZ ha.1 he).imp fun σ H Q ⟨ρ,S,δ,b,S',En,hf,q⟩=>by
 obtain⟨v1,S1,h1,h2⟩:=R3.af hf;refine⟨ρ,S,δ,v1,S1,En,h1,fun u bA H1 p1 w1 r1=>?_⟩
 split at h2
 .rename_i k;split at h2
  .rename_i n hn;cases h2;unfold aO at r1;obtain⟨a,ha,rfl⟩:=r1;refine⟨_,?_,q bA H1 p1 w1⟩;rcases Dc w1 ha hn with⟨xs,e1,rfl⟩ | ⟨ys,e1,rfl⟩
   .exact .inl ⟨xs,nX.of e1,by cases xs <;> simp⟩
   .exact .inr (.inr ⟨ys,e1,by cases ys <;> simp⟩)
  .cases h2
 .cases h2⟩
theorem rK{f:FX}{δ:DE}{S:aG}{Q:Bool->aG->Prop}(h:W3 (f δ S) fun v S1=>∃k n,v= .loc k/\kz S1 k=some n/\Q (decide (n≠0)) S1):W3 (mT f δ S) Q:=W3.bind (h.mono fun v S1 ⟨k,n,e,e1,q⟩=>by subst e;simp only[e1];exact W3.ok q)
def qb(v o:V3)(S:aG):Option (Option D):=match v,o with
 | .d x, .loc k=>(match rM x,S[k]? with | some key,some (.dct aA)=>some ((aA.find? fun kv=>decide (kv.1=key)).map (·.2)) | _,_=>none)
 | _,_=>none
def Ul(neg:Bool)(fa fb:FX):FX:=fun δ S=>(fa δ S).bind fun v S1=>(fb δ S1).bind fun o S2=>match qb v o S2 with | some r=> .ok (.d (.bl (neg !=r.isSome))) S2 | none=> .no
def yp(neg:Bool)(fa fb:FX):FB:=fun δ S=>(fa δ S).bind fun v S1=>(fb δ S1).bind fun o S2=>match qb v o S2 with | some r=> .ok (neg !=r.isSome) S2 | none=> .no
def CK(fo fi:FX):FX:=fun δ S=>(fo δ S).bind fun o S1=>(fi δ S1).bind fun v S2=>match qb v o S2 with | some (some d)=> .ok (.d d) S2 | _=> .no
theorem zW{K:W.Frag}{B:List Addr}(key:Key):∀{aA:List (Key × D)} {ys:List (Key × V)},ys.map (·.1)=aA.map (·.1)->az K B H (aA.map (·.2)) (ys.map (·.2))->
 (kx ys key=none/\aA.find? (fun kv=>decide (kv.1=key))=none)\/∃v kv,kx ys key=some v/\aA.find? (fun kv=>decide (kv.1=key))=some kv/\Rep K B H kv.2 v
 | [],[],_,_=> .inl ⟨rfl,rfl⟩
 | [],_ ::_,e,_=>by simp at e
 | _ ::_,[],e,_=>by simp at e
 | (k1,d) ::aA,(k2,y) ::ys,e,r=>by
   obtain⟨e1,e2⟩:=List.cons.inj e;have e1:k2=k1:=e1;subst e1;obtain⟨z,zs,ez,r1,r2⟩:=r.cq;obtain⟨WA,V7⟩:=List.cons.inj ez;subst WA V7;unfold kx;by_cases h:k2=key
   .refine .inr ⟨_,(k2,d),?_,?_,r1⟩
    .rw [List.find?_cons_of_pos (by simpa using h)];rfl
    .rw [List.find?_cons_of_pos (by simpa using h)]
   .rw [List.find?_cons_of_neg (by simpa using h),List.find?_cons_of_neg (by simpa using h)]
    exact zW key e2 r2
theorem xX{K:W.Frag}{ρ:P3}{S:aG}(w:SW K cl ρ H S){v o:V3}{r:Option D}{u y:V}(h:qb v o S=some r)(rv:aO K ρ H v y)(ro:aO K ρ H o u):∃a z,u= .ref a/\pT H a y z/\((z=none/\r=none)\/∃v d,z=some v/\r=some d/\Rep K ρ.b H d v):=by
 unfold qb at h;split at h
 .rename_i x k;split at h
  .rename_i key aA hk hS;cases h;unfold aO at ro rv;obtain⟨a,ha,rfl⟩:=ro;obtain⟨ys,e1,e2,q⟩:=w.ob k a _ ha hS;have:=wX hk rv;subst this;refine⟨a,_,rfl,pT.k (k:=key) e1,?_⟩;rcases zW key e2 q with⟨z1,z2⟩ | ⟨v,kv,z1,z2,z3⟩
   .rw [z1,z2];exact .inl ⟨rfl,rfl⟩
   .rw [z1,z2];exact .inr ⟨v,kv.2,rfl,rfl,z3⟩
  .cases h
 .cases h
theorem uy{pos:Pos}(hu:X.A.units+1 < cLine)(ha:PX X cl a fa)(hb:PX X cl b fb)(hm:behindInMarks .In b=false:=by with_unfolding_all rfl):A7 X cl (.Compare a [.In] [b] pos) (yp false fa fb):=⟨(xU (HD hu ha.1 hb.1) hm).imp fun σ H Q ⟨ρ,S,δ,v,S',En,hf,q⟩=>by
 obtain⟨j,S1,h1,h2⟩:=R3.af hf;obtain⟨o,S2,h3,h4⟩:=R3.af h2;refine⟨ρ,S,δ,j,S1,En,h1,fun u1 bA H1 p1 w1 r1=>⟨bA,S1,δ,o,S2,En.to p1 w1,h3,fun u2 o9 H2 p2 w2 r2=>?_⟩⟩
 split at h4
 .rename_i r hd;cases h4;obtain⟨ad,z,rfl,g,c⟩:=xX w2 hd (r1.pre p2) r2;refine⟨ad,z,rfl,g,_,rfl,?_⟩;have:=q o9 H2 (p1.trans p2) w2;rcases c with⟨rfl,rfl⟩ | ⟨v,d,rfl,rfl,_⟩ <;> exact this
 .cases h4⟩
theorem Ez{pos:Pos}(hu:X.A.units+1 < cLine)(ha:PX X cl a fa)(hb:PX X cl b fb)(hm:behindInMarks .NotIn b=false:=by with_unfolding_all rfl):A7 X cl (.Compare a [.NotIn] [b] pos) (yp true fa fb):=⟨(xU (Az hu ha.1 hb.1) hm).imp fun σ H Q ⟨ρ,S,δ,v,S',En,hf,q⟩=>by
 obtain⟨j,S1,h1,h2⟩:=R3.af hf;obtain⟨o,S2,h3,h4⟩:=R3.af h2;refine⟨ρ,S,δ,j,S1,En,h1,fun u1 bA H1 p1 w1 r1=>⟨bA,S1,δ,o,S2,En.to p1 w1,h3,fun u2 o9 H2 p2 w2 r2=>?_⟩⟩
 split at h4
 .rename_i r hd;cases h4;obtain⟨ad,z,rfl,g,c⟩:=xX w2 hd (r1.pre p2) r2;refine⟨ad,z,rfl,g,_,rfl,?_⟩;have:=q o9 H2 (p1.trans p2) w2;rcases c with⟨rfl,rfl⟩ | ⟨v,d,rfl,rfl,_⟩ <;> exact this
 .cases h4⟩
theorem FL(hu:X.A.units+1 < cLine)(ho:PX X cl o fo)(hi:PX X cl i fi)(hs:EX i):PX X cl (.Subscript o i pos) (CK fo fi):=⟨(EL hu ho.1 hi.1 hs).imp fun σ H Q ⟨ρ,S,δ,v,S',En,hf,q⟩=>by
 obtain⟨o,S1,h1,h2⟩:=R3.af hf;obtain⟨j,S2,h3,h4⟩:=R3.af h2;refine⟨ρ,S,δ,o,S1,En,h1,fun u1 bA H1 p1 w1 r1=>⟨bA,S1,δ,j,S2,En.to p1 w1,h3,fun u2 o9 H2 p2 w2 r2=>?_⟩⟩
 split at h4
 .rename_i d hd;cases h4;obtain⟨ad,z,rfl,g,c⟩:=xX w2 hd r2 (r1.pre p2);rcases c with⟨_,e⟩ | ⟨v,d',rfl,e,r⟩
  .cases e
  .cases e;exact⟨ad,v,rfl,g,q _ o9 H2 (p1.trans p2) w2 (by unfold aO;exact r)⟩
 .cases h4⟩
theorem va{neg:Bool}{fa fb:FX}{δ:DE}{S:aG}{Q:Bool->aG->Prop}(h:W3 (fa δ S) fun v S1=>W3 (fb δ S1) fun o S2=>∃r,qb v o S2=some r/\Q (neg !=r.isSome) S2):W3 (yp neg fa fb δ S) Q:=W3.bind (h.mono fun v S1 h2=>W3.bind (h2.mono fun o S2 ⟨r,e,q⟩=>by simp only[e];exact W3.ok q))
theorem I0{fo fi:FX}{δ:DE}{S:aG}{Q:V3->aG->Prop}(h:W3 (fo δ S) fun o S1=>W3 (fi δ S1) fun v S2=>∃d,qb v o S2=some (some d)/\Q (.d d) S2):W3 (CK fo fi δ S) Q:=W3.bind (h.mono fun v S1 h2=>W3.bind (h2.mono fun o S2 ⟨r,e,q⟩=>by simp only[e];exact W3.ok q))
theorem DF{g:List V3->aG->R3 V3}{k j c:Nat}{p pos:Pos}(M:Du X.prog X.w X.K X.mg X.base cl k c x 0 g)(hr:dw j X.A)(DY:k+1<=j)(hg:Gl X x)(j9:(x==("__debug__":Str))=false:=by decide):PX X cl (.Call (.Name x p) [] [] pos) (CA c g dh):=by
 obtain⟨f,fd,ps,M,F,hm,hb⟩:=M;refine⟨(CL M F (hr.mono DY) hg hm hb .nil Cq j9).imp fun σ H Q ⟨ρ,S,δ,v,S',En,hf,q⟩=>?_⟩
 obtain⟨vs,S1,h1,h2⟩:=R3.af hf;cases h1;obtain⟨v0,S2,h3,h4⟩:=R3.af h2;split at h4
 .cases h4;intro xa dx hx hdx sW;have hx1:upd H dx (.own xa) xa=none:=by rw[aW (fun z=>sW z.symm)];exact hx
  have sm:aH H (upd (upd H dx (.own xa)) xa (.ins (cl c) dx [])):=(bz hdx).trans (bz hx1);obtain⟨w2,p2⟩:=En.sw.new (a:=xa) (o:= .ins c []) sm hx ⟨dx,[],a_,rfl,ay.nil⟩;have rl:aO X.K (ρ.push xa) (upd (upd H dx (.own xa)) xa (.ins (cl c) dx [])) (.loc S.length) (.ref xa):=by
   unfold aO;exact⟨xa,by show(ρ.r++[xa])[_]? =_;rw [<-En.sw.len,List.getElem?_append_right (Nat.le_refl _),Nat.sub_self];rfl,rfl⟩
  exact⟨rfl,_,_,[.loc S.length], .d .cu,_,w2,ay.cons rl ay.nil,h3,fun z A3 H3 p3 w3 r3=>⟨by unfold aO Rep at r3;exact r3,q _ A3 H3 (p2.trans p3) w3 (rl.pre p3)⟩⟩
 .cases h4
end
end L3
end
section
namespace L2
open PySem PySem.Spec PyProof.Rows
section
variable {X:Cx}
def Hi(f:FD):FD:=fun δ=>(f δ).bind fun d=>match d with | .str x=>R.aI (decide ((reprText x).length<=sizeLine)) (.ok (.str (reprText x))) | _=> .no
theorem Bq(h:QD X e f):QD X (.FormattedValue e 114 none pos) (Hi f):=⟨by
 intro pins s σ H Q I ⟨Z,B,δ,d,E,hf,q⟩;obtain⟨d1,h1,h2⟩:=R.af hf;refine wpAny_FormattedValue_repr (cU (h.1 pins s σ H (fun v H'=>aH H H'/\Rep X.K B H' d1 v) I ⟨Z,B,δ,d1,E,h1,fun v H' s1 r1=>⟨s1,r1⟩⟩) fun v s1 ⟨xv,H1,I1,r1,Kf,e1⟩=>?_)
 split at h2
 .obtain⟨h3,h4⟩:=R.aN h2;cases h4;rw[Rep.str.mp e1] at r1;obtain⟨t,rfl⟩:=r1;have h3:=of_decide_eq_true h3;exact pyReprObj_str (formatField_str (fun t' tk=>⟨.str _,H1,I1.tok _,⟨_,rfl⟩,q _ H1 Kf (Rep.str.mpr rfl)⟩) h3) h3
 .cases h2⟩
end
end L2
end
section
namespace L3
open PySem PySem.Spec PyProof.Rows L2
section
variable {X:Cx} {cl:Ye} {E:XK}
theorem wu:xV X cl E [] dh:=⟨lW.imp fun σ H Q ⟨ρ,S,δ,En,z⟩=>by
 rcases z with⟨vs,S',hf,q⟩ | ⟨c,S',hf,q⟩
 .cases hf;exact q _ ρ H (Pre.refl ρ H) En.sw ay.nil
 .cases hf⟩
theorem lF(h:G4 X cl E e f)(t:xV X cl E es g)(hs:starEach (e ::es) X.env=(false,eval e X.env) ::starEach es X.env:=by rfl):xV X cl E (e ::es) (aR f g):=
 ⟨(fZ h.1 t.1 hs).imp fun σ H Q ⟨ρ,S,δ,En,z⟩=>by
   refine⟨ρ,S,δ,En,?_⟩;rcases z with⟨v,S',hf,q⟩ | ⟨c,S',hf,q⟩
   .obtain⟨v1,S1,h1,h2⟩:=R3.af hf;obtain⟨vs,S2,h3,h4⟩:=R3.af h2;cases h4;exact .inl ⟨v1,S1,h1,fun u bA H1 p1 w1 r1=>⟨bA,S1,δ,En.to p1 w1, .inl ⟨vs,_,h3,fun us o9 H2 p2 w2 r2=>q _ o9 H2 (p1.trans p2) w2 (ay.cons (r1.pre p2) r2)⟩⟩⟩
   .rcases R3.eZ hf with h1 | ⟨v1,S1,h1,h2⟩
    .exact .inr ⟨c,S',h1,q⟩
    .rcases R3.eZ h2 with h3 | ⟨vs,S2,h3,h4⟩
     .exact .inl ⟨v1,S1,h1,fun u bA H1 p1 w1 r1=>⟨bA,S1,δ,En.to p1 w1, .inr ⟨c,S',h3,q.pre p1⟩⟩⟩
     .cases h4⟩
theorem zK{x1 pos}(h:xV X cl E es g):G4 X cl E (.Tuple es x1 pos) (xp g):=⟨(xF h.1).imp fun σ H Q ⟨ρ,S,δ,En,z⟩=>by
 refine⟨ρ,S,δ,En,?_⟩;rcases z with⟨v,S',hf,q⟩ | ⟨c,S',hf,q⟩
 .obtain⟨vs,S1,h1,h2⟩:=R3.af hf;obtain⟨hl,h3⟩:=R3.aN h2;cases h3;refine .inl ⟨vs,_,h1,fun us bA H1 p1 w1 r1=>⟨by rw[<-r1.length];exact of_decide_eq_true hl,fun p hp=>q _ bA _ (p1.trans (nK hp)) (w1.same (bz hp)) ?_⟩⟩
  refine t9 (.inl ⟨fun ha=>?_, .inl a_⟩) (r1.pre (nK hp))
  obtain⟨o,ho⟩:=w1.bs p ha;rw[hp] at ho;cases ho
 .rcases R3.eZ hf with h1 | ⟨vs,S1,h1,h2⟩
  .exact .inr ⟨c,S',h1,q⟩
  .unfold R3.aI at h2;split at h2 <;> cases h2⟩
theorem wo{o e:Expr}{fo f:FX}{apos bx pos:Pos}(ho:PX X cl o fo)(he:G4 X cl E e f)
 (hs:starEach [e] X.env=(false,eval e X.env) ::starEach [] X.env:=by rfl) (i3:(apos.endLine==bx.line)=true:=by rfl)
 (mm:((backTo bx (starEach [e] X.env)).all (fun x=>!x.1) && (backToKw bx (keywordEach [] X.env)).all (fun x=>x.1.isSome)
   && decide (([e]:List Expr).length+([]:List Keyword).length+(if([]:List Keyword).isEmpty then 0 else 1) < 30))=true:=by rfl)
 (D4:swapsWith (.Call (.Attribute o "append" apos) [e] [] bx) none pos.line X.env=pure false:=by rfl)
 (i0:attributeBase o "append" X.env (eval o X.env)=eval o X.env:=by rfl) :
 G_ X cl E (.Expr (.Call (.Attribute o "append" apos) [e] [] bx) pos) (mD (tP fo) f):=by
 refine⟨(uK (BF (X:=X) PySem.F.plainAttrs_list PySem.F.slot_list_append PySem.F.type_list_append pZ ho.1 (fZ he.1 lW hs) i0 mm i3 hs) D4).imp fun D σ H ⟨ρ,S,δ,En,z⟩=>?_⟩
 have key:∃k S0 DZ,fo δ S= .ok (.loc k) S0/\cY S0 k=some DZ/\((∃v S1 ds,f δ S0= .ok (.d v) S1/\cY S1 k=some ds/\ds.length < sizeLine/\uU X.K cl ρ H D (S1.set k (.lst (ds++[v]))) (.nx δ))\/∃c S',f δ S0= .ex c S'/\zw X.K cl E ρ H S' c):=by
  rcases z with⟨oo,S',hf,q⟩ | ⟨c,S',hf,q⟩
  .unfold mD at hf;obtain⟨vo,S0,g1,g2⟩:=R3.af hf;split at g2
   .rename_i k;split at g2
    .cases g2
    .rename_i DZ h0;obtain⟨v,S1,h1,h2⟩:=R3.af g2;split at h2
     .rename_i d;split at h2
      .rename_i ds h3;obtain⟨hl,h4⟩:=R3.aN h2;cases h4;exact⟨k,S0,DZ,i7 g1,h0, .inl ⟨d,S1,ds,h1,h3,of_decide_eq_true hl,q⟩⟩
      .cases h2
     .cases h2
   .cases g2
  .unfold mD at hf;rcases R3.eZ hf with g1 | ⟨vo,S0,g1,g2⟩
   .exact(oF g1).elim
   .split at g2
    .rename_i k;split at g2
     .cases g2
     .rename_i DZ h0;rcases R3.eZ g2 with h1 | ⟨v,S1,h1,h2⟩
      .exact⟨k,S0,DZ,i7 g1,h0, .inr ⟨c,S',h1,q⟩⟩
      .split at h2
       .split at h2
        .unfold R3.aI at h2;split at h2 <;> cases h2
        .cases h2
       .cases h2
    .cases g2
 obtain⟨k,S0,DZ,g1,h0,z⟩:=key;refine⟨ρ,S,δ, .loc k,S0,En,g1,fun u O6 H0 p0 w0 r0=>?_⟩
 unfold aO at r0;obtain⟨a,a1,rfl⟩:=r0;obtain⟨Qv,x0,_⟩:=w0.ob k a _ a1 (g9 h0);refine⟨.inl ⟨rfl,Qv,nX.of x0⟩,⟨O6,S0,δ,En.to p0 w0,?_⟩⟩;rcases z with⟨d,S1,ds,h1,h3,hl,q⟩ | ⟨c,S',h1,q⟩
 .refine .inl ⟨.d d,S1,h1,fun y bA H1 p1 w1 r1=>?_⟩
  have b1:=p1.ext k a a1;obtain⟨xs,x1,x2⟩:=w1.ob k a _ b1 (g9 h3);refine⟨a,xs,y,rfl,rfl,x1,by rw[<-x2.length];exact hl,?_⟩
  unfold aO at r1;obtain⟨w2,p2⟩:=w1.put (o:= .lst (ds++[d])) (u:= .lst (xs++[y])) b1 (w1.fz k a b1 (by rw[g9 h3];intro h;cases h)) ⟨xs++[y],rfl,x2.append (az.cons r1 az.nil)⟩
  exact q σ bA _ (p0.trans (p1.trans p2)) (En.to (p0.trans (p1.trans p2)) w2)
 .exact .inr ⟨c,S',h1,q.pre p0⟩
section
variable {S:aG} {δ:DE} {Y:Nat->aG->Prop}
theorem r6{f:FX}{g:FA}{Q:List V3->aG->Prop}(h:WE (f δ S) (fun v S1=>WE (g δ S1) (fun vs S2=>Q (v ::vs) S2) Y) Y):WE (aR f g δ S) Q Y:=WE.bind (h.mono (fun v S1 q=>WE.bind (q.mono (fun vs S2 q=>WE.ok q) fun _ _ q=>q)) fun _ _ q=>q)
theorem Bl{Q:List V3->aG->Prop}(h:Q [] S):WE (dh δ S) Q Y:=WE.ok h
theorem G1{g:FA}{Q:V3->aG->Prop}(h:WE (g δ S) (fun vs S1=>vs.length<=sizeLine/\Q (vD vs) S1) Y):WE (xp g δ S) Q Y:=WE.bind (h.mono (fun vs S1 ⟨hl,q⟩=>by
 unfold R3.aI;rw[decide_eq_true hl];exact WE.ok q) fun _ _ q=>q)
theorem Cd{fo f:FX}{k:Nat}{Q:Ou->aG->Prop}(h:W3 (fo δ S) fun o S0=>o= .loc k/\(∃ds,S0[k]? =some (.lst ds))/\WE (f δ S0) (fun v S1=>∃d ds,v= .d d/\S1[k]? =some (.lst ds)/\ds.length < sizeLine/\Q (.nx δ) (S1.set k (.lst (ds++[d])))) Y):WE (mD (tP fo) f δ S) Q Y:=by
 unfold mD;refine WE.bind (.inl (Bm (h.mono fun o S0 ⟨e,⟨DZ,h0⟩,h⟩=>?_)))
 subst e;have e0:cY S0 k=some DZ:=by unfold cY;rw [h0]
 simp only[e0];refine WE.bind (h.mono (fun v S1 ⟨d,ds,e1,e2,hl,q⟩=>?_) fun _ _ q=>q)
 subst e1;have e3:cY S1 k=some ds:=by unfold cY;rw [e2]
 simp only[e3];unfold R3.aI;rw[decide_eq_true hl];exact WE.ok q
end
end
end L3
end
section
namespace L3
open PySem PySem.Spec PyProof.Rows L2
section
variable {X:Cx} {cl:Ye} {E:XK}
def T9(g:D->List D->R D)(fo:FX)(fs:FA):FX:=fun δ S=>(fo δ S).bind fun o S1=>match o with
 | .d (.str z)=>(fs δ S1).bind fun vs S2=>(match qf vs with | some ds=>(R3.of (g (.str z) ds) S2).bind fun d S=> .ok (.d d) S | none=> .no)
 | _=> .no
end
end L3
end
section
namespace L2
open PySem PySem.Spec PyProof.Rows Builtin Builtin.Str
section
variable {prog:Program} {w:World} {A:Around} {E:X_} {s:Shared} {x:Str} {t:Tok} {Q:X_}
theorem Ds{y:Str}{u:Tok}(hy:(y.length==0)=false)
 (hq:∀l k,l.map (·.1)=Txt.split x y->Q (.ref s.heap.objs.size) {s with toks:=k,heap:=s.heap.push {cls:= .type "list",data:= .seq (strValues l).toArray}})
 (hsz:x.length<=sizeLine) (PF:(partsBetween x (occurrences x y 0 x.length (x.length+1)) y.length).length<=sizeLine) :
 wpAny (model prog w) A (call (.builtin "str.split") [.str x t, .str y u]) Q E s:=by
 cases h1:(decide (x.length < y.length) || decide (strKind x < strKind y))
 .cases hf:(occurrences x y 0 x.length (x.length+1)).isEmpty
  .refine call_meets F.slot_str_split (typeIs_str _ _ _) F.entry_str_split (F.args_str_split_2 _ _) (meets_str_split_sep x y t u h1 hy hf hsz PF) ?_;show wants Q E _ {s with toks:=_,heap:=s.heap.push {cls:= .type "list",data:= .seq (strsFrom s.toks (partsBetween x (occurrences x y 0 x.length (x.length+1)) y.length)).toArray}}
   rw[strsFrom_eq];exact hq (numbered s.toks _) _ ((numbered_texts _ _).trans ((if_neg (ne_true_of_eq_false h1)).trans (if_neg (ne_true_of_eq_false hf))).symm)
  .exact call_meets F.slot_str_split (typeIs_str _ _ _) F.entry_str_split (F.args_str_split_2 _ _) (meets_str_split_not_found x y t u h1 hy hf)
    (hq [(x,t)] s.toks ((if_neg (ne_true_of_eq_false h1)).trans (if_pos hf)).symm)
 .exact call_meets F.slot_str_split (typeIs_str _ _ _) F.entry_str_split (F.args_str_split_2 _ _) (meets_str_split_cannot_occur x y t u h1)
   (hq [(x,t)] s.toks (if_pos h1).symm)
def g0(x y:Str):List Str:=match occurrences x y 0 x.length 1 with
 | i ::_=>[strSub x 0 i,y,strSub x (i+y.length) x.length]
 | []=>[x,Str.empty,Str.empty]
theorem ES{y:Str}{u:Tok}(hy:(y.length==0)=false)
 (hq:∀l k,l.map (·.1)=g0 x y->Q (.ref s.heap.objs.size) {s with toks:=k,heap:=s.heap.push {cls:= .type "tuple",data:= .seq (strValues l).toArray}}) (hsz:x.length<=sizeLine) :
 wpAny (model prog w) A (call (.builtin "str.partition") [.str x t, .str y u]) Q E s:=by
 refine call_meets F.slot_str_partition (typeIs_str _ _ _) F.entry_str_partition (F.args_str_partition_2 _ _) (meets_str_partition x y t u hy hsz) ?_;show wants Q E _ _;unfold g0 at hq;split
 .rename_i i r e;rw[e] at hq;exact hq [(strSub x 0 i,_),(y,u),(strSub x (i+y.length) x.length,_)] _ rfl
 .rename_i e;rw[e] at hq;exact hq [(x,t),(Str.empty,_),(Str.empty,_)] _ rfl
end
section
variable {X:Cx}
def nt(d:D)(ds:List D):R D:=match d,ds with
 | .str x,[.str y]=>R.aI (decide ((y.length==0)=false/\x.length<=sizeLine/\(Txt.split x y).length<=sizeLine/\(partsBetween x (occurrences x y 0 x.length (x.length+1)) y.length).length<=sizeLine)) (.ok (.lst ((Txt.split x y).map .str)))
 | _,_=> .no
def wO(d:D)(ds:List D):R D:=match d,ds with
 | .str x,[.str y]=>R.aI (decide ((y.length==0)=false/\x.length<=sizeLine)) (.ok (.tup ((g0 x y).map .str)))
 | _,_=> .no
theorem p7:∀(l:List (Str × Tok)),Vals ((l.map (·.1)).map V.str) (strValues l)
 | []=> .nil
 | p ::l=> .cons ⟨p.2,rfl⟩ (p7 l)
theorem m_split:HG X "str.split" nt:=by
 intro pins s σ H B da d ds x xs v us I hb rx rxs ra rs hg;unfold nt at hg;split at hg
 .rename_i z y;obtain⟨h1,h2⟩:=R.aN hg;obtain⟨hy,hz,hn,hp⟩:=of_decide_eq_true h1;cases h2;rw[Rep.str.mp ra] at rx;obtain⟨t,rfl⟩:=rx;obtain⟨q,rfl,r⟩:=rs.one;rw[Rep.str.mp r] at rxs;obtain⟨u,rfl,ru⟩:=vals1 rxs;obtain⟨tu,rfl⟩:=ru;refine Ds hy (fun l k hl=>?_) hz hp
  have hf:H s.heap.objs.size=none:=I.hok.fresh (Nat.le_refl _);refine⟨.ref s.heap.objs.size,upd H s.heap.objs.size (.lst ((l.map (·.1)).map V.str)),I.laid (a:=s.heap.objs.size) (fun b o q=>Heap.get?_push_of_some _ q) (Nat.le_refl _) ⟨?_,strValues l,0,p7 l,Heap.get?_push_size _ rfl⟩,rfl,bz hf,?_⟩
  .rw [List.length_map,hl];exact hn
  .rw [hl];refine Rep.lst.mpr ⟨_,_,rfl, .inl ⟨fun ha=>?_, .inl a_⟩,pH _⟩
   obtain⟨o,ho⟩:=hb _ ha;rw[hf] at ho;cases ho
 .cases hg
theorem Js:HG X "str.partition" wO:=by
 intro pins s σ H B da d ds x xs v us I hb rx rxs ra rs hg;unfold wO at hg;split at hg
 .rename_i z y;obtain⟨h1,h2⟩:=R.aN hg;obtain⟨hy,hz⟩:=of_decide_eq_true h1;cases h2;rw[Rep.str.mp ra] at rx;obtain⟨t,rfl⟩:=rx;obtain⟨q,rfl,r⟩:=rs.one;rw[Rep.str.mp r] at rxs;obtain⟨u,rfl,ru⟩:=vals1 rxs;obtain⟨tu,rfl⟩:=ru;refine ES hy (fun l k hl=>?_) hz
  have hf:H s.heap.objs.size=none:=I.hok.fresh (Nat.le_refl _);refine⟨.ref s.heap.objs.size,upd H s.heap.objs.size (.tup ((l.map (·.1)).map V.str)),I.laid (a:=s.heap.objs.size) (fun b o q=>Heap.get?_push_of_some _ q) (Nat.le_refl _) ⟨?_,strValues l,p7 l,_,Heap.get?_push_size _ rfl,rfl,0,rfl⟩,rfl,bz hf,?_⟩
  .rw [List.length_map,hl];have:(g0 z y).length=3:=by unfold g0;split <;> rfl
   rw[this];decide
  .rw [hl];refine Rep.tup.mpr ⟨_,_,rfl, .inl ⟨fun ha=>?_, .inl a_⟩,pH _⟩
   obtain⟨o,ho⟩:=hb _ ha;rw[hf] at ho;cases ho
 .cases hg
theorem qk{o e:Expr}{f:FD}{fs:aq->R (List D)}{apos bx:Pos}(ho:QD X o f)(ha:Bb X [e] fs)(i0:attributeBase o "split" X.env (eval o X.env)=eval o X.env:=by rfl)(mm:((backTo bx (starEach [e] X.env)).all (fun x=>!x.1) && (backToKw bx (keywordEach [] X.env)).all (fun x=>x.1.isSome)
 && decide (([e]:List Expr).length+([]:List Keyword).length+(if([]:List Keyword).isEmpty then 0 else 1) < 30))=true:=by rfl) (i3:(apos.endLine==bx.line)=true:=by rfl) (hs:starEach [e] X.env=(false,eval e X.env) ::starEach [] X.env:=by rfl):QD X (.Call (.Attribute o "split" apos) [e] [] bx) (u_ "str" nt f fs):=⟨yP F.plainAttrs_str F.slot_str_split F.type_str_split m_split ho.1 ha.1 (.inl rfl) i0 mm i3 hs⟩
theorem tL{o e:Expr}{f:FD}{fs:aq->R (List D)}{apos bx:Pos}(ho:QD X o f)(ha:Bb X [e] fs)(i0:attributeBase o "partition" X.env (eval o X.env)=eval o X.env:=by rfl)(mm:((backTo bx (starEach [e] X.env)).all (fun x=>!x.1) && (backToKw bx (keywordEach [] X.env)).all (fun x=>x.1.isSome)
 && decide (([e]:List Expr).length+([]:List Keyword).length+(if([]:List Keyword).isEmpty then 0 else 1) < 30))=true:=by rfl) (i3:(apos.endLine==bx.line)=true:=by rfl) (hs:starEach [e] X.env=(false,eval e X.env) ::starEach [] X.env:=by rfl):QD X (.Call (.Attribute o "partition" apos) [e] [] bx) (u_ "str" wO f fs):=⟨yP F.plainAttrs_str F.slot_str_partition F.type_str_partition Js ho.1 ha.1 (.inl rfl) i0 mm i3 hs⟩
end
end L2
end
section
namespace L2
open PySem PySem.Spec PyProof.Rows
section
variable {X:Cx}
def Vs(aA:List (Str × Int)):D:= .dct (aA.map fun p=>Sum.inr p.1) (aA.map fun p=> .int p.2)
def XO(aA:List (Str × Int)):List (Key × V):=aA.map fun p=>((Sum.inr p.1:Key),V.int p.2)
end
end L2
namespace L3
open PySem PySem.Spec PyProof.Rows L2
def qK(l:List (Nat × Bool))(c:Nat):Option Bool:=l.lookup c
def K3(P:Nat->Bool->Prop):List (Nat × Bool)->Prop | []=>True | p ::l=>P p.1 p.2/\K3 P l
theorem f9{P:Nat->Bool->Prop}:K3 P []:=trivial
theorem ao{P:Nat->Bool->Prop}{c:Nat}{b:Bool}{l:List (Nat × Bool)}(h:P c b)(t:K3 P l):K3 P ((c,b) ::l):=⟨h,t⟩
theorem jT{P:Nat->Bool->Prop}:∀{l:List (Nat × Bool)},K3 P l->∀c b,qK l c=some b->P c b
 | [],_,c,b,h=>by cases h
 | (c1,b1) ::l,t,c,b,h=>by
   unfold qK at h;rw[List.lookup_cons] at h;cases e:c==c1 with
   | true=>rw [e] at h;cases h;rw [eq_of_beq e];exact t.1
   | false=>rw [e] at h;exact jT t.2 c b h
def Kj(P:Nat->Prop):List Nat->Prop | []=>True | c ::l=>P c/\Kj P l
theorem Ir{P:Nat->Prop}:Kj P []:=trivial
theorem l9{P:Nat->Prop}{c:Nat}{l:List Nat}(h:P c)(t:Kj P l):Kj P (c ::l):=⟨h,t⟩
theorem Bk{P:Nat->Prop}:∀{l:List Nat},Kj P l->∀c∈l,P c
 | [],_,c,h=>by cases h
 | d ::l,t,c,h=>by
   rcases List.mem_cons.mp h with rfl | z
   .exact t.1
   .exact Bk t.2 c z
theorem Mq{P:Nat->Prop}{l:List Nat}(t:Kj P l):∀c,l.contains c=true->P c:=fun c h=>Bk t c (List.contains_iff_mem.mp h)
end L3
namespace L2
open PySem PySem.Spec PyProof.Rows
section
variable {X:Cx}
def Nb(d:D)(ds:List D):R D:=match d,ds with
 | .lst es,[.str k]=>(match strs? es with | some ss=> .ok (.int (ss.count k:Nat)) | none=> .no)
 | _,_=> .no
end
section
variable {X:Cx}
def R9(n:Nat)(t:GR):FT:=fun d δ=>match d with | .lst ds=>R.aI (decide (ds.length=n)) (t ds δ) | _=> .no
end
section
variable {X:Cx}
def RK(d e:D):R D:=match d,e with
 | .lst ds, .int k=>R.aI (decide (0<=k/\k < 1000000/\ds.length*k.toNat<=sizeLine)) (.ok (.lst (List.replicate k.toNat ds).flatten))
 | _,_=> .no
end
end L2
end
section
namespace L2
open PySem PySem.Spec PyProof.Rows
section
variable {X:Cx}
theorem BL{x:V}:∀{xs:List V} {us:List Value},Vals xs us->xs.all kE=true->∀(m:Nat) (y:V) (u:Value),xs[m]? =some y->us[m]? =some u->vx x u=Gx y x
 | _,_, .nil,_,m,y,u,h,_=>by simp at h
 | z ::xs,v ::us, .cons r t,f,0,y,u,h,h2=>by
   rw[List.all_cons,Bool.and_eq_true] at f;simp only[List.getElem?_cons_zero,Option.some.injEq] at h h2;subst h h2;exact yb r f.1
 | z ::xs,v ::us, .cons r t,f,m+1,y,u,h,h2=>by
   rw[List.all_cons,Bool.and_eq_true] at f;rw[List.getElem?_cons_succ] at h h2;exact BL t f.2 m y u h h2
def sQ(d:D)(ds:List D):R D:=match d,ds with
 | .lst es,[.str k]=>(match strs? es with | some ss=>(match ss.findIdx? (·==k) with | some j=>R.aI (decide (j < 1000000)) (.ok (.int (j:Nat))) | none=> .no) | none=> .no)
 | _,_=> .no
theorem FN:HG X "list.index" sQ:=by
 intro pins s σ H B da d ds x xs v us I hb rx rxs ra rs hg;unfold sQ at hg;split at hg
 .rename_i es k;split at hg
  .rename_i ss e;split at hg
   .rename_i j hj;obtain⟨h1,h2⟩:=R.aN hg;cases h2;have hsm:=of_decide_eq_true h1;obtain⟨a,ys,rfl,l,rys⟩:=Rep.lst.mp ra;cases rx;obtain⟨y,rfl,r⟩:=rs.one;rw[Rep.str.mp r] at rxs;obtain⟨u,rfl,ru⟩:=vals1 rxs;obtain⟨its,rv,pl,hz⟩:=I.list l.sq;have hys:=g8 rys e;subst hys;have fs:=qi ss;obtain⟨⟨cls,dd,data,sl⟩,ho,hc,n,hd⟩:=pl.isList;simp only at hc hd;subst hc hd;have fx:kE (.str k)=true:=rfl;have hlen:its.length=ss.length:=by rw[<-rv.length,List.length_map]
    obtain⟨hjl,hit,hno⟩:=List.findIdx?_eq_some_iff_getElem.mp hj;have ev:∀(m:Nat) (hm:m < ss.length) (So:m < its.length),vx (.str k) its[m]=(ss[m]==k):=fun m hm So=>by
     rw[BL (x:= .str k) rv fs m (.str ss[m]) its[m] (by rw[List.getElem?_map,List.getElem?_eq_getElem hm];rfl) (List.getElem?_eq_getElem So)]
     rfl
    refine call_meets PySem.F.slot_list_index ⟨_,ho,rfl⟩ PySem.F.entry_list_index (PySem.F.args_list_index_2 _ _) (PySem.SeqAt.list_indexAt a its.toArray n dd sl u (vx (.str k)) j (by rw[List.size_toArray];omega) (by omega) (by rw[List.getElem_toArray,ev j hjl (by omega)];exact hit) (fun m hm n4=>by rw[List.getElem_toArray,ev m (by omega) (by omega)];exact Bool.not_eq_true _▸hno m n4)) ⟨ho,fun z hz=>ll ru fx rv fs z (by simpa using hz),?_⟩
    exact⟨.int _,H,I.tok _,⟨_,rfl⟩,aH.refl H,Rep.int.mpr rfl⟩
   .cases hg
  .cases hg
 .cases hg
theorem Ad{o e:Expr}{f:FD}{fs:aq->R (List D)}{apos bx:Pos}(ho:QD X o f)(ha:Bb X [e] fs)
 (i0:attributeBase o "index" X.env (eval o X.env)=eval o X.env:=by rfl)
 (mm:((backTo bx (starEach [e] X.env)).all (fun x=>!x.1) && (backToKw bx (keywordEach [] X.env)).all (fun x=>x.1.isSome)
   && decide (([e]:List Expr).length+([]:List Keyword).length+(if([]:List Keyword).isEmpty then 0 else 1) < 30))=true:=by rfl)
 (i3:(apos.endLine==bx.line)=true:=by rfl) (hs:starEach [e] X.env=(false,eval e X.env) ::starEach [] X.env:=by rfl) :
 QD X (.Call (.Attribute o "index" apos) [e] [] bx) (u_ "list" sQ f fs):=⟨yP F.plainAttrs_list F.slot_list_index F.type_list_index FN ho.1 ha.1 (.inr (.inr rfl)) i0 mm i3 hs⟩
end
end L2
end
section
set_option maxHeartbeats 4000000
namespace NT
def mx(f:Nat->Nat)(w:List Nat):Nat:=(w.map f).foldl max 0
structure BA (f:Nat->Nat) (M:Nat) (bs:List Int):Prop where
 a:∀(z:Nat) (v:Int),bs[z]? =some v->v= -1\/(0<=v/\v+f z<=M)
def BB(f:Nat->Nat)(M:Nat)(bs:List Int)(n:Nat):Prop:=∃(z:Nat) (v:Int),z < n/\bs[z]? =some v/\0<=v/\(M:Int)<=v+f z
def Up(bs Sv:List Int):Prop:=Sv.length=bs.length/\∀(z:Nat) (v:Int),bs[z]? =some v->∃v',Sv[z]? =some v'/\v<=v'
end NT
namespace NT
open PySem PySem.Spec PyProof.Rows L2 L3
structure Gt where
 k:Str
 w:List Nat
 s:Bool
def nN(z:Nat):D:= .int z
def wN(w:List Nat):D:= .tup (w.map nN)
def gN(g:Gt):D:= .tup [.str g.k,wN g.w, .bl g.s]
def iN(x:Str × Nat):D:= .tup [.str x.1, .int x.2]
def oN(x:Str × List Nat):D:= .tup [.str x.1,wN x.2]
structure Net where
 i:Ya
 g:List Gt
 o:Yb
def Net.d(n:Net):D:= .tup [.lst (n.i.map iN), .lst (n.g.map gN), .lst (n.o.map oN)]
def Net.first(n:Net):Nat:=(n.i.map (·.2)).sum
structure RH (n:Nat) (w:List Nat):Prop where
 ne:w≠[]
 le:w.length<=3
 lt:∀z∈w,z < n
structure Net.Ok (n:Net):Prop where
 i1:1<=n.i.length
 i6:n.i.length<=6
 iw:∀x∈n.i,1<=x.2/\x.2<=3
 is:∀x∈n.i,i5 0 (.str x.1)
 g60:n.g.length<=60
 gw:∀(p:Nat) (g:Gt),n.g[p]? =some g->RH (n.first+p) g.w
 gs:∀g∈n.g,i5 0 (.str g.k)
 o1:1<=n.o.length
 o6:n.o.length<=6
 ow:∀x∈n.o,RH (n.first+n.g.length) x.2
 os:∀x∈n.o,i5 0 (.str x.1)
inductive Sm:Nat->D->Prop where
 | int (n:Nat) (i:Int):Sm n (.int i)
 | bl (n:Nat) (b:Bool):Sm n (.bl b)
 | str (n:Nat) (s:Str):Sm n (.str s)
 | lst {n:Nat} {ds:List D} (h:∀d∈ds,Sm n d) (hl:ds.length<=1000000):Sm (n+1) (.lst ds)
 | tup {n:Nat} {ds:List D} (h:∀d∈ds,Sm n d) (hl:ds.length<=1000000):Sm (n+1) (.tup ds)
theorem pz{F G:FS}{δ:aq}{d:D}(h:F δ= .ok (.rt d)):cn F G δ= .ok (.rt d):=by unfold cn;rw [h];rfl
theorem DQ(S:aG)(x:SO):(S++[x])[S.length]? =some x:=by rw[List.getElem?_append_right (Nat.le_refl _),Nat.sub_self];rfl
theorem uq{α:Type}{l:List α}{f:α->D}{i:Nat}{v:V3}(h:((l.map f).map V3.d)[i]? =some v):∃x,l[i]? =some x/\v= .d (f x):=by
 rw[List.getElem?_map,List.getElem?_map] at h;cases q:l[i]? with
 | none=>rw [q] at h;cases h
 | some x=>rw [q] at h;cases h;exact⟨x,rfl,rfl⟩
theorem g6{α:Type}{t:FT}{c:aq->R Bool}{f:FD}{δ:aq}(a b:α->D):∀{xs:List α},(∀x∈xs,∃δ1,t (a x) δ= .ok δ1/\c δ1= .ok true/\f δ1= .ok (b x))->ph t c f δ (xs.map a)= .ok (xs.map b)
 | [],_=>rfl
 | x ::xs,h=>by
   obtain⟨δ1,h1,h2,h3⟩:=h x List.mem_cons_self;have ih:=g6 (t:=t) (c:=c) (f:=f) (δ:=δ) a b (xs:=xs) fun y hy=>h y (List.mem_cons_of_mem _ hy)
   rw[List.map_cons];unfold ph;rw[h1,R.aK,h2,R.aK,if_pos rfl,h3,R.aK,ih];rfl
theorem sv{α:Type}{t:FT}{c:aq->R Bool}{f:FD}{δ:aq}(p:α->Bool)(a b:α->D):∀{xs:List α},(∀x∈xs,∃δ1,t (a x) δ= .ok δ1/\c δ1= .ok (p x)/\(p x=true->f δ1= .ok (b x)))->ph t c f δ (xs.map a)= .ok ((xs.filter p).map b)
 | [],_=>rfl
 | x ::xs,h=>by
   obtain⟨δ1,h1,h2,h3⟩:=h x List.mem_cons_self;have ih:=sv (t:=t) (c:=c) (f:=f) (δ:=δ) p a b (xs:=xs) fun y hy=>h y (List.mem_cons_of_mem _ hy)
   rw[List.map_cons];unfold ph;rw[h1,R.aK,h2,R.aK];cases e:p x with
   | true=>rw [if_pos rfl,h3 e,R.aK,ih,List.filter_cons,if_pos e];rfl
   | false=>rw [if_neg (by decide),ih,List.filter_cons,if_neg (by rw[e];decide)]
theorem Gb{n z:Nat}(h:z < n):DK n (z:Int)=some z:=by
 unfold DK;rw[if_pos (by omega),if_pos (by omega)]
 simp
theorem wb{α:Type}{xs:List α}{z:Nat}{x:α}(h:xs[z]? =some x):uA xs (z:Int)=some x:=by
 have hl:=(List.getElem?_eq_some_iff.mp h).1;unfold uA;rw[Gb hl];exact h
theorem eV{ds:List D}{z:Nat}{x:D}(h:ds[z]? =some x):c9 (.lst ds) (.int z)= .ok x:=HA (wb h)
end NT
end
section
namespace MT
open PySem PySem.Spec PyProof.Rows L2 L3
abbrev M:=Nat->Bool
theorem ND{N:List Str}{F:FZ}{vs:List V3}{δ:DE}{S:aG}{QV:V3->aG->Prop}(e:dm N vs=δ)(h:W3 (F δ S) fun o S1=>∃i4,o= .nx i4/\QV (.d .cu) S1):W3 (tm N F vs S) QV:=by
 subst e;exact W3.bind (h.mono fun _ _ ⟨_,e,q⟩=>by subst e;exact W3.ok q)
def RZ:Nat->M->Nat
 | 0,_=>0
 | N+1,f=>(if f 0 then 1 else 0)+2*RZ N (fun i=>f (i+1))
def mI(N:Nat)(f:M):D:= .int (RZ N f:Nat)
def one:M:=fun _=>true
def bI(b:Bool):D:= .int (if b then 1 else 0)
def Tr:List Bool->Nat
 | []=>0
 | b ::bs=>(if b then 1 else 0)+2*Tr bs
def nI(n:Nat):D:= .int (n:Int)
def kS:Nat->Str | 0=>"not" | 1=>"and" | 2=>"or" | 3=>"xor" | _=>"vote"
def ar:Nat->Nat | 0=>1 | 4=>3 | _=>2
theorem Lv(k:Nat):ar k<=3:=by unfold ar;split <;> omega
def gv:Nat->List Bool->Bool
 | 0,[a]=>!a
 | 1,[a,b]=>a && b
 | 2,[a,b]=>a || b
 | 3,[a,b]=>a !=b
 | 4,[a,b,c]=>(a && b) || (a && c) || (b && c)
 | _,_=>false
def Rf(ws:List M)(n:Nat):M:=ws.getD n fun _=>false
abbrev Gt:=Nat × List Nat × Bool
def A8(g:Gt):D:= .tup [.str (kS g.1), .tup (g.2.1.map nI), .bl g.2.2]
def Lc(n:Nat)(g:Gt):Prop:=g.1<=4/\g.2.1.length=ar g.1/\∀w∈g.2.1,w < n
def inD(x:Str × Nat):D:= .tup [.str x.1,nI x.2]
def Al(x:Str × List Nat):D:= .tup [.str x.1, .tup (x.2.map nI)]
def yi(ins:Ya)(gs:List Gt)(os:Yb):D:= .tup [.lst (ins.map inD), .lst (gs.map A8), .lst (os.map Al)]
def M4(ins:Ya):Nat:=(ins.map (·.2)).sum
def gF(g:Gt)(ws:List M):M:=fun p=>gv g.1 (g.2.1.map fun n=>Rf ws n p)
def BY(bad:List Int)(b:M):Nat->List M->List M
 | 0,ws=>ws
 | n+1,ws=>BY bad b n ws++[fun p=>b p !=bad.contains ((BY bad b n ws).length:Int)]
def HN(ins:Ya)(bits:List M)(bad:List Int):Nat->List M
 | 0=>[]
 | i+1=>match ins[i]?,bits[i]? with | some x,some b=>BY bad b x.2 (HN ins bits bad i) | _,_=>HN ins bits bad i
def MV(gs:List Gt)(turned:List Int)(w0:List M):Nat->List M
 | 0=>w0
 | i+1=>match gs[i]? with | some g=>MV gs turned w0 i++[fun p=>gF g (MV gs turned w0 i) p !=turned.contains (i:Int)] | none=>MV gs turned w0 i
structure RB (ins:Ya) (gs:List Gt) (os:Yb):Prop where
 hi:ins.length < 100
 hw:∀x∈ins,x.2 < 100
 hg:gs.length < 1000
 g:∀(i:Nat) (x:Gt),gs[i]? =some x->Lc (M4 ins+i) x
 ho:os.length < 1000
 o:∀x∈os,x.2.length < 1000/\∀w∈x.2,w < M4 ins+gs.length
def Vo(ins:Ya)(gs:List Gt)(bits:List M)(turned bad:List Int):List M:=MV gs turned (HN ins bits bad ins.length) gs.length
def tell(ws:List M)(x:Str × List Nat):List M:=x.2.map (Rf ws)
def Xd:List Bool->Bool × Bool
 | [a]=>(!a,a)
 | [a,b]=>(!(a || b),a && b)
 | [a,b,c]=>let v:=(a && b) || (a && c) || (b && c);(!v,v)
 | _=>(false,false)
def brk(safe:Bool)(x y:Bool × Bool):Bool:=if safe then(x.1 && y.2) || (x.2 && y.1) else(x.1 !=y.1) || (x.2 !=y.2)
def U3:List Nat->Nat->Yc
 | _,0=>[[]]
 | ps,s+1=>(List.range ps.length).flatMap fun a=>(U3 (ps.drop (a+1)) s).map (ps.getD a 0 ::·)
theorem ve:∀{l:List Nat} {m:Nat},(∀x∈l,x<=m)->l.sum<=l.length*m
 | [],_,_=>by simp
 | x ::l,m,h=>by
   have:=ve (l:=l) (m:=m) fun y hy=>h y (List.mem_cons_of_mem _ hy)
   have h0:=h x List.mem_cons_self;rw[List.sum_cons,List.length_cons,Nat.add_mul];omega
end MT
end
section
set_option maxHeartbeats 1000000
namespace JT
open PySem PySem.Spec PyProof.Rows L2 L3 MT
def gB(g:Gt)(ws:List Bool):Bool:=gv g.1 (g.2.1.map fun n=>ws.getD n false)
def vh:List Gt->(Nat->Bool)->List Bool->List Bool
 | [],_,ws=>ws
 | g ::gs,T,ws=>vh gs (fun i=>T (i+1)) (ws++[gB g ws !=T 0])
def Ms(f:Nat->Nat)(g:Gt):Gt:=(g.1,g.2.1.map f,g.2.2)
def Tf(f:Nat->Nat)(x:Str × List Nat):Str × List Nat:=(x.1,x.2.map f)
def Sh(f:Nat->Nat)(v ws:List Bool):Prop:=∀w,w < v.length->f w < ws.length/\ws.getD (f w) false=v.getD w false
def Xb(p:Nat)(ws:List M):List Bool:=ws.map (· p)
def vy:List (Str × Nat)->List Bool->List Bool
 | x ::ins,b ::bits=>List.replicate x.2 b++vy ins bits
 | _,_=>[]
def De(k:Nat)(bad:Nat->Bool):List Bool->List Bool
 | []=>[]
 | b ::bs=>(b !=bad k) ::De (k+1) bad bs
def OD(ins:Ya)(gs:List Gt)(bits:List Bool)(T bad:Nat->Bool):List Bool:=vh gs T (De 0 bad (vy ins bits))
end JT
end
section
namespace JT
open PySem PySem.Spec PyProof.Rows L2 L3 MT
def wV(ws:List Bool)(ns:List Nat):List Bool:=ns.map fun n=>ws.getD n false
def DO(f:Nat->List Bool):List (Option Nat × Nat)->List Bool->List Bool
 | [],_=>[]
 | (some o,_) ::r,l=>f o++DO f r l
 | (none,w) ::r,l=>l.take w++DO f r (l.drop w)
def Fg(f1:Nat->Nat)(os:Nat->List Nat):List (Option Nat × Nat)->Nat->List Nat
 | [],_=>[]
 | (some o,_) ::r,free=>(os o).map f1++Fg f1 os r free
 | (none,w) ::r,free=>List.range' free w++Fg f1 os r (free+w)
def rN:List (Option Nat × Nat)->Nat
 | []=>0
 | (some _,_) ::r=>rN r
 | (none,w) ::r=>w+rN r
def NF(n1 l w:Nat):Nat:=if w < n1 then w else w+l
def RT(L:List Nat)(top w:Nat):Nat:=if w < L.length then L.getD w 0 else top+(w - L.length)
section
variable {gs1 KH:List Gt} {φ:List (Option Nat × Nat)} {os:Nat->List Nat} {n1:Nat} {r1 rl:List Bool} {T:Nat->Bool}
def gJ(gs1 KH:List Gt)(φ:List (Option Nat × Nat))(os:Nat->List Nat)(n1:Nat):List Gt:=
 gs1.map (Ms (NF n1 (rN φ)))++KH.map (Ms (RT (Fg (NF n1 (rN φ)) os φ n1) (n1+rN φ+gs1.length)))
end
def Kx(bits:List Bool):List Bool:=bits.flatMap (List.replicate 3)
def Sa:List Bool->Bool
 | [a,b,c]=>(a && b) || (a && c) || (b && c)
 | _=>false
def RM:List Bool->Bool
 | [a,b,c]=>(a !=b) || (a !=c)
 | _=>false
def Uu(xs ys:List Bool):List Bool:=List.zipWith (· !=·) xs ys
def lst(xs ys:List Bool):Bool:=Sa (Uu xs ys)
def Lf:List Bool->List Bool->Prop
 | [],r=>r=[]
 | b ::bs,r=>∃x y z r',r=x ::y ::z ::r'/\Sa [b !=x,b !=y,b !=z]=false/\Lf bs r'
def no:Nat->Bool:=fun _=>false
structure UP (c:Nat) (gs:List Gt) (os:Yb):Prop where
 a:∀bits:List Bool,bits.length=c->∀x∈os,RM (wV (vh gs no (Kx bits)) x.2)=false
 b:∀bits:List Bool,bits.length=c->∀i g,gs[i]? =some g->g.2.2=false->∀x∈os,lst (wV (vh gs no (Kx bits)) x.2) (wV (vh gs (fun j=>j==i) (Kx bits)) x.2)=false
 c:∀bits row:List Bool,bits.length=c->Lf bits row->∀x∈os,lst (wV (vh gs no (Kx bits)) x.2) (wV (vh gs no row) x.2)=false
def yJ(v:Nat->Bool):List (Option Nat × Nat)->List Bool->List Bool
 | [],_=>[]
 | (some o,_) ::r,l=>v o ::yJ v r l
 | (none,_) ::r,l=>l.headD false ::yJ v r l.tail
def many:List (Option Nat × Nat)->Nat
 | []=>0
 | (some _,_) ::r=>many r
 | (none,_) ::r=>many r+1
end JT
end
section
namespace JT
open PySem PySem.Spec PyProof.Rows L2 L3 MT
structure Xy (c1:Nat) (gs1 KH:List Gt) (MC Ni:Yb) (φ:List (Option Nat × Nat)) (os:Nat->List Nat):Prop where
 h3:∀x∈φ,x.2=3
 g1:∀i g,gs1[i]? =some g->∀w∈g.2.1,w < 3*c1+i
 g2:∀i g,KH[i]? =some g->∀w∈g.2.1,w < 3*φ.length+i
 o1:∀x∈MC,x.2.length=3/\∀n∈x.2,n < 3*c1+gs1.length
 o2:∀x∈Ni,x.2.length=3/\∀n∈x.2,n < 3*φ.length+KH.length
 ho:∀o w,(some o,w)∈φ->∃x∈MC,x.2=os o
section
variable {c1:Nat} {gs1 KH:List Gt} {MC Ni Sy:Yb} {φ:List (Option Nat × Nat)} {os:Nat->List Nat}
abbrev Rc(c1:Nat)(φ:List (Option Nat × Nat)):Nat->Nat:=NF (3*c1) (rN φ)
abbrev T6(c1:Nat)(gs1:List Gt)(φ:List (Option Nat × Nat))(os:Nat->List Nat):Nat->Nat:=RT (Fg (Rc c1 φ) os φ (3*c1)) (3*c1+rN φ+gs1.length)
def Rj(c1:Nat)(gs1:List Gt)(MC Ni Sy:Yb)(φ:List (Option Nat × Nat))(os:Nat->List Nat):Prop:=
 ∀x∈Sy,(∃y∈MC,x.2=y.2.map (Rc c1 φ))\/∃y∈Ni,x.2=y.2.map (T6 c1 gs1 φ os)
end
end JT
end
section
namespace JT
open PySem PySem.Spec PyProof.Rows L2 L3 MT
def Cg:Nat->List (List Bool)
 | 0=>[[]]
 | c+1=>(Cg c).flatMap fun b=>[b++[false],b++[true]]
def Vk(c j:Nat):M:=fun p=>((Cg c).getD p []).getD j false
def Ub(c:Nat):List M:=(List.range c).map (Vk c)
def Hf(c p:Nat):List Bool:=(Cg c).getD p []
def Rh(f e:Nat):Nat->Yc
 | 0=>[[]]
 | m+1=>(List.range' f (e - f)).flatMap fun w=>(Rh ((w / 3+1)*3) e m).map (w ::·)
def Vp(f e:Nat):List Nat->Prop
 | []=>True
 | w ::B=>f<=w/\w < e/\Vp ((w / 3+1)*3) e B
def Oq(c:Nat)(gs:List Gt):List (List Nat × List Nat):=
 (gs.zipIdx.filter (fun x=>!x.1.2.2)).map (fun x=>(([]:List Nat),[x.2]))++(List.range' 1 c).flatMap fun m=>(Rh 0 (3*c) m).map fun B=>(B,([]:List Nat))
def CV(c:Nat)(gs:List Gt)(p:Nat):List Bool:=vh gs no (Kx (Hf c p))
def Hl(c:Nat)(gs:List Gt)(f:List Nat × List Nat)(p:Nat):List Bool:=vh gs (fun i=>f.2.contains i) (De 0 (fun n=>f.1.contains n) (Kx (Hf c p)))
def OS(c:Nat)(gs:List Gt)(os:Yb)(p:Nat):Bool:=os.any fun x=>RM (wV (CV c gs p) x.2)
def KN(c:Nat)(gs:List Gt)(os:Yb)(f:List Nat × List Nat)(p:Nat):Bool:=os.any fun x=>lst (wV (CV c gs p) x.2) (wV (Hl c gs f p) x.2)
def Oo(c:Nat)(gs:List Gt)(os:Yb):Option (List Nat × List Nat × Nat):=
 match (List.range (2 ^ c)).find? (OS c gs os) with
 | some p=>some ([],[],p)
 | none=>(Oq c gs).findSome? fun f=>((List.range (2 ^ c)).find? (KN c gs os f)).map fun p=>(f.1,f.2,p)
end JT
end
section
namespace JT
open PySem PySem.Spec PyProof.Rows L2 L3 MT
theorem n6{a b:Nat}(h:0 < b):cC (nI a) (nI b)= .ok (nI (a % b)):=by
 show cC (.int a) (.int b)=_;rw[sC (by omega)];rfl
theorem yT{a b:Nat}(h:0 < b)(h2:b < 1073741824):eD (nI a) (nI b)= .ok (nI (a / b)):=by
 show eD (.int a) (.int b)=_;rw[zt (by omega) (by omega)];rfl
theorem tV(a b:Nat):bO (nI a) (nI b)= .ok (nI (a+b)):=rfl
theorem wc(a b:Nat):pP (nI a) (nI b)= .ok (.bl (decide (a=b))):=by
 show R.ok (D.bl ((a:Int)==(b:Int)))=_;congr 2;by_cases h:a=b
 .rw [decide_eq_true h];exact beq_iff_eq.mpr (by omega)
 .rw [decide_eq_false h];exact beq_eq_false_iff_ne.mpr (by omega)
theorem NQ(a b:Nat):zu (nI a) (nI b)= .ok (.bl (!decide (a=b))):=by
 show R.ok (D.bl (!((a:Int)==(b:Int))))=_;congr 3;by_cases h:a=b
 .rw [decide_eq_true h];exact beq_iff_eq.mpr (by omega)
 .rw [decide_eq_false h];exact beq_eq_false_iff_ne.mpr (by omega)
theorem Lk(a b:Nat):MX (nI a) (nI b)= .ok (.bl (decide (b < a))):=by
 show R.ok (D.bl (decide ((a:Int) > (b:Int))))=_;congr 2;by_cases h:b < a
 .rw [decide_eq_true h,decide_eq_true (by omega)]
 .rw [decide_eq_false h,decide_eq_false (by omega)]
theorem AS(a b:Nat):Bg (nI a) (nI b)= .ok (.bl (decide (a < b))):=by
 show R.ok (D.bl (decide ((a:Int) < (b:Int))))=_;congr 2;by_cases h:a < b
 .rw [decide_eq_true h,decide_eq_true (by omega)]
 .rw [decide_eq_false h,decide_eq_false (by omega)]
theorem JO(a b:Nat):HJ (nI a) (nI b)= .ok (.bl (decide (b<=a))):=by
 show R.ok (D.bl (decide ((a:Int)>=(b:Int))))=_;congr 2;by_cases h:b<=a
 .rw [decide_eq_true h,decide_eq_true (by omega)]
 .rw [decide_eq_false h,decide_eq_false (by omega)]
theorem Iw(a b:Nat):Hb (nI a) (nI b)= .ok (.bl (decide (a<=b))):=by
 show R.ok (D.bl (decide ((a:Int)<=(b:Int))))=_;congr 2;by_cases h:a<=b
 .rw [decide_eq_true h,decide_eq_true (by omega)]
 .rw [decide_eq_false h,decide_eq_false (by omega)]
theorem oC{ds:List D}:eT [.lst ds]= .ok (nI ds.length):=rfl
theorem DI{f:FD}{δ:aq}{n:Nat}(h:f δ= .ok (nI n))(hn:n < 1000000):l_ f δ= .ok ((List.range n).map nI):=by
 rw[FC h hn];unfold qN;congr 1;refine List.map_congr_left fun i _=>?_
 show D.int (0+(i:Int))=D.int (i:Int);rw[Int.zero_add]
def Xw(T:List Nat):D:= .tup (T.map nI)
def Xv(r:Nat):Nat:=[1,2,3,4,0].getD (r % 5) 0
end JT
end
section
namespace JT
open PySem PySem.Spec PyProof.Rows L2 L3 MT
end JT
end
section
namespace TX
open PySem PySem.Spec PyProof.Rows L2 Builtin Builtin.Str
abbrev SP:Str:=Str.ofString " "
abbrev NL:Str:=Str.ofString "\n"
abbrev CO:Str:=Str.ofString ":"
theorem zi:SP=⟨#[32]⟩:=by decide+kernel
theorem yZ:NL=⟨#[10]⟩:=by decide+kernel
theorem n_:CO=⟨#[58]⟩:=by decide+kernel
def jn(c:Nat):List (List Nat)->List Nat
 | []=>[]
 | [x]=>x
 | x ::y ::r=>x++c ::jn c (y ::r)
theorem gf(c:Nat):∀l:List Str,(Str.join ⟨#[c]⟩ l).cps.toList=jn c (l.map fun s=>s.cps.toList)
 | []=>rfl
 | [x]=>rfl
 | x ::y ::r=>by
   show(x++(⟨#[c]⟩:Str)++Str.join ⟨#[c]⟩ (y ::r)).cps.toList=_;rw[cP,cP,gf c (y ::r),List.append_assoc];rfl
theorem zd{c:Nat}:∀{x x' a b:List Nat},c ∉ x->c ∉ x'->x++c ::a=x'++c ::b->x=x'/\a=b
 | [],[],a,b,_,_,h=>by cases h;exact⟨rfl,rfl⟩
 | [],y ::ys,a,b,_,h2,h=>by
   have:c=y:=(List.cons.inj h).1;exact absurd (by rw[this];exact List.mem_cons_self) h2
 | y ::ys,[],a,b,h1,_,h=>by
   have:y=c:=(List.cons.inj h).1;exact absurd (by rw[this];exact List.mem_cons_self) h1
 | y ::ys,z ::zs,a,b,h1,h2,h=>by
   obtain⟨e1,e2⟩:=List.cons.inj h;obtain⟨e3,e4⟩:=zd (fun q=>h1 (List.mem_cons_of_mem _ q)) (fun q=>h2 (List.mem_cons_of_mem _ q)) e2
   exact⟨by rw[e1,e3],e4⟩
theorem DH{c:Nat}:∀{l l':Yc},l≠[]->l'≠[]->(∀x∈l,c ∉ x)->(∀x∈l',c ∉ x)->jn c l=jn c l'->l=l'
 | [],_,h,_,_,_,_=>absurd rfl h
 | _,[],_,h,_,_,_=>absurd rfl h
 | [x],[y],_,_,_,_,e=>by rw[show x=y from e]
 | [x],y ::z ::r,_,_,h1,_,e=>by
   have e:x=y++c ::jn c (z ::r):=e;exact absurd (by rw[e];simp) (h1 x List.mem_cons_self)
 | y ::z ::r,[x],_,_,_,h2,e=>by
   have e:y++c ::jn c (z ::r)=x:=e;exact absurd (by rw[<-e];simp) (h2 x List.mem_cons_self)
 | x ::x2 ::r,y ::y2 ::s,_,_,h1,h2,e=>by
   obtain⟨e1,e2⟩:=zd (h1 x List.mem_cons_self) (h2 y List.mem_cons_self) (show x++c ::jn c (x2 ::r)=y++c ::jn c (y2 ::s) from e)
   rw[e1,DH (by simp) (by simp) (fun z hz=>h1 z (List.mem_cons_of_mem _ hz)) (fun z hz=>h2 z (List.mem_cons_of_mem _ hz)) e2]
theorem map_inj{α β:Type}{f:α->β}(hf:∀a b,f a=f b->a=b):∀{l l':List α},l.map f=l'.map f->l=l'
 | [],[],_=>rfl
 | [],_ ::_,h=>by cases h
 | _ ::_,[],h=>by cases h
 | a ::l,b ::l',h=>by
   obtain⟨e1,e2⟩:=List.cons.inj h;rw[hf a b e1,map_inj hf e2]
theorem oB{c:Nat}{l:List Str}(sW:l≠[])(hf:∀p∈l,c ∉ p.cps.toList):Txt.split (Str.join ⟨#[c]⟩ l) ⟨#[c]⟩=l:=by
 have h1:=StrLaws.join_split (Str.join ⟨#[c]⟩ l) ⟨#[c]⟩;have h2:=StrLaws.split_free (Str.join ⟨#[c]⟩ l) c;have h3:=split_pos (Str.join ⟨#[c]⟩ l) ⟨#[c]⟩;generalize Txt.split (Str.join ⟨#[c]⟩ l) ⟨#[c]⟩=m at h1 h2 h3;have h4:jn c (m.map fun s=>s.cps.toList)=jn c (l.map fun s=>s.cps.toList):=by rw[<-gf,<-gf,h1]
 refine map_inj (f:=fun s:Str=>s.cps.toList) (fun a b e=>kH e) (DH (c:=c) ?_ ?_ ?_ ?_ h4)
 .intro q;rw [List.map_eq_nil_iff] at q;rw [q] at h3;simp at h3
 .intro q;rw [List.map_eq_nil_iff] at q;exact sW q
 .intro x hx;obtain⟨s,hs,rfl⟩:=List.mem_map.mp hx;exact h2 s hs
 .intro x hx;obtain⟨s,hs,rfl⟩:=List.mem_map.mp hx;exact hf s hs
theorem rP{x:Str}{c:Nat}(h:x.length<=10000000):nt (.str x) [.str ⟨#[c]⟩]= .ok (.lst ((Txt.split x ⟨#[c]⟩).map .str)):=by
 have hz:sizeLine=16777216:=sizeLine_eq;have h1:=split_le x ⟨#[c]⟩;have h2:=StrLaws.occ_length_le x ⟨#[c]⟩ 0 x.length (x.length+1);unfold nt;refine bD _ ⟨rfl,by omega,by omega,?_⟩
 unfold partsBetween;rw[List.length_map,List.length_zip];simp;omega
abbrev jW:List Str:=[Str.ofString "in",Str.ofString "gate",Str.ofString "sure",Str.ofString "out",Str.ofString "not",Str.ofString "and",Str.ofString "or",Str.ofString "xor",Str.ofString "vote"]
def low(s:Str):Bool:=s.cps.toList.all fun c=>decide (97<=c/\c<=122)
def isNm(s:Str):Bool:=decide (1<=s.length) && (decide (s.length<=8) && (!jW.contains s && low s))
theorem de{s:Str}:isNm s=true↔1<=s.length/\s.length<=8/\s ∉ jW/\∀c∈s.cps.toList,97<=c/\c<=122:=by
 unfold isNm low;simp only[Bool.and_eq_true,decide_eq_true_eq,Bool.not_eq_true',List.all_eq_true];constructor
 .rintro⟨h1,h2,h3,h4⟩;refine⟨h1,h2,fun q=>?_,h4⟩
  have h5:=List.contains_iff_mem.mpr q;rw[h3] at h5;cases h5
 .rintro⟨h1,h2,h3,h4⟩;refine⟨h1,h2,?_,h4⟩;cases h:jW.contains s with
  | false=>rfl
  | true=>exact absurd (List.contains_iff_mem.mp h) h3
abbrev uV:Str:=Str.ofString "abcdefghijklmnopqrstuvwxyz"
theorem tW:uV.cps.toList=(List.range 26).map (97+·):=by decide+kernel
theorem rg{c:Nat}:c∈uV.cps.toList↔97<=c/\c<=122:=by
 rw[tW,List.mem_map];constructor
 .rintro⟨i,hi,rfl⟩;have:=List.mem_range.mp hi;omega
 .intro h;exact⟨c - 97,List.mem_range.mpr (by omega),by omega⟩
theorem Jk(c:Nat):F0 (.str ⟨#[c]⟩) (.str uV)= .ok (.bl (decide (97<=c/\c<=122))):=by
 show R.ok (D.bl (!(occurrences uV ⟨#[c]⟩ 0 uV.length 1).isEmpty))=_;rw[StrLaws.found_one];congr 2;by_cases h:97<=c/\c<=122
 .rw [decide_eq_true h,decide_eq_true (rg.mpr h)]
 .rw [decide_eq_false h,decide_eq_false fun q=>h (rg.mp q)]
theorem qh{x:Str}{c:Nat}(h:c ∉ x.cps.toList):g0 x ⟨#[c]⟩=[x,Str.empty,Str.empty]:=by
 have h1:=StrLaws.found_one x c;rw[decide_eq_false h] at h1;unfold g0;cases ho:occurrences x ⟨#[c]⟩ 0 x.length 1 with
 | nil=>rfl
 | cons i r=>rw [ho] at h1;cases h1
theorem nO{x a b:Str}{c:Nat}(h:c ∉ a.cps.toList)(e:x=a++⟨#[c]⟩++b):g0 x ⟨#[c]⟩=[a,⟨#[c]⟩,b]:=by
 have Bi:x.cps.toList=a.cps.toList++c ::b.cps.toList:=by rw[e,cP,cP,List.append_assoc];rfl
 have hL:x.length=a.length+(b.length+1):=by
  show x.cps.size=a.cps.size+(b.cps.size+1);rw[<-Array.length_toList,<-Array.length_toList,<-Array.length_toList,Bi];simp
 have hat:∀i,StrLaws.At x ⟨#[c]⟩ x.length i↔x.cps.toList[i]? =some c:=fun i=>StrLaws.subAt_one x c i
 unfold g0;have ha:x.cps.toList[a.length]? =some c:=by
  rw[Bi,List.getElem?_append_right (by show a.cps.toList.length<=a.cps.size;simp)]
  show(c ::b.cps.toList)[a.cps.size - a.cps.toList.length]? =_;simp
 rcases StrLaws.occ_head x ⟨#[c]⟩ 1 (Nat.le_refl _) with⟨_,h1⟩ | ⟨i,r,e1,h1,h2⟩
 .exact absurd ((hat _).mpr ha) (h1 _)
 .have hi:i=a.length:=by
   have h3:¬a.length < i:=fun q=>h2 _ q ((hat _).mpr ha)
   by_cases q:i < a.length
   .have h4:=(hat i).mp h1;rw[Bi,List.getElem?_append_left (by show i < a.cps.toList.length;rw [Array.length_toList];exact q)] at h4
    exact absurd (List.mem_of_getElem? h4) h
   .omega
  rw[e1,hi];have s1:strSub x 0 a.length=a:=kH (by
   show(x.cps.extract 0 a.length).toList=_;rw[Array.toList_extract,Bi];show(List.take (a.cps.size - 0) (List.drop 0 (a.cps.toList++_)))=_;simp)
  have s2:strSub x (a.length+(⟨#[c]⟩:Str).length) x.length=b:=kH (by
   show(x.cps.extract (a.length+1) x.length).toList=_;rw[Array.toList_extract,Bi,hL];show(List.take (a.cps.size+(b.cps.size+1) - (a.cps.size+1)) (List.drop (a.cps.size+1) (a.cps.toList++c ::b.cps.toList)))=_;rw[show a.cps.size+1=(a.cps.toList++[c]).length by simp,show a.cps.toList++c ::b.cps.toList=(a.cps.toList++[c])++b.cps.toList by simp,List.drop_left,List.take_of_length_le (by simp;omega)])
  simp only;rw[s1,s2]
abbrev nY:List Str:=[Str.ofString "0",Str.ofString "1",Str.ofString "2",Str.ofString "3",Str.ofString "4",Str.ofString "5",Str.ofString "6",Str.ofString "7",Str.ofString "8",Str.ofString "9"]
def dM(w:Str):Bool:=isNm ((g0 w CO).getD 0 Str.empty) && (((g0 w CO).getD 1 Str.empty==Str.empty) || nY.contains ((g0 w CO).getD 2 Str.empty))
theorem y8{s:Str}(h:isNm s=true){c:Nat}(hc:c < 97\/122 < c):c ∉ s.cps.toList:=fun q=>by
 have:=(de.mp h).2.2.2 c q;omega
theorem LS(h:isNm s=true):dM s=true:=by
 unfold dM;rw[n_,qh (y8 h (by omega))]
 show(isNm s && (Str.empty==Str.empty || _))=true
 rw[h];rfl
theorem Jt{s f:Str}(h:isNm s=true)(hf:f∈nY):dM (s++CO++f)=true:=by
 unfold dM;rw[show g0 (s++CO++f) CO=[s,CO,f] by rw[n_];exact nO (y8 h (by omega)) rfl]
 show(isNm s && (_ || nY.contains f))=true
 rw[h,List.contains_iff_mem.mpr hf,Bool.or_true];rfl
theorem BS(w c:Str):∃a b d,g0 w c=[a,b,d]:=by
 unfold g0;split
 .exact⟨_,_,_,rfl⟩
 .exact⟨_,_,_,rfl⟩
abbrev Eh:List (Str × Int):=[(Str.ofString "1",1),(Str.ofString "2",2),(Str.ofString "3",3)]
abbrev Ea:List (Str × Int):=[(Str.ofString "not",1),(Str.ofString "and",2),(Str.ofString "or",2),(Str.ofString "xor",2),(Str.ofString "vote",3)]
def wd(ws:List Str)(i:Nat):Str:=ws.getD i Str.empty
def Bc(ws:List Str):Bool:=decide (ws.length=3) && ((wd ws 0==Str.ofString "in") && (isNm (wd ws 1) && (Eh.lookup (wd ws 2)).isSome))
def A_(ws:List Str):Bool:=(decide (4<=ws.length) && [Str.ofString "gate",Str.ofString "sure"].contains (wd ws 0)) && ((isNm (wd ws 1) && (Ea.lookup (wd ws 2)).isSome) && (decide (((ws.drop 3).length:Int)=(Ea.lookup (wd ws 2)).getD 0) && (ws.drop 3).all dM))
def Ei(ws:List Str):Bool:=(decide (3<=ws.length) && ((wd ws 0==Str.ofString "out") && isNm (wd ws 1))) && (decide ((ws.drop 2).length<=3) && (ws.drop 2).all dM)
section
variable {f g:FD} {p q:aq->R Bool} {δ:aq} {a b:Bool}
theorem l7(h:p δ= .ok a)(h2:a=false->q δ= .ok b):AE p q δ= .ok (a || b):=by
 unfold AE;rw [h,R.aK];cases a with
 | true=>rfl
 | false=>rw [if_neg (by decide)];exact h2 rfl
theorem q0(h:p δ= .ok a)(h2:a=true->q δ= .ok b):AZ p q δ= .ok (a && b):=by
 unfold AZ;rw [h,R.aK];cases a with
 | true=>rw [if_pos rfl];exact h2 rfl
 | false=>rfl
theorem gc(h:f δ= .ok (.bl a))(h2:a=true->g δ= .ok (.bl b)):qw f g δ= .ok (.bl (a && b)):=by
 unfold qw;rw [xE h,R.aK];cases a with
 | true=>rw [if_pos rfl];exact h2 rfl
 | false=>rfl
theorem IE(h:f δ= .ok (.bl a))(h2:a=false->g δ= .ok (.bl b)):KZ f g δ= .ok (.bl (a || b)):=by
 unfold KZ;rw [xE h,R.aK];cases a with
 | true=>rfl
 | false=>rw [if_neg (by decide)];exact h2 rfl
theorem za(h:p δ= .ok a):ya p δ= .ok (!a):=by unfold ya;rw [h];rfl
theorem pE(h:f δ= .ok (.bl a)):tq f δ= .ok a:=by unfold tq;rw [h];rfl
theorem zo{c:aq->R Bool}{G:FS}(h:c δ= .ok a)(h2:a=false->G δ= .ok (.rt (.bl b))):cn (qQ c (ja (eC (.bl false))) kJ) G δ= .ok (.rt (.bl (!a && b))):=by
 cases a with
 | true=>exact NT.pz (n8 h rfl)
 | false=>exact aV (m8 h rfl) (h2 rfl)
theorem uh{ws:List Str}{i:Nat}(h:i < ws.length):c9 (.lst (ws.map .str)) (.int i)= .ok (.str (wd ws i)):=by
 refine NT.eV ?_;rw[List.getElem?_map,List.getElem?_eq_getElem h];unfold wd;rw[List.getD_eq_getElem?_getD,List.getElem?_eq_getElem h];rfl
theorem xI(x y:Str):pP (.str x) (.str y)= .ok (.bl (x==y)):=rfl
theorem Jy(x y:Str):zu (.str x) (.str y)= .ok (.bl (!(x==y))):=rfl
theorem DX(x:Str)(ss:List Str):F0 (.str x) (.tup (ss.map .str))= .ok (.bl (ss.contains x)):=by
 show((match strs? (ss.map D.str) with | some ss=>R.ok (ss.contains x) | none=> .no).bind _)=_
 rw[L2.strs_map];rfl
theorem HL(x:Str)(ss:List Str):F0 (.str x) (.lst (ss.map .str))= .ok (.bl (ss.contains x)):=by
 show((match strs? (ss.map D.str) with | some ss=>R.ok (ss.contains x) | none=> .no).bind _)=_
 rw[L2.strs_map];rfl
theorem Jz(x:Str)(ss:List Str):jb (.str x) (.tup (ss.map .str))= .ok (.bl (!ss.contains x)):=by
 show((match strs? (ss.map D.str) with | some ss=>R.ok (ss.contains x) | none=> .no).bind _)=_
 rw[L2.strs_map];rfl
theorem JK(x:Str)(ss:List Str):jb (.str x) (.lst (ss.map .str))= .ok (.bl (!ss.contains x)):=by
 show((match strs? (ss.map D.str) with | some ss=>R.ok (ss.contains x) | none=> .no).bind _)=_
 rw[L2.strs_map];rfl
theorem B3(bs:List Bool):B4 [.lst (bs.map D.bl)]= .ok (.bl (bs.all id)):=by
 show(match bls? (bs.map D.bl) with | some bs=>R.ok (D.bl (bs.all id)) | none=> .no)=_
 rw[zH]
theorem len_str{x:Str}(h:x.length<=10000000):eT [.str x]= .ok (MT.nI x.length):=by
 have hz:sizeLine=16777216:=sizeLine_eq;exact bD _ (by omega)
theorem q9{ds:List D}{k:Nat}(h:k<=ds.length):DM (.lst ds) (some (k:Int)) none= .ok (.lst (ds.drop k)):=by
 show R.ok (D.lst (L2.cutD ds (some (k:Int)) none))=_;unfold L2.cutD;rw[HT.zR,HT.wQ,Nat.min_eq_left h,List.take_of_length_le (by rw[List.length_drop];omega)]
end
end TX
end
section
namespace TX
open PySem PySem.Spec PyProof.Rows L2 L3 MT
structure Dr where
 ins:Ya
 gs:List Gt
 os:Yb
 nm:List Str
 nu:List Str
def Dr.on(d:Dr):List Str:=d.os.map (·.1)
def vz(l:List Str):List (Key × D):=l.map fun n=>(Sum.inr n, .bl true)
def D9(k:Nat)(l:List Str):List (Key × D):=(l.zipIdx k).map fun p=>(Sum.inr p.1,nI p.2)
abbrev Kp(l:List Str):List (Key × D):=D9 0 l
theorem u0(l:List Str):(vz l).length=l.length:=by unfold vz;simp
theorem u9(k:Nat)(l:List Str):(D9 k l).length=l.length:=by unfold D9;simp
theorem BP(k:Nat)(y:Str)(l:List Str):D9 k (y ::l)=(Sum.inr y,nI k) ::D9 (k+1) l:=rfl
theorem zT(y x:Str):decide ((Sum.inr y:Key)=Sum.inr x)=(y==x):=by
 by_cases h:y=x
 .subst h;simp
 .rw [beq_eq_false_iff_ne.mpr h];exact decide_eq_false fun q=>h (Sum.inr.inj q)
theorem pL(x:Str):∀l:List Str,((vz l).find? fun kv=>decide (kv.1=Sum.inr x)).map (·.2)=if x∈l then some (.bl true) else none
 | []=>rfl
 | y ::l=>by
   show(((Sum.inr y,D.bl true) ::vz l).find? fun kv=>decide (kv.1=Sum.inr x)).map (·.2)=_
   rw[List.find?_cons];simp only[zT];by_cases h:y=x
   .subst h;simp
   .rw [beq_eq_false_iff_ne.mpr h];simp only;rw[pL x l];have:x∈y ::l↔x∈l:=by simp [Ne.symm h]
    simp only[this]
def idx(l:List Str)(x:Str):Option Nat:=l.findIdx? (·==x)
theorem rA(x:Str):∀(k:Nat) (l:List Str),((D9 k l).find? fun kv=>decide (kv.1=Sum.inr x)).map (·.2)=(idx l x).map fun i=>nI (k+i)
 | k,[]=>rfl
 | k,y ::l=>by
   rw[BP,List.find?_cons];simp only[zT];unfold idx;rw[List.findIdx?_cons];by_cases h:y=x
   .subst h;simp
   .rw [beq_eq_false_iff_ne.mpr h];simp only;rw[rA x (k+1) l];unfold idx;simp only[Bool.false_eq_true,if_false,Option.map_map];congr 1;funext i;show nI (k+1+i)=nI (k+(i+1));congr 1;omega
theorem wD{l:List Str}:(idx l x).isSome=l.contains x:=by
 unfold idx;rw[List.findIdx?_isSome];rw[Bool.eq_iff_iff,List.any_eq_true,List.contains_iff_mem];exact⟨fun⟨y,h1,h2⟩=>by rw[<-beq_iff_eq.mp h2];exact h1,fun h=>⟨x,h,beq_self_eq_true x⟩⟩
theorem zj{aA:List (Key × D)}{d:D}(h:((aA.find? fun kv=>decide (kv.1=Sum.inr x)).map (·.2))=none):oM aA (Sum.inr x) d=aA++[(Sum.inr x,d)]:=by
 unfold oM;rw[if_neg];intro q;obtain⟨kv,h1,h2⟩:=List.any_eq_true.mp q;have h3:aA.find? (fun kv=>decide (kv.1=Sum.inr x))=none:=by
  cases hf:aA.find? (fun kv=>decide (kv.1=Sum.inr x)) with
  | none=>rfl
  | some z=>rw [hf] at h;cases h
 exact absurd h2 (by have:=List.find?_eq_none.mp h3 kv h1;exact this)
theorem uP{l:List Str}(h:x ∉ l):oM (vz l) (Sum.inr x) (.bl true)=vz (l++[x]):=by
 rw[zj (by rw[pL,if_neg h])]
 unfold vz;simp
theorem yL{l:List Str}(h:x ∉ l):oM (Kp l) (Sum.inr x) (nI l.length)=Kp (l++[x]):=by
 have h1:idx l x=none:=by
  have:=wD (l:=l) (x:=x);rw[show l.contains x=false by cases q:l.contains x with | false=>rfl | true=>exact absurd (List.contains_iff_mem.mp q) h] at this
  cases q:idx l x with
  | none=>rfl
  | some i=>rw [q] at this;cases this
 rw[zj (by rw[rA,h1];rfl)]
 show D9 0 l++_=D9 0 (l++[x]);unfold D9;rw[List.zipIdx_append,List.map_append];simp
def jY:Nat->Str | 0=>Str.ofString "0" | 1=>Str.ofString "1" | _=>Str.ofString "2"
def pB(x:Str)(w:Nat):List Str:=if w=1 then [x] else(List.range w).map fun f=>x++CO++jY f
def base(w:Str):Str:=(g0 w CO).getD 0 Str.empty
theorem rh(h:isNm x=true):base x=x:=by
 unfold base;rw[n_,qh (y8 h (by omega))];rfl
theorem B8{x f:Str}(h:isNm x=true):base (x++CO++f)=x:=by
 unfold base;rw[show g0 (x++CO++f) CO=[x,CO,f] by rw[n_];exact nO (y8 h (by omega)) rfl];rfl
theorem rT(h:isNm x=true){w:Nat}:∀y∈pB x w,base y=x:=fun y hy=>by
 unfold pB at hy;split at hy
 .rw [List.mem_singleton.mp hy];exact rh h
 .obtain⟨f,_,rfl⟩:=List.mem_map.mp hy;exact B8 h
theorem BJ{a b:Nat}(ha:a < 3)(hb:b < 3)(h:jY a=jY b):a=b:=by
 match a,b,ha,hb with
 | 0,0,_,_=>rfl
 | 1,1,_,_=>rfl
 | 2,2,_,_=>rfl
 | 0,1,_,_=>exact absurd h (by decide+kernel)
 | 0,2,_,_=>exact absurd h (by decide+kernel)
 | 1,0,_,_=>exact absurd h (by decide+kernel)
 | 1,2,_,_=>exact absurd h (by decide+kernel)
 | 2,0,_,_=>exact absurd h (by decide+kernel)
 | 2,1,_,_=>exact absurd h (by decide+kernel)
theorem EB{a b c:Str}(h:a++b=a++c):b=c:=kH (by
 have:=congrArg (fun s:Str=>s.cps.toList) h
 simp only[cP] at this;exact List.append_cancel_left this)
theorem CY{w:Nat}(hw:w<=3):(pB x w).Nodup:=by
 unfold pB;split
 .simp
 .rw [List.nodup_iff_pairwise_ne,List.pairwise_map];refine(List.nodup_iff_pairwise_ne.mp (List.nodup_range (n:=w))).imp_of_mem ?_;intro a b ha hb sW e;exact sW (BJ (Nat.lt_of_lt_of_le (List.mem_range.mp ha) hw) (Nat.lt_of_lt_of_le (List.mem_range.mp hb) hw) (EB e))
theorem zV{w:Nat}:(pB x w).length=w:=by
 unfold pB;split
 .rename_i h;rw [h];rfl
 .simp
structure lV (d:Dr):Prop where
 li:d.ins.length<=6
 lg:d.gs.length<=60
 lo:d.os.length<=6
 ln:d.nm.length<=66
 lw:d.nu.length<=78
 li3:d.nm.length=d.ins.length+d.gs.length
 lw3:d.nu.length<=3*d.ins.length+d.gs.length
 ok:∀n∈d.nm,isNm n=true
 bs:∀w∈d.nu,base w∈d.nm
 nd:d.nu.Nodup
def lD(d:Dr)(x:Str)(w:Nat):Except Nat Dr:=
 if d.gs≠[]\/d.os≠[] then .error 4 else if x∈d.nm then .error 5 else if 6<=d.ins.length then .error 6 else .ok {d with ins:=d.ins++[(x,w)],nm:=d.nm++[x],nu:=d.nu++pB x w}
def gY(nu:List Str):List Str->Option (List Nat)
 | []=>some []
 | w ::ws=>match idx nu w with | some i=>(gY nu ws).map (i ::·) | none=>none
def addGate(d:Dr)(x:Str)(k:Nat)(ws:List Str)(s:Bool):Except Nat Dr:=
 if d.os≠[] then .error 4 else if x∈d.nm then .error 5 else if 60<=d.gs.length then .error 6 else match gY d.nu ws with
 | none=> .error 7
 | some l=> .ok {d with gs:=d.gs++[(k,l,s)],nm:=d.nm++[x],nu:=d.nu++[x]}
def fQ(d:Dr)(x:Str)(ws:List Str):Except Nat Dr:=
 if x∈d.on then .error 5 else if 6<=d.os.length then .error 6 else match gY d.nu ws with
 | none=> .error 7
 | some l=> .ok {d with os:=d.os++[(x,l)]}
def yw(w:Str):Nat:=([Str.ofString "not",Str.ofString "and",Str.ofString "or",Str.ofString "xor",Str.ofString "vote"].findIdx? (·==w)).getD 0
def Hj(w:Str):Nat:=((Eh.lookup w).getD 0).toNat
def gZ(d:Dr)(ws:List Str):Except Nat Dr:=
 if Bc ws=true then lD d (wd ws 1) (Hj (wd ws 2))
 else if A_ ws=true then addGate d (wd ws 1) (yw (wd ws 2)) (ws.drop 3) (wd ws 0==Str.ofString "sure")
 else if Ei ws=true then fQ d (wd ws 1) (ws.drop 2)
 else .error 3
def fV(d:Dr):List Str->Except Nat Dr
 | []=> .ok d
 | r ::rs=>match gZ d (Txt.split r SP) with | .ok d'=>fV d' rs | .error c=> .error c
def d0:Dr:=⟨[],[],[],[],[]⟩
def oi(rows:List Str):Except Nat Dr:=
 if 80 < rows.length then .error 2 else match fV d0 rows with
 | .error c=> .error c
 | .ok d=>if d.ins=[]\/d.os=[] then .error 8 else .ok d
theorem Mf:lV d0:=⟨by simp [d0],by simp [d0],by simp [d0],by simp [d0],by simp [d0],rfl,by simp [d0],by simp [d0],by simp [d0],by simp [d0]⟩
theorem Cv(h:(Eh.lookup w).isSome=true):1<=Hj w/\Hj w<=3/\Eh.lookup w=some (Hj w:Int):=by
 obtain⟨n,hn⟩:=Option.isSome_iff_exists.mp h;unfold Hj;rw[hn];have:n=1\/n=2\/n=3:=by
  unfold Eh at hn;simp only[List.lookup_cons,List.lookup_nil] at hn;split at hn
  .cases hn;exact .inl rfl
  .split at hn
   .cases hn;exact .inr (.inl rfl)
   .split at hn
    .cases hn;exact .inr (.inr rfl)
    .cases hn
 rcases this with rfl | rfl | rfl <;> exact⟨by decide,by decide,rfl⟩
theorem Bs(h:(Ea.lookup w).isSome=true):kS (yw w)=w/\yw w<=4/\Ea.lookup w=some ((ar (yw w):Nat):Int):=by
 obtain⟨n,hn⟩:=Option.isSome_iff_exists.mp h;unfold Ea at hn;simp only[List.lookup_cons,List.lookup_nil] at hn;split at hn
 .rename_i q;rw [beq_iff_eq.mp q];exact⟨by decide+kernel,by decide+kernel,by decide+kernel⟩
 .split at hn
  .rename_i q;rw [beq_iff_eq.mp q];exact⟨by decide+kernel,by decide+kernel,by decide+kernel⟩
  .split at hn
   .rename_i q;rw [beq_iff_eq.mp q];exact⟨by decide+kernel,by decide+kernel,by decide+kernel⟩
   .split at hn
    .rename_i q;rw [beq_iff_eq.mp q];exact⟨by decide+kernel,by decide+kernel,by decide+kernel⟩
    .split at hn
     .rename_i q;rw [beq_iff_eq.mp q];exact⟨by decide+kernel,by decide+kernel,by decide+kernel⟩
     .cases hn
theorem nR{d:Dr}(D:lV d)(hx:x ∉ d.nm)(hy:base y=x):y ∉ d.nu:=fun q=>hx (by rw[<-hy];exact D.bs y q)
theorem Bw{d d':Dr}(D:lV d){w:Nat}(hx:isNm x=true)(hw:w<=3)(h:lD d x w= .ok d'):lV d':=by
 unfold lD at h;split at h
 .cases h
 .rename_i h1;split at h
  .cases h
  .rename_i h2;split at h
   .cases h
   .rename_i h3;cases h;have hg:d.gs=[]:=by
     cases q:d.gs with
     | nil=>rfl
     | cons a b=>exact absurd (.inl (by rw[q];simp)) h1
    have:=D.li;have:=D.lw3;have:=D.li3;have hl:(pB x w).length=w:=zV;have hg0:d.gs.length=0:=by rw[hg];rfl
    refine⟨by simp;omega,D.lg,D.lo,by simp;omega,by simp;omega,by simp;omega,by simp;omega,fun n hn=>?_,fun y hy=>?_,?_⟩
    .rcases List.mem_append.mp hn with z | z
     .exact D.ok n z
     .rw [List.mem_singleton.mp z];exact hx
    .rcases List.mem_append.mp hy with z | z
     .exact List.mem_append_left _ (D.bs y z)
     .rw [rT hx y z];simp
    .exact List.nodup_append.mpr ⟨D.nd,CY hw,fun a ha b hb e=>nR D h2 (rT hx b hb) (by rw[<-e];exact ha)⟩
theorem xJ{d d':Dr}(D:lV d){k:Nat}{ws:List Str}{s:Bool}(hx:isNm x=true)(h:addGate d x k ws s= .ok d'):lV d':=by
 unfold addGate at h;split at h
 .cases h
 .split at h
  .cases h
  .rename_i h2;split at h
   .cases h
   .rename_i h3;split at h
    .cases h
    .rename_i l hl;cases h;have:=D.li;have:=D.lw3;have:=D.li3;have:=D.lg;refine⟨D.li,by simp;omega,D.lo,by simp;omega,by simp;omega,by simp;omega,by simp;omega,fun n hn=>?_,fun y hy=>?_,?_⟩
     .rcases List.mem_append.mp hn with z | z
      .exact D.ok n z
      .rw [List.mem_singleton.mp z];exact hx
     .rcases List.mem_append.mp hy with z | z
      .exact List.mem_append_left _ (D.bs y z)
      .rw [List.mem_singleton.mp z,rh hx];simp
     .exact List.nodup_append.mpr ⟨D.nd,by simp,fun a ha b hb e=>nR D h2 (y:=b) (by rw[List.mem_singleton.mp hb];exact rh hx) (by rw[<-e];exact ha)⟩
theorem Ab{d d':Dr}(D:lV d){ws:List Str}(h:fQ d x ws= .ok d'):lV d':=by
 unfold fQ at h;split at h
 .cases h
 .split at h
  .cases h
  .rename_i h3;split at h
   .cases h
   .rename_i l hl;cases h;have:=D.lo;exact⟨D.li,D.lg,by simp;omega,D.ln,D.lw,D.li3,D.lw3,D.ok,D.bs,D.nd⟩
theorem F5{d d':Dr}(D:lV d){ws:List Str}(h:gZ d ws= .ok d'):lV d':=by
 unfold gZ at h;split at h
 .rename_i h1;unfold Bc at h1;simp only[Bool.and_eq_true] at h1;exact Bw D h1.2.2.1 (Cv h1.2.2.2).2.1 h
 .split at h
  .rename_i h1;unfold A_ at h1;simp only[Bool.and_eq_true] at h1;exact xJ D h1.2.1.1 h
  .split at h
   .exact Ab D h
   .cases h
end TX
end
section
namespace TX
open PySem PySem.Spec PyProof.Rows L2 L3 MT JT
structure Lw (n:Nat) (s:Str):Prop where
 len:s.length<=n
 low:∀c∈s.cps.toList,97<=c/\c<=122
def F9(i:Nat):Str:=⟨#[97+i]⟩
theorem Gr:uV.length=26:=by decide+kernel
theorem Gf{i:Nat}(h:i < 26):c9 (.str uV) (nI i)= .ok (.str (F9 i)):=by
 have hz:sizeLine=16777216:=sizeLine_eq;refine DN (by rw[Gr];omega) ?_
 rw[tW,Hr (by omega) (by simp;omega)]
 simp [F9]
theorem EM{i:Nat}(h:i < 26):Lw 1 (F9 i):=⟨Nat.le_refl _,fun c hc=>by
 have hc:c∈[97+i]:=hc;rw[List.mem_singleton] at hc;omega⟩
theorem yR{sep:Str}{ss:List Str}(h:(ss.map (·.length)).sum+ss.length*sep.length<=16777216):mJ (.str sep) [.lst (ss.map .str)]= .ok (.str (Str.join sep ss)):=by
 unfold mJ;simp only[L2.strs_map];rw[joinOk_of h];rfl
theorem FU{ss:List Str}(h:∀s∈ss,PyData.strOk s=true):Ed (.lst (ss.map .str)) (.lst [])= .ok ss.isEmpty:=by
 have hp:∀ss:List Str,fT (ss.map .str)=true:=by
  intro ss
  induction ss with
  | nil=>unfold fT;rfl
  | cons s ss ih=>rw [List.map_cons];unfold fT;rw [ih];unfold cx;rfl
 have ht:∀ss:List Str,jK (ss.map .str)=ss.map PyData.str:=by
  intro ss
  induction ss with
  | nil=>unfold jK;rfl
  | cons s ss ih=>rw [List.map_cons,List.map_cons];unfold jK;rw [ih];unfold toPy;rfl
 have hl:∀ss:List Str,(∀s∈ss,PyData.strOk s=true)->PyData.canLayAll0 (ss.map PyData.str)=true:=by
  intro ss
  induction ss with
  | nil=>intro _;rfl
  | cons s ss ih=>intro h;rw [List.map_cons];unfold PyData.canLayAll0;rw [ih fun t ht=>h t (List.mem_cons_of_mem _ ht)];unfold PyData.canLay0;rw [h s List.mem_cons_self];rfl
 have hd:∀ss:List Str,PyData.depthAll (ss.map PyData.str)=0:=by
  intro ss
  induction ss with
  | nil=>rfl
  | cons s ss ih=>rw [List.map_cons];unfold PyData.depthAll;rw [ih];rfl
 have hsh:SeqAt.shaped (toPy (.lst (ss.map .str)))=true:=by
  unfold toPy SeqAt.shaped;rw[ht];unfold PyData.canLay0 PyData.depth;rw[hl ss h,hd];rfl
 have hpd:cx (.lst (ss.map .str))=true:=by unfold cx;exact hp ss
 have sW:Ed (.lst (ss.map .str)) (.lst [])=R.aI (cx (.lst (ss.map .str)) && cx (.lst []) && SeqAt.shaped (toPy (.lst (ss.map .str))) && SeqAt.shaped (toPy (.lst []))) (.ok (PyData.eqv (toPy (.lst (ss.map .str))) (toPy (.lst [])))):=rfl;rw[sW,hpd,hsh,show cx (.lst [])=true from rfl,show SeqAt.shaped (toPy (.lst []))=true from rfl]
 show R.ok _=_;unfold toPy;rw[ht];cases ss with
 | nil=>rfl
 | cons s ss=>rfl
def Xm:List Str:=(List.range 80).map fun n=>⟨#[122,122,97+n / 26,97+n % 26]⟩
def Xz:List Str:=(List.range 144).map fun n=>⟨#[121,97+n / 12,109+n % 12]⟩
def Xc(s:Str):Nat:=s.cps.toList.foldl (fun a c=>a*128+c) 0
abbrev W9:Str:=Str.ofString "abcdefghijkl"
abbrev Xh:Str:=Str.ofString "mnopqrstuvwx"
structure TN (ins:Ya) (gs:List Gt) (os:Yb):Prop where
 i1:1<=ins.length
 i6:ins.length<=6
 iw:∀x∈ins,1<=x.2/\x.2<=3
 ind:(ins.map (·.1)).Nodup
 inm:∀x∈ins,isNm x.1=true
 g60:gs.length<=60
 gok:∀(i:Nat) (x:Gt),gs[i]? =some x->Lc (M4 ins+i) x
 o1:1<=os.length
 o6:os.length<=6
 ond:(os.map (·.1)).Nodup
 onm:∀x∈os,isNm x.1=true
 ow:∀x∈os,1<=x.2.length/\x.2.length<=3/\∀w∈x.2,w < M4 ins+gs.length
end TX
end
section
namespace TX
open PySem PySem.Spec PyProof.Rows L2 L3 MT JT
structure GN (ins:Ya) (n:Nat) (gn:List Str):Prop where
 len:gn.length=n
 nd:gn.Nodup
 nm:∀s∈gn,isNm s=true
 dis:∀s∈gn,s ∉ ins.map (·.1)
def Be(ins:Ya):List Str:=ins.flatMap fun x=>pB x.1 x.2
def tx(W:List Str)(l:List Nat):List Str:=l.map fun w=>W.getD w Str.empty
def wS:Nat->Str | 1=>Str.ofString "1" | 2=>Str.ofString "2" | _=>Str.ofString "3"
def pC(x:Str × Nat):List Str:=[Str.ofString "in",x.1,wS x.2]
def UZ(W:List Str)(g:Gt)(n:Str):List Str:=[if g.2.2 then Str.ofString "sure" else Str.ofString "gate",n,kS g.1]++tx W g.2.1
def UT(W:List Str)(o:Str × List Nat):List Str:=[Str.ofString "out",o.1]++tx W o.2
def Vb(ins:Ya)(gs:List Gt)(os:Yb)(gn:List Str):List (List Str):=ins.map pC++(gs.zip gn).map (fun p=>UZ (Be ins++gn) p.1 p.2)++os.map (UT (Be ins++gn))
structure Wo (w:Str):Prop where
 len:w.length<=10
 cps:∀c∈w.cps.toList,33<=c/\c < 128
theorem GJ(h:isNm s=true):Wo s:=⟨by have:=(de.mp h).2.1;omega,fun c hc=>by have:=(de.mp h).2.2.2 c hc;omega⟩
theorem HX{x:Str}(h:isNm x=true){f:Nat}:Wo (x++CO++jY f):=by
 have h1:(jY f).length=1/\∀c∈(jY f).cps.toList,33<=c/\c < 128:=by
  match f with
  | 0=>exact⟨by decide+kernel,by decide+kernel⟩
  | 1=>exact⟨by decide+kernel,by decide+kernel⟩
  | n+2=>exact⟨by show(Str.ofString "2").length=1;decide+kernel,by show ∀c∈(Str.ofString "2").cps.toList,_;decide+kernel⟩
 refine⟨?_,fun c hc=>?_⟩
 .rw [Str.length_append,Str.length_append,h1.1];have:=(de.mp h).2.1;have:CO.length=1:=by decide+kernel
  omega
 .rw [cP,cP] at hc;rcases List.mem_append.mp hc with z | z
  .rcases List.mem_append.mp z with y | y
   .have:=(de.mp h).2.2.2 c y;omega
   .rw [n_] at y;have:c∈[58]:=y;rw[List.mem_singleton] at this;omega
  .exact h1.2 c z
theorem xq(h:isNm x=true){w:Nat}:∀y∈pB x w,Wo y/\dM y=true:=fun y hy=>by
 unfold pB at hy;split at hy
 .rw [List.mem_singleton.mp hy];exact⟨GJ h,LS h⟩
 .obtain⟨f,_,rfl⟩:=List.mem_map.mp hy;refine⟨HX h,Jt h ?_⟩
  match f with
  | 0=>decide+kernel
  | 1=>decide+kernel
  | n+2=>show Str.ofString "2"∈nY;decide+kernel
theorem AX{ws:List Str}(sW:ws≠[])(h:∀w∈ws,Wo w):Txt.split (Str.join SP ws) SP=ws:=by
 rw[zi];exact oB sW fun p hp q=>by have:=(h p hp).cps 32 q;omega
theorem GK(w:Nat):Wo (wS w)/\(Eh.lookup (wS w)).isSome=true/\(1<=w->w<=3->Hj (wS w)=w):=by
 match w with
 | 1=>exact⟨⟨by decide+kernel,by decide+kernel⟩,by decide+kernel,fun _ _=>by decide+kernel⟩
 | 2=>exact⟨⟨by decide+kernel,by decide+kernel⟩,by decide+kernel,fun _ _=>by decide+kernel⟩
 | 3=>exact⟨⟨by decide+kernel,by decide+kernel⟩,by decide+kernel,fun _ _=>by decide+kernel⟩
 | 0=>exact⟨⟨by show(Str.ofString "3").length<=10;decide+kernel,by show ∀c∈(Str.ofString "3").cps.toList,_;decide+kernel⟩,by show(Eh.lookup (Str.ofString "3")).isSome=true;decide+kernel,fun h=>by omega⟩
 | n+4=>exact⟨⟨by show(Str.ofString "3").length<=10;decide+kernel,by show ∀c∈(Str.ofString "3").cps.toList,_;decide+kernel⟩,by show(Eh.lookup (Str.ofString "3")).isSome=true;decide+kernel,fun _ h=>by omega⟩
theorem Jf(s:Str)(h:(decide (s.length<=10) && s.cps.toList.all fun c=>decide (33<=c/\c < 128))=true):Wo s:=by
 rw[Bool.and_eq_true,List.all_eq_true] at h;exact⟨of_decide_eq_true h.1,fun c hc=>of_decide_eq_true (h.2 c hc)⟩
theorem BZ{x:Str × Nat}(h:isNm x.1=true):∀w∈pC x,Wo w:=fun w hw=>by
 unfold pC at hw;simp only[List.mem_cons,List.not_mem_nil,or_false] at hw;rcases hw with rfl | rfl | rfl
 .exact Jf _ (by decide+kernel)
 .exact GJ h
 .exact(GK x.2).1
theorem Fm{d:Dr}{x:Str × Nat}(h:isNm x.1=true)(hw:1<=x.2/\x.2<=3):gZ d (pC x)=lD d x.1 x.2:=by
 obtain⟨_,h2,h3⟩:=GK x.2;have:Bc (pC x)=true:=by
  show(decide _ && ((Str.ofString "in"==Str.ofString "in") && (isNm x.1 && (Eh.lookup (wS x.2)).isSome)))=true;rw[h,h2];rfl
 unfold gZ;rw[if_pos this];show lD d x.1 (Hj (wS x.2))=_;rw[h3 hw.1 hw.2]
theorem rL:∀(a b:List Str) (d:Dr),fV d (a++b)=match fV d a with | .ok d'=>fV d' b | .error c=> .error c
 | [],b,d=>rfl
 | r ::a,b,d=>by
   show(match gZ d (Txt.split r SP) with | .ok d'=>fV d' (a++b) | .error c=> .error c)=_
   show _=(match (match gZ d (Txt.split r SP) with | .ok d'=>fV d' a | .error c=>Except.error c) with | .ok d'=>fV d' b | .error c=> .error c)
   cases gZ d (Txt.split r SP) with
   | error c=>rfl
   | ok d'=>exact rL a b d'
section
variable {ins:Ya} {gs:List Gt} {os:Yb} {gn:List Str}
theorem vH(hn:(ins.map (·.1)).Nodup)(hm:∀x∈ins,isNm x.1=true)(hw:∀x∈ins,1<=x.2/\x.2<=3)(h6:ins.length<=6):∀i,i<=ins.length->fV d0 ((ins.take i).map fun x=>Str.join SP (pC x))= .ok ⟨ins.take i,[],[],(ins.take i).map (·.1),Be (ins.take i)⟩
 | 0,_=>rfl
 | i+1,hi=>by
   obtain⟨x,hx⟩:∃x,ins[i]? =some x:=⟨_,List.getElem?_eq_getElem (by omega)⟩
   have hxm:=List.mem_of_getElem? hx;rw[List.take_add_one,hx,List.map_append,rL,vH hn hm hw h6 i (by omega)]
   show(match gZ _ (Txt.split (Str.join SP (pC x)) SP) with | .ok d'=>fV d' [] | .error c=> .error c)=_
   rw[AX (by unfold pC;simp) (BZ (hm x hxm)),Fm (hm x hxm) (hw x hxm)]
   have hx1:x.1 ∉ (ins.take i).map (·.1):=fun q=>by
    rw[List.map_take] at q;obtain⟨j,hj⟩:=List.getElem?_of_mem q;rw[List.getElem?_take] at hj;split at hj
    .rename_i hji;have:=mZ hn hj (show(ins.map (·.1))[i]? =some x.1 by rw[List.getElem?_map,hx];rfl)
     omega
    .cases hj
   have hl:(ins.take i).length=i:=by rw[List.length_take];omega
   unfold lD;rw[if_neg (by simp),if_neg hx1,if_neg (by show ¬6<=(ins.take i).length;omega)]
   show Except.ok _=Except.ok _;congr 1;simp [Be]
end
end TX
end
section
namespace TX
open PySem PySem.Spec PyProof.Rows L2 L3 MT JT
theorem rR{c:Nat}:∀{l:Yc} {d:Nat},d∈jn c l->d=c\/∃x∈l,d∈x
 | [],d,h=>by cases h
 | [x],d,h=> .inr ⟨x,List.mem_cons_self,h⟩
 | x ::y ::r,d,h=>by
   rcases List.mem_append.mp h with z | z
   .exact .inr ⟨x,List.mem_cons_self,z⟩
   .rcases List.mem_cons.mp z with z | z
    .exact .inl z
    .rcases rR z with z | ⟨w,hw,z⟩
     .exact .inl z
     .exact .inr ⟨w,List.mem_cons_of_mem _ hw,z⟩
theorem DL{c:Nat}:∀(l:Yc),(jn c l).length<=(l.map (·.length)).sum+l.length
 | []=>by simp [jn]
 | [x]=>by simp [jn]
 | x ::y ::r=>by
   have:=DL (c:=c) (y ::r);show(x++c ::jn c (y ::r)).length<=_;rw[List.length_append,List.length_cons,List.map_cons,List.sum_cons,List.length_cons];omega
theorem nU(s:Str):s.length=s.cps.toList.length:=by rw[Array.length_toList];rfl
theorem vJ{c:Nat}{l:List Str}{m:Nat}(h:∀s∈l,s.length<=m):(Str.join ⟨#[c]⟩ l).length<=l.length*(m+1):=by
 rw[nU,gf];have h1:=DL (c:=c) (l.map fun s=>s.cps.toList)
 have h2:=ve (l:=(l.map fun s=>s.cps.toList).map (·.length)) (m:=m) fun x hx=>by
  obtain⟨y,hy,rfl⟩:=List.mem_map.mp hx;obtain⟨s,hs,rfl⟩:=List.mem_map.mp hy;rw[<-nU];exact h s hs
 rw[List.length_map,List.length_map] at h2;rw[List.length_map] at h1;rw[Nat.mul_add,Nat.mul_one];omega
theorem wR{c d:Nat}{l:List Str}(h:d∈(Str.join ⟨#[c]⟩ l).cps.toList):d=c\/∃s∈l,d∈s.cps.toList:=by
 rw[gf] at h;rcases rR h with z | ⟨x,hx,z⟩
 .exact .inl z
 .obtain⟨s,hs,rfl⟩:=List.mem_map.mp hx;exact .inr ⟨s,hs,z⟩
structure Ro (r:Str):Prop where
 len:r.length<=110
 cps:∀c∈r.cps.toList,32<=c/\c < 128
theorem Eu{ws:List Str}(hl:ws.length<=10)(h:∀w∈ws,Wo w):Ro (Str.join SP ws):=by
 rw[zi];refine⟨?_,fun c hc=>?_⟩
 .have:=vJ (c:=32) (m:=10) fun w hw=>(h w hw).len
  omega
 .rcases wR hc with z | ⟨w,hw,z⟩
  .omega
  .have:=(h w hw).cps c z;omega
section
variable {rs:List Str}
end
section
variable {ins:Ya} {gs:List Gt} {os:Yb} {gn:List Str}
def XQ(ins:Ya)(gs:List Gt)(os:Yb)(gn:List Str):Str:=Str.join NL ((Vb ins gs os gn).map (Str.join SP))
theorem Bv(h:isNm s=true):i5 0 (.str s):=by
 refine i5.str ?_;unfold PyData.canLay0 PyData.strOk;rw[<-Array.all_toList,List.all_eq_true];intro c hc;have:=(de.mp h).2.2.2 c hc;exact decide_eq_true (by omega)
theorem Hy(k:Nat):i5 0 (.str (kS k)):=by
 refine i5.str ?_;unfold kS;split <;> decide+kernel
theorem Dx(w:List Nat):i5 1 (.tup (w.map nI)):=i5.tup fun d hd=>by obtain⟨x,_,rfl⟩:=List.mem_map.mp hd;exact i5.int x
theorem FE(hi:∀x∈ins,isNm x.1=true)(ho:∀x∈os,isNm x.1=true):i5 4 (yi ins gs os):=i5.tup fun d hd=>by
 simp only[List.mem_cons,List.not_mem_nil,or_false] at hd;rcases hd with rfl | rfl | rfl
 .exact i5.lst (n:=2) fun d hd=>by
   obtain⟨x,hx,rfl⟩:=List.mem_map.mp hd;exact i5.tup (n:=1) fun d hd=>by
    simp only[List.mem_cons,List.not_mem_nil,or_false] at hd;rcases hd with rfl | rfl
    .exact(Bv (hi x hx)).mono (by omega)
    .exact(i5.int _).mono (by omega)
 .exact i5.lst (n:=2) fun d hd=>by
   obtain⟨x,hx,rfl⟩:=List.mem_map.mp hd;exact i5.tup (n:=1) fun d hd=>by
    simp only[List.mem_cons,List.not_mem_nil,or_false] at hd;rcases hd with rfl | rfl | rfl
    .exact(Hy _).mono (by omega)
    .exact Dx _
    .exact(i5.bl _).mono (by omega)
 .exact i5.lst (n:=2) fun d hd=>by
   obtain⟨x,hx,rfl⟩:=List.mem_map.mp hd;exact i5.tup (n:=1) fun d hd=>by
    simp only[List.mem_cons,List.not_mem_nil,or_false] at hd;rcases hd with rfl | rfl
    .exact(Bv (ho x hx)).mono (by omega)
    .exact Dx _
inductive Sx:Nat->D->Prop where
 | int (n:Nat) (i:Int):Sx n (.int i)
 | bl (n:Nat) (b:Bool):Sx n (.bl b)
 | str (n:Nat) (s:Str):Sx n (.str s)
 | lst {n:Nat} {ds:List D} (h:∀d∈ds,Sx n d) (hl:ds.length < 1000000):Sx (n+1) (.lst ds)
 | tup {n:Nat} {ds:List D} (h:∀d∈ds,Sx n d) (hl:ds.length < 1000000):Sx (n+1) (.tup ds)
end
end TX
end
section
namespace TX
open PySem PySem.Spec PyProof.Rows L2 L3 MT JT
abbrev IN:Str:=Str.ofString "in"
abbrev GA:Str:=Str.ofString "gate"
abbrev OU:Str:=Str.ofString "out"
abbrev BD:Str:=Str.ofString "bad"
structure Rx where
 t:Str
 wd:Str
 nm:Str
 w:Nat
 ws:List Str
def Rx.d(r:Rx):D:= .lst [.str r.t, .str r.wd, .str r.nm,nI r.w, .lst (r.ws.map .str)]
structure Ls where
 wd:List Str
 nm:List Str
 on:List Str
 kn:List Str
def Ls.d(s:Ls):D:= .lst [.lst (s.wd.map .str), .lst (s.nm.map .str), .lst (s.on.map .str), .lst (s.kn.map .str)]
def lim(w:Str):Nat:=if w==GA then 60 else 6
def LQ(r:Rx)(s:Ls):Option Nat:=
 if((r.wd==IN && (s.wd.contains GA || s.wd.contains OU)) || (r.wd==GA && s.wd.contains OU))=true then some 2
 else if((r.wd==OU && s.on.contains r.nm) || (r.wd !=OU && s.nm.contains r.nm))=true then some 3
 else if s.wd.count r.wd=lim r.wd then some 4
 else if r.ws.filter (fun w=>!s.kn.contains w)=[] then none else some 5
def KO(r:Rx)(s:Ls):Ls:=
 if(r.wd==OU)=true then⟨s.wd++[r.wd],s.nm,s.on++[r.nm],s.kn⟩
 else⟨s.wd++[r.wd],s.nm++[r.nm],s.on,s.kn++(if 1 < r.w then pB r.nm r.w else [r.nm])⟩
def Ob(s:Ls):List Rx->Option Nat
 | []=>if(!s.wd.contains IN || !s.wd.contains OU)=true then some 6 else none
 | r ::rs=>if(r.wd==BD)=true then some 1 else match LQ r s with | some n=>some n | none=>Ob (KO r s) rs
def s0:Ls:=⟨[],[],[],[]⟩
def oD:Option Nat->D | none=> .int (-1) | some n=>nI n
structure Xf (r:Rx):Prop where
 len:r.t.length<=6000
 cps:∀c∈r.t.cps.toList,c≠10/\c < 1114112
 nl:r.nm.length<=8
 wl:r.ws.length<=3
 by4:(r.wd=IN/\r.ws=[]/\1<=r.w/\r.w<=3/\∀d,gZ d (Txt.split r.t SP)=lD d r.nm r.w)\/
  (r.wd=GA/\r.w=0/\∃k s,∀d,gZ d (Txt.split r.t SP)=addGate d r.nm k r.ws s)\/
  (r.wd=OU/\r.w=0/\∀d,gZ d (Txt.split r.t SP)=fQ d r.nm r.ws)\/
  (r.wd=BD/\∀d,gZ d (Txt.split r.t SP)= .error 3)
structure Inv (s:Ls) (d:Dr):Prop where
 ci:s.wd.count IN=d.ins.length
 cg:s.wd.count GA=d.gs.length
 co:s.wd.count OU=d.os.length
 nm:s.nm=d.nm
 on:s.on=d.on
 kn:s.kn=d.nu
 ok:lV d
def W5(w:Str):Bool:=decide (w.length<=10) && w.cps.toList.all (fun c=>decide (33<=c) && decide (c < 128)) && dM w
theorem Jd{l:List Str}{i:Nat}(h:i < l.length):∃w∈l,c9 (.lst (l.map .str)) (nI i)= .ok (.str w):=⟨l[i],List.getElem_mem h,NT.eV (by rw[List.getElem?_map,List.getElem?_eq_getElem h];rfl)⟩
theorem ED{ds:List D}{n:Nat}:DM (.lst ds) none (some (n:Int))= .ok (.lst (ds.take n)):=by
 show R.ok (D.lst (L2.cutD _ none (some ((n:Nat):Int))))=_;unfold L2.cutD;rw[HT.zR,HT.wQ,List.drop_zero,Nat.sub_zero];by_cases h:n<=ds.length
 .rw [Nat.min_eq_left h]
 .rw [Nat.min_eq_right (by omega),List.take_of_length_le (Nat.le_refl _),List.take_of_length_le (by omega)]
theorem EK{g:D->List D->R D}{f:FD}{fs:aq->R (List D)}{δ:aq}{l ds:List D}{r:R D}(h:f δ= .ok (.lst l))(h2:fs δ= .ok ds)(h3:g (.lst l) ds=r):u_ "list" g f fs δ=r:=by
 unfold u_;rw [h,R.aK,h2];exact h3
theorem LX(b:Bool):zC [.bl b]= .ok (nI (if b then 1 else 0)):=by cases b <;> rfl
theorem zA{x:Str}{w:Nat}(h:x.length<=1000)(hw:2<=w/\w<=3):[x++Str.ofString ":0",x++Str.ofString ":1",x++Str.ofString ":2"].take w=pB x w:=by
 have fg:∀f:Nat,∀s:Str,s=CO++jY f->x++s=x++CO++jY f:=fun f s e=>by rw[e,Ax]
 rcases(show w=2\/w=3 by omega) with rfl | rfl
 .show [x++Str.ofString ":0",x++Str.ofString ":1"]=[x++CO++jY 0,x++CO++jY 1];rw[fg 0 (Str.ofString ":0") (by decide+kernel),fg 1 (Str.ofString ":1") (by decide+kernel)]
 .show [x++Str.ofString ":0",x++Str.ofString ":1",x++Str.ofString ":2"]=[x++CO++jY 0,x++CO++jY 1,x++CO++jY 2];rw[fg 0 (Str.ofString ":0") (by decide+kernel),fg 1 (Str.ofString ":1") (by decide+kernel),fg 2 (Str.ofString ":2") (by decide+kernel)]
def Nx(s:Ls):List Rx->Except Nat Ls
 | []=> .ok s
 | r ::rs=>if(r.wd==BD)=true then .error 1 else match LQ r s with | some n=> .error n | none=>Nx (KO r s) rs
end TX
end
section
namespace TX
open PySem PySem.Spec PyProof.Rows L2 L3 MT JT
def Om(w:Str):Bool:=w.cps.toList.all fun c=>decide (c≠32) && (decide (c≠10) && decide (c < 1114112))
def US(ws:List Str):Bool:=!Bc ws && (!A_ ws && (!Ei ws && (decide (ws≠[]) && (ws.all Om && decide ((ws.map (·.length)).sum+ws.length<=6000)))))
@[irreducible] noncomputable def X1:Str:=Txt.mul (Str.ofString "1") 5000
@[irreducible] noncomputable def X2:Str:=Txt.mul (Str.ofString "0") 4301
@[irreducible] noncomputable def X3:Str:=Txt.mul (Str.ofString "a") 5000
theorem XA:X1.cps.toList=List.replicate 5000 49:=by unfold X1;rw [show Str.ofString "1"=(⟨#[49]⟩:Str) by decide+kernel,mul_one_list];rfl
theorem Bo:∀f∈nY,f.length=1:=by decide+kernel
theorem OJ(b w:Str)(h:(a==Str.ofString "in")=false):Bc [a,b,w]=false:=by
 unfold Bc;show(_ && ((a==Str.ofString "in") && _))=false;rw[h];simp
theorem K9(a b c:Str):A_ [a,b,c]=false:=rfl
def XE:List (List Str):=[[Str.ofString ""],[Str.ofString "",Str.ofString ""],[Str.ofString "in"],[Str.ofString "in",Str.ofString "a"],[Str.ofString "in",Str.ofString "a",Str.ofString "0"],[Str.ofString "in",Str.ofString "a",Str.ofString "4"],[Str.ofString "in",Str.ofString "a",Str.ofString "01"],[Str.ofString "in",Str.ofString "a",Str.ofString "x"],[Str.ofString "in",Str.ofString "a",Str.ofString "1",Str.ofString "1"],[Str.ofString "in",Str.ofString "A",Str.ofString "1"],[Str.ofString "in",Str.ofString "a1",Str.ofString "1"]]
def Xi:List (List Str):=[[Str.ofString "in",Str.ofString "abcdefghi",Str.ofString "1"],[Str.ofString "in",Str.ofString "",Str.ofString "a",Str.ofString "1"],[Str.ofString "in",Str.ofString "a",Str.ofString "1",Str.ofString ""],[Str.ofString "",Str.ofString "in",Str.ofString "a",Str.ofString "1"],[Str.ofString "In",Str.ofString "a",Str.ofString "1"],[Str.ofString "ins",Str.ofString "a",Str.ofString "1"],[Str.ofString "in",Str.ofString "1",Str.ofString "a"]]
def XR:List (List Str):=[[Str.ofString "in",Str.ofString "gate",Str.ofString "1"],[Str.ofString "in",Str.ofString "in",Str.ofString "1"],[Str.ofString "in",Str.ofString "a",Str.ofString "-1"],[Str.ofString "in",Str.ofString "a",Str.ofString "1."],[Str.ofString "in",Str.ofString "a",Str.ofString "11"],[Str.ofString "in",Str.ofString ":a",Str.ofString "1"],[Str.ofString "in",Str.ofString "a:0",Str.ofString "1"],[Str.ofString "gate"]]
def XF:List (List Str):=[[Str.ofString "gate",Str.ofString "a"],[Str.ofString "gate",Str.ofString "a",Str.ofString "not"],[Str.ofString "gate",Str.ofString "a",Str.ofString "and"],[Str.ofString "gate",Str.ofString "a",Str.ofString "not",Str.ofString "b",Str.ofString "c"],[Str.ofString "gate",Str.ofString "a",Str.ofString "and",Str.ofString "b"],[Str.ofString "gate",Str.ofString "a",Str.ofString "and",Str.ofString "b",Str.ofString "c",Str.ofString "d"]]
def Xn:List (List Str):=[[Str.ofString "gate",Str.ofString "a",Str.ofString "or",Str.ofString "b"],[Str.ofString "gate",Str.ofString "a",Str.ofString "xor",Str.ofString "b",Str.ofString "c",Str.ofString "d"],[Str.ofString "gate",Str.ofString "a",Str.ofString "vote",Str.ofString "b",Str.ofString "c"],[Str.ofString "gate",Str.ofString "a",Str.ofString "vote",Str.ofString "b",Str.ofString "c",Str.ofString "d",Str.ofString "e"]]
def WT:List (List Str):=[[Str.ofString "gate",Str.ofString "a",Str.ofString "nand",Str.ofString "b",Str.ofString "c"],[Str.ofString "gate",Str.ofString "a",Str.ofString "NOT",Str.ofString "b"],[Str.ofString "gate",Str.ofString "A",Str.ofString "not",Str.ofString "b"],[Str.ofString "gate",Str.ofString "a1",Str.ofString "not",Str.ofString "b"],[Str.ofString "gate",Str.ofString "not",Str.ofString "not",Str.ofString "b"]]
def Xj:List (List Str):=[[Str.ofString "gate",Str.ofString "a",Str.ofString "not",Str.ofString "B"],[Str.ofString "gate",Str.ofString "a",Str.ofString "not",Str.ofString "1"],[Str.ofString "gate",Str.ofString "a",Str.ofString "not",Str.ofString "b:"],[Str.ofString "gate",Str.ofString "a",Str.ofString "not",Str.ofString "b:00"],[Str.ofString "gate",Str.ofString "a",Str.ofString "not",Str.ofString "b:x"]]
def XJ:List (List Str):=[[Str.ofString "gate",Str.ofString "a",Str.ofString "not",Str.ofString ":0"],[Str.ofString "gate",Str.ofString "a",Str.ofString "not",Str.ofString "b:0:0"],[Str.ofString "gate",Str.ofString "a",Str.ofString "not",Str.ofString "b;0"],[Str.ofString "gate",Str.ofString "a",Str.ofString "and",Str.ofString "b,",Str.ofString "c"],[Str.ofString "gate",Str.ofString "a",Str.ofString "",Str.ofString "not",Str.ofString "b"]]
def WQ:List (List Str):=[[Str.ofString "gate",Str.ofString "a",Str.ofString "not",Str.ofString "",Str.ofString "b"],[Str.ofString "gate",Str.ofString "a",Str.ofString "not",Str.ofString "b",Str.ofString ""],[Str.ofString "",Str.ofString "gate",Str.ofString "a",Str.ofString "not",Str.ofString "b"],[Str.ofString "Gate",Str.ofString "a",Str.ofString "not",Str.ofString "b"],[Str.ofString "gates",Str.ofString "a",Str.ofString "not",Str.ofString "b"]]
def Xl:List (List Str):=[[Str.ofString "gate",Str.ofString "abcdefghi",Str.ofString "not",Str.ofString "b"],[Str.ofString "gate",Str.ofString "a",Str.ofString "not",Str.ofString "abcdefghi"],[Str.ofString "gate",Str.ofString "vote",Str.ofString "vote",Str.ofString "b",Str.ofString "c",Str.ofString "d"],[Str.ofString "gate",Str.ofString "a",Str.ofString "in",Str.ofString "b"]]
def Vx:List (List Str):=[[Str.ofString "gate",Str.ofString "a",Str.ofString "not",Str.ofString "not"],[Str.ofString "gate",Str.ofString "a",Str.ofString "and",Str.ofString "b",Str.ofString "or"],[Str.ofString "gate",Str.ofString "a",Str.ofString "not",Str.ofString "b:-1"],[Str.ofString "gate",Str.ofString "a",Str.ofString "not",Str.ofString "-b"],[Str.ofString "gate",Str.ofString "a",Str.ofString "not(b)"]]
def Tz:List (List Str):=[[Str.ofString "gate",Str.ofString "a",Str.ofString "=",Str.ofString "not",Str.ofString "b"],[Str.ofString "sure"],[Str.ofString "sure",Str.ofString "a"],[Str.ofString "sure",Str.ofString "a",Str.ofString "not"],[Str.ofString "sure",Str.ofString "a",Str.ofString "not",Str.ofString "b",Str.ofString "c"],[Str.ofString "sure",Str.ofString "a",Str.ofString "or",Str.ofString "b"]]
def Uj:List (List Str):=[[Str.ofString "sure",Str.ofString "A",Str.ofString "or",Str.ofString "b",Str.ofString "c"],[Str.ofString "sure",Str.ofString "a",Str.ofString "nor",Str.ofString "b",Str.ofString "c"],[Str.ofString "Sure",Str.ofString "a",Str.ofString "not",Str.ofString "b"],[Str.ofString "sures",Str.ofString "a",Str.ofString "not",Str.ofString "b"],[Str.ofString "sure",Str.ofString "",Str.ofString "a",Str.ofString "not",Str.ofString "b"]]
def UQ:List (List Str):=[[Str.ofString "sure",Str.ofString "a",Str.ofString "vote",Str.ofString "b",Str.ofString "c"],[Str.ofString "sure",Str.ofString "sure",Str.ofString "not",Str.ofString "b"],[Str.ofString "sure",Str.ofString "a",Str.ofString "not",Str.ofString "b:a"],[Str.ofString "out"],[Str.ofString "out",Str.ofString "a"],[Str.ofString "out",Str.ofString "a",Str.ofString "b",Str.ofString "c",Str.ofString "d",Str.ofString "e"]]
def Td:List (List Str):=[[Str.ofString "out",Str.ofString "A",Str.ofString "b"],[Str.ofString "out",Str.ofString "a",Str.ofString "B"],[Str.ofString "out",Str.ofString "a",Str.ofString "1"],[Str.ofString "out",Str.ofString "a",Str.ofString "b:"],[Str.ofString "out",Str.ofString "a",Str.ofString "b:10"],[Str.ofString "out",Str.ofString "a",Str.ofString "",Str.ofString "b"],[Str.ofString "out",Str.ofString "a",Str.ofString "b",Str.ofString ""]]
def Um:List (List Str):=[[Str.ofString "",Str.ofString "out",Str.ofString "a",Str.ofString "b"],[Str.ofString "Out",Str.ofString "a",Str.ofString "b"],[Str.ofString "outs",Str.ofString "a",Str.ofString "b"],[Str.ofString "out",Str.ofString "out",Str.ofString "b"],[Str.ofString "out",Str.ofString "a",Str.ofString "out"],[Str.ofString "out",Str.ofString "1",Str.ofString "b"],[Str.ofString "out",Str.ofString "abcdefghi",Str.ofString "b"]]
def Tt:List (List Str):=[[Str.ofString "out",Str.ofString "a",Str.ofString "b,c"],[Str.ofString "out",Str.ofString "a",Str.ofString "b:",Str.ofString "0"],[Str.ofString "not",Str.ofString "a",Str.ofString "b"],[Str.ofString "and",Str.ofString "a",Str.ofString "b",Str.ofString "c"],[Str.ofString "a"],[Str.ofString "1"],[Str.ofString "wire",Str.ofString "a",Str.ofString "b"],[Str.ofString "gate:",Str.ofString "a",Str.ofString "not",Str.ofString "b"]]
def UK:List (List Str):=[[Str.ofString "#",Str.ofString "in",Str.ofString "a",Str.ofString "1"],[Str.ofString "end"],[Str.ofString "vote",Str.ofString "a",Str.ofString "b",Str.ofString "c"]]
def Uq(w:Str):List (List Str):=[[Str.ofString "in",w,Str.ofString "2"],[Str.ofString "gate",w,Str.ofString "not",Str.ofString "b"],[Str.ofString "sure",Str.ofString "q",Str.ofString "not",w]]
def UE(w:Str):List (List Str):=[[Str.ofString "out",w,Str.ofString "b"],[Str.ofString "out",Str.ofString "q",w],[Str.ofString "in",Str.ofString "a",X1],[Str.ofString "gate",Str.ofString "a",Str.ofString "not",Str.ofString "b:"++X1]]
def Tc(w:Str):List (List Str):=[[Str.ofString "out",Str.ofString "a",Str.ofString "b:"++X2],[Str.ofString "in",X3,Str.ofString "1"],[Str.ofString "in",Str.ofString "a",Str.ofString "12"],[Str.ofString "in",Str.ofString "a",Str.ofString "23"],[Str.ofString "in",Str.ofString "a",Str.ofString "123"],[Str.ofString "in",Str.ofString "a",Str.ofString ""]]
def UJ:List (List Str):=[[Str.ofString "gate",Str.ofString "a",Str.ofString "or",Str.ofString "b",Str.ofString "c",Str.ofString "d"],[Str.ofString "sure",Str.ofString "a",Str.ofString "or",Str.ofString "b",Str.ofString "c",Str.ofString "d"],[Str.ofString "sure",Str.ofString "a",Str.ofString "vote",Str.ofString "b",Str.ofString "c",Str.ofString "d",Str.ofString "e"],[Str.ofString "gate",Str.ofString "a",Str.ofString "not",Str.ofString "b:01"],[Str.ofString "out",Str.ofString "a",Str.ofString "b:12"]]
end TX
end
section
set_option maxHeartbeats 4000000
namespace K01
open PySem PySem.Spec PyProof.Rows L2 L3
variable {P:Program} {w:World} {K:W.Frag} {mg:Yd} {base:Heap} {cl:Ye}
def top(i:Nat):Stmt:=PySem.Challenge.pw_bearfaults_k01_words_known.main.body.getD i (.Pass ⟨0,0,0,0⟩)
def dU:D:=(.int 8)
def m5:D:=(.tup [(.str "in"),(.str "gate"),(.str "sure"),(.str "out"),(.str "not"),(.str "and"),(.str "or"),(.str "xor"),(.str "vote")])
def lG:D:=(.str "abcdefghijklmnopqrstuvwxyz")
def lq:D:=(.tup [(.str "0"),(.str "1"),(.str "2"),(.str "3"),(.str "4"),(.str "5"),(.str "6"),(.str "7"),(.str "8"),(.str "9")])
def c_:D:=(.int 3)
def jO:D:=(.int 6)
def f_:D:=(.int 60)
def iY:D:=(.int 6)
def iU:D:=(.int 80)
def nT:List (Str × Int):=[("1",1),("2",2),("3",3)]
def iR:List (Str × Int):=[("not",1),("and",2),("or",2),("xor",2),("vote",3)]
structure Tp (P:Program) (w:World) (K:W.Frag) (mg:Yd) (cl:Ye):Prop where
 z_len:mg "len"=none
 z_all:mg "all"=none
 z_range:mg "range"=none
 z_tuple:mg "tuple"=none
 z_isinstance:mg "isinstance"=none
 z_ValueError:mg "ValueError"=none
 z_bool:mg "bool"=none
 z_int:mg "int"=none
 dU:Glob K mg "MOST_LETTERS" dU
 m5:Glob K mg "BARRED" m5
 lG:Glob K mg "LETTERS" lG
 lq:Glob K mg "FIGURES" lq
 c_:Glob K mg "MOST_OUT_WIRES" c_
 jO:Glob K mg "MOST_INS" jO
 f_:Glob K mg "MOST_GATES" f_
 iY:Glob K mg "MOST_OUTS" iY
 iU:Glob K mg "MOST_ROWS" iU
 gd_WIDTHS:mY P w K mg "WIDTHS" nT
 gd_KIND_WIRES:mY P w K mg "KIND_WIRES" iR
 C_Draft:w9 K (cl 0)
 N_Draft_ins:cX K (cl 0) "ins"
 N_Draft_gates:cX K (cl 0) "gates"
 N_Draft_outs:cX K (cl 0) "outs"
 N_Draft_names:cX K (cl 0) "names"
 N_Draft_out_names:cX K (cl 0) "out_names"
 N_Draft_numbers:cX K (cl 0) "numbers"
 M_Draft:mg "Draft"=some (.ref (cl 0))
 M_FaultError:mg "FaultError"=some (.ref (cl 1))
 M_TooLong:mg "TooLong"=some (.ref (cl 2))
 M_NoForm:mg "NoForm"=some (.ref (cl 3))
 M_NoPlace:mg "NoPlace"=some (.ref (cl 4))
 M_Twice:mg "Twice"=some (.ref (cl 5))
 M_Full:mg "Full"=some (.ref (cl 6))
 M_NoWire:mg "NoWire"=some (.ref (cl 7))
 M_Open:mg "Open"=some (.ref (cl 8))
 M_NotPlain:mg "NotPlain"=some (.ref (cl 9))
 M_NotThree:mg "NotThree"=some (.ref (cl 10))
 M_NotSound:mg "NotSound"=some (.ref (cl 11))
 M_NoFit:mg "NoFit"=some (.ref (cl 12))
 M_NoShape:mg "NoShape"=some (.ref (cl 13))
 M_NoneYet:mg "NoneYet"=some (.ref (cl 14))
 X_TooLong:XC K (cl 2)
 X_NoForm:XC K (cl 3)
 X_NoPlace:XC K (cl 4)
 X_Twice:XC K (cl 5)
 X_Full:XC K (cl 6)
 X_NoWire:XC K (cl 7)
 X_Open:XC K (cl 8)
 I_Open_Twice:PySem.W.kitOne K (.ref (cl 8)) (.ref (cl 5))=some false
 I_NoWire_Twice:PySem.W.kitOne K (.ref (cl 7)) (.ref (cl 5))=some false
 I_Full_Twice:PySem.W.kitOne K (.ref (cl 6)) (.ref (cl 5))=some false
 I_Twice_Twice:PySem.W.kitOne K (.ref (cl 5)) (.ref (cl 5))=some true
 I_NoPlace_Twice:PySem.W.kitOne K (.ref (cl 4)) (.ref (cl 5))=some false
 I_NoForm_Twice:PySem.W.kitOne K (.ref (cl 3)) (.ref (cl 5))=some false
 I_TooLong_Twice:PySem.W.kitOne K (.ref (cl 2)) (.ref (cl 5))=some false
 O_Twice:PySem.W.kitOne K (.type "NoneType") (.ref (cl 5))=some false
 I_Open_NoPlace:PySem.W.kitOne K (.ref (cl 8)) (.ref (cl 4))=some false
 I_NoWire_NoPlace:PySem.W.kitOne K (.ref (cl 7)) (.ref (cl 4))=some false
 I_Full_NoPlace:PySem.W.kitOne K (.ref (cl 6)) (.ref (cl 4))=some false
 I_Twice_NoPlace:PySem.W.kitOne K (.ref (cl 5)) (.ref (cl 4))=some false
 I_NoPlace_NoPlace:PySem.W.kitOne K (.ref (cl 4)) (.ref (cl 4))=some true
 I_NoForm_NoPlace:PySem.W.kitOne K (.ref (cl 3)) (.ref (cl 4))=some false
 I_TooLong_NoPlace:PySem.W.kitOne K (.ref (cl 2)) (.ref (cl 4))=some false
 O_NoPlace:PySem.W.kitOne K (.type "NoneType") (.ref (cl 4))=some false
 I_Open_NoForm:PySem.W.kitOne K (.ref (cl 8)) (.ref (cl 3))=some false
 I_NoWire_NoForm:PySem.W.kitOne K (.ref (cl 7)) (.ref (cl 3))=some false
 I_Full_NoForm:PySem.W.kitOne K (.ref (cl 6)) (.ref (cl 3))=some false
 I_Twice_NoForm:PySem.W.kitOne K (.ref (cl 5)) (.ref (cl 3))=some false
 I_NoPlace_NoForm:PySem.W.kitOne K (.ref (cl 4)) (.ref (cl 3))=some false
 I_NoForm_NoForm:PySem.W.kitOne K (.ref (cl 3)) (.ref (cl 3))=some true
 I_TooLong_NoForm:PySem.W.kitOne K (.ref (cl 2)) (.ref (cl 3))=some false
 O_NoForm:PySem.W.kitOne K (.type "NoneType") (.ref (cl 3))=some false
 I_Open_TooLong:PySem.W.kitOne K (.ref (cl 8)) (.ref (cl 2))=some false
 I_NoWire_TooLong:PySem.W.kitOne K (.ref (cl 7)) (.ref (cl 2))=some false
 I_Full_TooLong:PySem.W.kitOne K (.ref (cl 6)) (.ref (cl 2))=some false
 I_Twice_TooLong:PySem.W.kitOne K (.ref (cl 5)) (.ref (cl 2))=some false
 I_NoPlace_TooLong:PySem.W.kitOne K (.ref (cl 4)) (.ref (cl 2))=some false
 I_NoForm_TooLong:PySem.W.kitOne K (.ref (cl 3)) (.ref (cl 2))=some false
 I_TooLong_TooLong:PySem.W.kitOne K (.ref (cl 2)) (.ref (cl 2))=some true
 O_TooLong:PySem.W.kitOne K (.type "NoneType") (.ref (cl 2))=some false
 I_Open_NotPlain:PySem.W.kitOne K (.ref (cl 8)) (.ref (cl 9))=some false
 I_NoWire_NotPlain:PySem.W.kitOne K (.ref (cl 7)) (.ref (cl 9))=some false
 I_Full_NotPlain:PySem.W.kitOne K (.ref (cl 6)) (.ref (cl 9))=some false
 I_Twice_NotPlain:PySem.W.kitOne K (.ref (cl 5)) (.ref (cl 9))=some false
 I_NoPlace_NotPlain:PySem.W.kitOne K (.ref (cl 4)) (.ref (cl 9))=some false
 I_NoForm_NotPlain:PySem.W.kitOne K (.ref (cl 3)) (.ref (cl 9))=some false
 I_TooLong_NotPlain:PySem.W.kitOne K (.ref (cl 2)) (.ref (cl 9))=some false
 O_NotPlain:PySem.W.kitOne K (.type "NoneType") (.ref (cl 9))=some false
 I_Open_Open:PySem.W.kitOne K (.ref (cl 8)) (.ref (cl 8))=some true
 I_NoWire_Open:PySem.W.kitOne K (.ref (cl 7)) (.ref (cl 8))=some false
 I_Full_Open:PySem.W.kitOne K (.ref (cl 6)) (.ref (cl 8))=some false
 I_Twice_Open:PySem.W.kitOne K (.ref (cl 5)) (.ref (cl 8))=some false
 I_NoPlace_Open:PySem.W.kitOne K (.ref (cl 4)) (.ref (cl 8))=some false
 I_NoForm_Open:PySem.W.kitOne K (.ref (cl 3)) (.ref (cl 8))=some false
 I_TooLong_Open:PySem.W.kitOne K (.ref (cl 2)) (.ref (cl 8))=some false
 O_Open:PySem.W.kitOne K (.type "NoneType") (.ref (cl 8))=some false
 I_Open_NoWire:PySem.W.kitOne K (.ref (cl 8)) (.ref (cl 7))=some false
 I_NoWire_NoWire:PySem.W.kitOne K (.ref (cl 7)) (.ref (cl 7))=some true
 I_Full_NoWire:PySem.W.kitOne K (.ref (cl 6)) (.ref (cl 7))=some false
 I_Twice_NoWire:PySem.W.kitOne K (.ref (cl 5)) (.ref (cl 7))=some false
 I_NoPlace_NoWire:PySem.W.kitOne K (.ref (cl 4)) (.ref (cl 7))=some false
 I_NoForm_NoWire:PySem.W.kitOne K (.ref (cl 3)) (.ref (cl 7))=some false
 I_TooLong_NoWire:PySem.W.kitOne K (.ref (cl 2)) (.ref (cl 7))=some false
 O_NoWire:PySem.W.kitOne K (.type "NoneType") (.ref (cl 7))=some false
 I_Open_Full:PySem.W.kitOne K (.ref (cl 8)) (.ref (cl 6))=some false
 I_NoWire_Full:PySem.W.kitOne K (.ref (cl 7)) (.ref (cl 6))=some false
 I_Full_Full:PySem.W.kitOne K (.ref (cl 6)) (.ref (cl 6))=some true
 I_Twice_Full:PySem.W.kitOne K (.ref (cl 5)) (.ref (cl 6))=some false
 I_NoPlace_Full:PySem.W.kitOne K (.ref (cl 4)) (.ref (cl 6))=some false
 I_NoForm_Full:PySem.W.kitOne K (.ref (cl 3)) (.ref (cl 6))=some false
 I_TooLong_Full:PySem.W.kitOne K (.ref (cl 2)) (.ref (cl 6))=some false
 O_Full:PySem.W.kitOne K (.type "NoneType") (.ref (cl 6))=some false
 I_Open_NoShape:PySem.W.kitOne K (.ref (cl 8)) (.ref (cl 13))=some false
 I_NoWire_NoShape:PySem.W.kitOne K (.ref (cl 7)) (.ref (cl 13))=some false
 I_Full_NoShape:PySem.W.kitOne K (.ref (cl 6)) (.ref (cl 13))=some false
 I_Twice_NoShape:PySem.W.kitOne K (.ref (cl 5)) (.ref (cl 13))=some false
 I_NoPlace_NoShape:PySem.W.kitOne K (.ref (cl 4)) (.ref (cl 13))=some false
 I_NoForm_NoShape:PySem.W.kitOne K (.ref (cl 3)) (.ref (cl 13))=some false
 I_TooLong_NoShape:PySem.W.kitOne K (.ref (cl 2)) (.ref (cl 13))=some false
 O_NoShape:PySem.W.kitOne K (.type "NoneType") (.ref (cl 13))=some false
 I_Open_NoFit:PySem.W.kitOne K (.ref (cl 8)) (.ref (cl 12))=some false
 I_NoWire_NoFit:PySem.W.kitOne K (.ref (cl 7)) (.ref (cl 12))=some false
 I_Full_NoFit:PySem.W.kitOne K (.ref (cl 6)) (.ref (cl 12))=some false
 I_Twice_NoFit:PySem.W.kitOne K (.ref (cl 5)) (.ref (cl 12))=some false
 I_NoPlace_NoFit:PySem.W.kitOne K (.ref (cl 4)) (.ref (cl 12))=some false
 I_NoForm_NoFit:PySem.W.kitOne K (.ref (cl 3)) (.ref (cl 12))=some false
 I_TooLong_NoFit:PySem.W.kitOne K (.ref (cl 2)) (.ref (cl 12))=some false
 O_NoFit:PySem.W.kitOne K (.type "NoneType") (.ref (cl 12))=some false
 I_Open_NotSound:PySem.W.kitOne K (.ref (cl 8)) (.ref (cl 11))=some false
 I_NoWire_NotSound:PySem.W.kitOne K (.ref (cl 7)) (.ref (cl 11))=some false
 I_Full_NotSound:PySem.W.kitOne K (.ref (cl 6)) (.ref (cl 11))=some false
 I_Twice_NotSound:PySem.W.kitOne K (.ref (cl 5)) (.ref (cl 11))=some false
 I_NoPlace_NotSound:PySem.W.kitOne K (.ref (cl 4)) (.ref (cl 11))=some false
 I_NoForm_NotSound:PySem.W.kitOne K (.ref (cl 3)) (.ref (cl 11))=some false
 I_TooLong_NotSound:PySem.W.kitOne K (.ref (cl 2)) (.ref (cl 11))=some false
 O_NotSound:PySem.W.kitOne K (.type "NoneType") (.ref (cl 11))=some false
 I_Open_NotThree:PySem.W.kitOne K (.ref (cl 8)) (.ref (cl 10))=some false
 I_NoWire_NotThree:PySem.W.kitOne K (.ref (cl 7)) (.ref (cl 10))=some false
 I_Full_NotThree:PySem.W.kitOne K (.ref (cl 6)) (.ref (cl 10))=some false
 I_Twice_NotThree:PySem.W.kitOne K (.ref (cl 5)) (.ref (cl 10))=some false
 I_NoPlace_NotThree:PySem.W.kitOne K (.ref (cl 4)) (.ref (cl 10))=some false
 I_NoForm_NotThree:PySem.W.kitOne K (.ref (cl 3)) (.ref (cl 10))=some false
 I_TooLong_NotThree:PySem.W.kitOne K (.ref (cl 2)) (.ref (cl 10))=some false
 O_NotThree:PySem.W.kitOne K (.type "NoneType") (.ref (cl 10))=some false
 I_Open_ValueError:PySem.W.kitOne K (.ref (cl 8)) (.type "ValueError")=some true
 I_NoWire_ValueError:PySem.W.kitOne K (.ref (cl 7)) (.type "ValueError")=some true
 I_Full_ValueError:PySem.W.kitOne K (.ref (cl 6)) (.type "ValueError")=some true
 I_Twice_ValueError:PySem.W.kitOne K (.ref (cl 5)) (.type "ValueError")=some true
 I_NoPlace_ValueError:PySem.W.kitOne K (.ref (cl 4)) (.type "ValueError")=some true
 I_NoForm_ValueError:PySem.W.kitOne K (.ref (cl 3)) (.type "ValueError")=some true
 I_TooLong_ValueError:PySem.W.kitOne K (.ref (cl 2)) (.type "ValueError")=some true
 O_ValueError:PySem.W.kitOne K (.type "NoneType") (.type "ValueError")=some false
 I_Open_NoneYet:PySem.W.kitOne K (.ref (cl 8)) (.ref (cl 14))=some false
 I_NoWire_NoneYet:PySem.W.kitOne K (.ref (cl 7)) (.ref (cl 14))=some false
 I_Full_NoneYet:PySem.W.kitOne K (.ref (cl 6)) (.ref (cl 14))=some false
 I_Twice_NoneYet:PySem.W.kitOne K (.ref (cl 5)) (.ref (cl 14))=some false
 I_NoPlace_NoneYet:PySem.W.kitOne K (.ref (cl 4)) (.ref (cl 14))=some false
 I_NoForm_NoneYet:PySem.W.kitOne K (.ref (cl 3)) (.ref (cl 14))=some false
 I_TooLong_NoneYet:PySem.W.kitOne K (.ref (cl 2)) (.ref (cl 14))=some false
 O_NoneYet:PySem.W.kitOne K (.type "NoneType") (.ref (cl 14))=some false
 E_Open_FaultError:PySem.W.exmOne K (.ref (cl 8)) (.ref (cl 1))=some true
 E_NoWire_FaultError:PySem.W.exmOne K (.ref (cl 7)) (.ref (cl 1))=some true
 E_Full_FaultError:PySem.W.exmOne K (.ref (cl 6)) (.ref (cl 1))=some true
 E_Twice_FaultError:PySem.W.exmOne K (.ref (cl 5)) (.ref (cl 1))=some true
 E_NoPlace_FaultError:PySem.W.exmOne K (.ref (cl 4)) (.ref (cl 1))=some true
 E_NoForm_FaultError:PySem.W.exmOne K (.ref (cl 3)) (.ref (cl 1))=some true
 E_TooLong_FaultError:PySem.W.exmOne K (.ref (cl 2)) (.ref (cl 1))=some true
abbrev lr:Stmt:=top 27
noncomputable abbrev qv:List Str:=["word"]
noncomputable def x6:{b:List Stmt // aQ lr=b}:=⟨_,by conv=>lhs;whnf⟩
noncomputable def oA:{b:Scope // aD lr=b}:=⟨_,by conv=>lhs;whnf⟩
theorem Ar:bb qv ["word"] oA.1:=⟨rfl,rfl,rfl,by decide+kernel,rfl,by decide+kernel,by decide+kernel⟩
def tU:FS:=(cn (qQ (AE (b2 Bg (aM eT (ai (ag 0) aJ)) (eC (.int 1))) (AE (b2 MX (aM eT (ai (ag 0) aJ)) (eC dU)) (b2 F0 (ag 0) (eC m5)))) (ja (eC (.bl false))) kJ) (ja (aM B4 (ai (eNew (kB (zP (ag 0)) (lY 0) wA (e2 F0 (ag 0) (eC lG)) ["sign"] [])) aJ))))
def cI:List D->R D:=wa qv tU
theorem Am(T:Tp P w K mg cl)(h:Def K mg "is_name" lr):Callee P w K mg base 1 "is_name" 1 cI:=by
 obtain⟨f,fd,F,hm⟩:=h;exact⟨f,fd,_,cK (k:=0) x6.2 oA.2 F Ar (fun dJ A outer s H E hr=>(aF (eW (l5 (ky (b6 AO (bF jC rfl T.z_len PySem.boot_len (aa (ae 0) ak)) ah (bR _)) (ky (b6 Lh (bF jC rfl T.z_len PySem.boot_len (aa (ae 0) ak)) (gb T.dU rfl) (bR _)) (lL (b6 Fi (ae 0) (gb T.m5 rfl) (by with_unfolding_all rfl)))))) (bj (bU jc)) dn) (bj (bU (bF (GZ rfl) rfl T.z_all PyProof.Rows.boot_all (aa (bK (nq rfl (di.of (own:=["sign"]) (kp:=[]) (kn:=[]) (sc:=oA.1) (N:=qv) rfl rfl (by decide+kernel)) (wx (ae 0)) (fun _ _ _=>(jF (show List.Nodup [(Str.ofString "sign")] from by decide+kernel) rfl (Or.inl rfl))) (fun _ _ _=>lI) (fun _ _ _=>(eX Fi (ae 0) (gb T.lG rfl) (by with_unfolding_all rfl))))) ak)))))),hm,F.kp,F.binds fun _ _ _ _ _ _ us hl=>match us,hl with | [_],_=>rfl⟩
abbrev jU:Stmt:=top 28
noncomputable abbrev oR:List Str:=["name","width"]
noncomputable def wm:{b:List Stmt // aQ jU=b}:=⟨_,by conv=>lhs;whnf⟩
noncomputable def mR:{b:Scope // aD jU=b}:=⟨_,by conv=>lhs;whnf⟩
theorem yr:bb oR ["name","width"] mR.1:=⟨rfl,rfl,rfl,by decide+kernel,rfl,by decide+kernel,by decide+kernel⟩
def rD:FS:=(cn (qQ (b2 pP (ag 1) (eC (.int 1))) (ja (eNew (e8 (ai (ag 0) aJ)))) kJ) (ja (eNew (kB (l_ (ag 1)) (lY 0) wA (cN (bM (lM (ag 1)) (bM (eC (.str ":")) (bM (lM (ag 0)) oz)))) ["figure"] [0]))))
def jR:List D->R D:=wa oR rD
theorem xt(T:Tp P w K mg cl)(h:Def K mg "in_wires" jU):Callee P w K mg base 1 "in_wires" 2 jR:=by
 obtain⟨f,fd,F,hm⟩:=h;exact⟨f,fd,_,cK (k:=0) wm.2 mR.2 F yr (fun dJ A outer s H E hr=>(aF (eW (b6 (qV hr.units) (ae 1) ah (bR _)) (bj (bU (bK (bV (aa (ae 0) ak))))) dn) (bj (bU (bK (nq rfl (di.of (own:=["figure"]) (kp:=[0]) (kn:=["name"]) (sc:=mR.1) (N:=oR) rfl rfl (by decide+kernel)) (mV (ae 1) rfl T.z_range) (fun _ _ _=>(jF (show List.Nodup [(Str.ofString "figure"),"name"] from by decide+kernel) rfl (Or.inl rfl))) (fun _ _ _=>lI) (fun _ _ _=>(cE (aP (fP (ae 1)) (aP aj (aP (fP (ae 0)) gh))))))))))),hm,F.kp,F.binds fun _ _ _ _ _ _ us hl=>match us,hl with | [_,_],_=>rfl⟩
abbrev dW:Stmt:=top 29
noncomputable abbrev jL:List Str:=["word","parts"]
noncomputable def qX:{b:List Stmt // aQ dW=b}:=⟨_,by conv=>lhs;whnf⟩
noncomputable def mB:{b:Scope // aD dW=b}:=⟨_,by conv=>lhs;whnf⟩
theorem mP:bb jL ["word"] mB.1:=⟨rfl,rfl,rfl,by decide+kernel,rfl,by decide+kernel,by decide+kernel⟩
def nC:FS:=(cn (cD 1 (u_ "str" wO (ag 0) (ai (eC (.str ":")) aJ))) (ja (qw (aM cI (ai (e2 c9 (ag 1) (eC (.int 0))) aJ)) (KZ (e2 pP (e2 c9 (ag 1) (eC (.int 1))) (eC (.str ""))) (e2 F0 (e2 c9 (ag 1) (eC (.int 2))) (eC lq))))))
def d5:List D->R D:=wa jL nC
theorem rO(T:Tp P w K mg cl)(h:Def K mg "is_wire_form" dW)(cA:Callee P w K mg base 1 "is_name" 1 cI):Callee P w K mg base 2 "is_wire_form" 1 d5:=by
 obtain⟨f,fd,F,hm⟩:=h;exact⟨f,fd,_,cK (k:=1) qX.2 mB.2 F mP (fun dJ A outer s H E hr=>(aF (aY mP.nd rfl (Or.inl rfl) (tL (ae 0) (aa aj ak))) (bj (bU (jE (aT cA hr (by decide) rfl (aa (aS (ae 1) ah (fun _ _=>rfl)) ak) (aE ba)) (l6 (Jr (eX (qV hr.units) (aS (ae 1) ah (fun _ _=>rfl)) aj (bR _)) (l6 (eX Fi (aS (ae 1) ah (fun _ _=>rfl)) (gb T.lq rfl) (by with_unfolding_all rfl)))))))))),hm,F.kp,F.binds fun _ _ _ _ _ _ us hl=>match us,hl with | [_],_=>rfl⟩
abbrev c7:Stmt:=top 30
noncomputable abbrev g7:List Str:=["words"]
noncomputable def pQ:{b:List Stmt // aQ c7=b}:=⟨_,by conv=>lhs;whnf⟩
noncomputable def gp:{b:Scope // aD c7=b}:=⟨_,by conv=>lhs;whnf⟩
theorem qe:bb g7 ["words"] gp.1:=⟨rfl,rfl,rfl,by decide+kernel,rfl,by decide+kernel,by decide+kernel⟩
def lp:FS:=(ja (aM B4 (ai (eNew (kB (oa (ag 0)) (lY 0) wA (aM d5 (ai (ag 0) aJ)) ["word"] [])) aJ)))
def bZ:List D->R D:=wa g7 lp
theorem qa(T:Tp P w K mg cl)(h:Def K mg "are_wire_forms" c7)(kj:Callee P w K mg base 2 "is_wire_form" 1 d5):Callee P w K mg base 3 "are_wire_forms" 1 bZ:=by
 obtain⟨f,fd,F,hm⟩:=h;exact⟨f,fd,_,cK (k:=2) pQ.2 gp.2 F qe (fun dJ A outer s H E hr=>(bj (bU (bF (GZ rfl) rfl T.z_all PyProof.Rows.boot_all (aa (bK (nq rfl (di.of (own:=["word"]) (kp:=[]) (kn:=[]) (sc:=gp.1) (N:=g7) rfl rfl (by decide+kernel)) (lu (ae 0)) (fun _ _ _=>(jF (show List.Nodup [(Str.ofString "word")] from by decide+kernel) rfl (Or.inl rfl))) (fun _ _ _=>lI) (fun _ _ _=>(aT kj hr (by decide) rfl (aa (ae 0) ak) (aE ba))))) ak))))),hm,F.kp,F.binds fun _ _ _ _ _ _ us hl=>match us,hl with | [_],_=>rfl⟩
abbrev gd:Stmt:=top 31
noncomputable abbrev ma:List Str:=["words"]
noncomputable def tE:{b:List Stmt // aQ gd=b}:=⟨_,by conv=>lhs;whnf⟩
noncomputable def oh:{b:Scope // aD gd=b}:=⟨_,by conv=>lhs;whnf⟩
theorem uR:bb ma ["words"] oh.1:=⟨rfl,rfl,rfl,by decide+kernel,rfl,by decide+kernel,by decide+kernel⟩
def pI:FS:=(ja (qw (e2 pP (aM eT (ai (ag 0) aJ)) (eC (.int 3))) (qw (e2 pP (e2 c9 (ag 0) (eC (.int 0))) (eC (.str "in"))) (qw (aM cI (ai (e2 c9 (ag 0) (eC (.int 1))) aJ)) (Im nT (e2 c9 (ag 0) (eC (.int 2))))))))
def gq:List D->R D:=wa ma pI
theorem uQ(T:Tp P w K mg cl)(h:Def K mg "is_in_form" gd)(cA:Callee P w K mg base 1 "is_name" 1 cI):Callee P w K mg base 2 "is_in_form" 1 gq:=by
 obtain⟨f,fd,F,hm⟩:=h;exact⟨f,fd,_,cK (k:=1) tE.2 oh.2 F uR (fun dJ A outer s H E hr=>(bj (bU (jE (eX (qV hr.units) (bF jC rfl T.z_len PySem.boot_len (aa (ae 0) ak)) ah (bR _)) (jE (eX (qV hr.units) (aS (ae 0) ah (fun _ _=>rfl)) aj (bR _)) (jE (aT cA hr (by decide) rfl (aa (aS (ae 0) ah (fun _ _=>rfl)) ak) (aE ba)) (l6 (Gh (mF hr) (aS (ae 0) ah (fun _ _=>rfl)) T.gd_WIDTHS rfl)))))))),hm,F.kp,F.binds fun _ _ _ _ _ _ us hl=>match us,hl with | [_],_=>rfl⟩
abbrev dN:Stmt:=top 32
noncomputable abbrev fU:List Str:=["words","wires"]
noncomputable def qT:{b:List Stmt // aQ dN=b}:=⟨_,by conv=>lhs;whnf⟩
noncomputable def mz:{b:Scope // aD dN=b}:=⟨_,by conv=>lhs;whnf⟩
theorem nA:bb fU ["words"] mz.1:=⟨rfl,rfl,rfl,by decide+kernel,rfl,by decide+kernel,by decide+kernel⟩
def nB:FS:=(cn (qQ (AE (b2 Bg (aM eT (ai (ag 0) aJ)) (eC (.int 4))) (b2 jb (e2 c9 (ag 0) (eC (.int 0))) (qO (ai (eC (.str "gate")) (ai (eC (.str "sure")) aJ))))) (ja (eC (.bl false))) kJ) (cn (qQ (AE (ya (tq (aM cI (ai (e2 c9 (ag 0) (eC (.int 1))) aJ)))) (Ih iR (e2 c9 (ag 0) (eC (.int 2))))) (ja (eC (.bl false))) kJ) (cn (cD 1 (q8 (ag 0) (dF (eC (.int 3))) eB)) (ja (qw (e2 pP (aM eT (ai (ag 1) aJ)) (wH iR (e2 c9 (ag 0) (eC (.int 2))))) (aM bZ (ai (ag 1) aJ)))))))
def dZ:List D->R D:=wa fU nB
theorem rX(T:Tp P w K mg cl)(h:Def K mg "is_gate_form" dN)(cA:Callee P w K mg base 1 "is_name" 1 cI)(cB:Callee P w K mg base 3 "are_wire_forms" 1 bZ):Callee P w K mg base 4 "is_gate_form" 1 dZ:=by
 obtain⟨f,fd,F,hm⟩:=h;exact⟨f,fd,_,cK (k:=3) qT.2 mz.2 F nA (fun dJ A outer s H E hr=>(aF (eW (l5 (ky (b6 AO (bF jC rfl T.z_len PySem.boot_len (aa (ae 0) ak)) ah (bR _)) (lL (b6 rk (aS (ae 0) ah (fun _ _=>rfl)) (kD (aa aj (aa aj ak))) (by with_unfolding_all rfl))))) (bj (bU jc)) dn) (aF (eW (l5 (ky (uN (nQ (aT cA hr (by decide) rfl (aa (aS (ae 0) ah (fun _ _=>rfl)) ak) (aE ba)))) (lL (F4 (mF hr) (aS (ae 0) ah (fun _ _=>rfl)) T.gd_KIND_WIRES rfl)))) (bj (bU jc)) dn) (aF (aY nA.nd rfl (Or.inl rfl) (gg (ae 0) (cS ah) cL)) (bj (bU (jE (eX (qV hr.units) (bF jC rfl T.z_len PySem.boot_len (aa (ae 1) ak)) (vT (aS (ae 0) ah (fun _ _=>rfl)) T.gd_KIND_WIRES rfl (fun _ _=>rfl)) (bR _)) (l6 (aT cB hr (by decide) rfl (aa (ae 1) ak) (aE ba)))))))))),hm,F.kp,F.binds fun _ _ _ _ _ _ us hl=>match us,hl with | [_],_=>rfl⟩
abbrev eQ:Stmt:=top 33
noncomputable abbrev kM:List Str:=["words","wires"]
noncomputable def rz:{b:List Stmt // aQ eQ=b}:=⟨_,by conv=>lhs;whnf⟩
noncomputable def mU:{b:Scope // aD eQ=b}:=⟨_,by conv=>lhs;whnf⟩
theorem oj:bb kM ["words"] mU.1:=⟨rfl,rfl,rfl,by decide+kernel,rfl,by decide+kernel,by decide+kernel⟩
def og:FS:=(cn (qQ (AE (b2 Bg (aM eT (ai (ag 0) aJ)) (eC (.int 3))) (AE (b2 zu (e2 c9 (ag 0) (eC (.int 0))) (eC (.str "out"))) (ya (tq (aM cI (ai (e2 c9 (ag 0) (eC (.int 1))) aJ)))))) (ja (eC (.bl false))) kJ) (cn (cD 1 (q8 (ag 0) (dF (eC (.int 2))) eB)) (ja (qw (e2 Hb (aM eT (ai (ag 1) aJ)) (eC c_)) (aM bZ (ai (ag 1) aJ))))))
def eR:List D->R D:=wa kM og
theorem tI(T:Tp P w K mg cl)(h:Def K mg "is_out_form" eQ)(cA:Callee P w K mg base 1 "is_name" 1 cI)(cB:Callee P w K mg base 3 "are_wire_forms" 1 bZ):Callee P w K mg base 4 "is_out_form" 1 eR:=by
 obtain⟨f,fd,F,hm⟩:=h;exact⟨f,fd,_,cK (k:=3) rz.2 mU.2 F oj (fun dJ A outer s H E hr=>(aF (eW (l5 (ky (b6 AO (bF jC rfl T.z_len PySem.boot_len (aa (ae 0) ak)) ah (bR _)) (ky (b6 (C_ hr.units) (aS (ae 0) ah (fun _ _=>rfl)) aj (bR _)) (lL (uN (nQ (aT cA hr (by decide) rfl (aa (aS (ae 0) ah (fun _ _=>rfl)) ak) (aE ba)))))))) (bj (bU jc)) dn) (aF (aY oj.nd rfl (Or.inl rfl) (gg (ae 0) (cS ah) cL)) (bj (bU (jE (eX Hx (bF jC rfl T.z_len PySem.boot_len (aa (ae 1) ak)) (gb T.c_ rfl) (bR _)) (l6 (aT cB hr (by decide) rfl (aa (ae 1) ak) (aE ba))))))))),hm,F.kp,F.binds fun _ _ _ _ _ _ us hl=>match us,hl with | [_],_=>rfl⟩
abbrev bY:Stmt:=inClass (top 34) 1
noncomputable abbrev f7:List Str:=["self","name","width","wire"]
noncomputable def qW:{b:List Stmt // aQ bY=b}:=⟨_,by conv=>lhs;whnf⟩
noncomputable def mE:{b:Scope // aD bY=b}:=⟨_,by conv=>lhs;whnf⟩
theorem nj:bb f7 ["self","name","width"] mE.1:=⟨rfl,rfl,rfl,by decide+kernel,rfl,by decide+kernel,by decide+kernel⟩
def lJ:FZ:=(oq (eE 0 "numbers" (bE 0)) (xP (ag 3)) (xo (eE 0 "numbers" (bE 0))))
def jP:FZ:=(cz (tj (wg (Mj (mT (eE 0 "gates" (bE 0))) (mT (eE 0 "outs" (bE 0))))) (fk 4 (eU (aR (xP (cN (bM (eC (.str "in ")) (bM (lM (ag 1)) (bM (eC (.str " stands behind a gate or an out")) oz))))) dh))) mK) (cz (tj (wg (yp false (xP (ag 1)) (eE 0 "names" (bE 0)))) (fk 5 (eU (aR (xP (cN (bM (eC (.str "there is an in ")) (bM (lM (ag 1)) (bM (eC (.str " ahead")) oz))))) dh))) mK) (cz (tj (wg (Jm HJ (xo (eE 0 "ins" (bE 0))) (xP (eC jO)))) (fk 6 (eU (aR (xP (cN (bM (eC (.str "in ")) (bM (lM (ag 1)) (bM (eC (.str " is one too many")) oz))))) dh))) mK) (Bh (cz (oq (eE 0 "names" (bE 0)) (xP (ag 1)) (xP (eC (.bl true)))) (cz (vL (iP (oa (aM jR (ai (ag 1) (ai (ag 2) aJ))))) (GX 3) lJ) (mD (eE 0 "ins" (bE 0)) (xP (qO (ai (ag 1) (ai (ag 2) aJ)))))))))))
def cJ:List V3->aG->R3 V3:=tm f7 jP
def A9:List V3->aG->R3 V3:=xh f7 jP
theorem dX(T:Tp P w K mg cl)(h:qS K (cl 0) "add_in" "Draft.add_in" bY)(o7:Callee P w K mg base 1 "in_wires" 2 jR):kA P w K mg base cl 2 0 "add_in" 2 cJ:=by
 obtain⟨f,fd,F,hm⟩:=h;exact⟨f,fd,_,T.C_Draft,hm,lK (k:=1) qW.2 mE.2 F nj (fun dJ A outer s H E hr=>(bQ (fX (Jj.pb (CS (nc (b7 T.C_Draft T.N_Draft_gates (aL 0))) (zI (nc (b7 T.C_Draft T.N_Draft_outs (aL 0)))))) (bJ (cG cH rfl T.X_NoPlace rfl T.M_NoPlace (dj (aB (av (cE (aP aj (aP (fP (ae 1)) (aP aj gh))))) br)))) dP) (bQ (fX (uy (mF hr) (av (ae 1)) (b7 T.C_Draft T.N_Draft_names (aL 0))) (bJ (cG cH rfl T.X_Twice rfl T.M_Twice (dj (aB (av (cE (aP aj (aP (fP (ae 1)) (aP aj gh))))) br)))) dP) (bQ (fX (o_ Gk (pj (b7 T.C_Draft T.N_Draft_ins (aL 0)) rfl T.z_len) (av (gb T.jO rfl)) (bR _)) (bJ (cG cH rfl T.X_Full rfl T.M_Full (dj (aB (av (cE (aP aj (aP (fP (ae 1)) (aP aj gh))))) br)))) dP) (px (bo (mW (mF hr) (av jc) (b7 T.C_Draft T.N_Draft_names (aL 0)) (av (ae 1))) (bo (Ck ye rfl (nv (lu (aT o7 hr (by decide) rfl (aa (ae 1) (aa (ae 2) ak)) (aE (aE ba))))) (nE nj.nd rfl (Or.inl rfl)) (cZ (mW (mF hr) (pj (b7 T.C_Draft T.N_Draft_numbers (aL 0)) rfl T.z_len) (b7 T.C_Draft T.N_Draft_numbers (aL 0)) (av (ae 3))))) (cZ (ER (b7 T.C_Draft T.N_Draft_ins (aL 0)) (av (kD (aa (ae 1) (aa (ae 2) ak))))))))))))),F.binds fun _ _ _ _ _ _ us hl=>match us,hl with | [_,_,_],_=>rfl⟩
abbrev aU:Stmt:=inClass (top 34) 4
noncomputable abbrev b9:List Str:=["self","wires","wire"]
noncomputable def mL:{b:List Stmt // aQ aU=b}:=⟨_,by conv=>lhs;whnf⟩
noncomputable def dy:{b:Scope // aD aU=b}:=⟨_,by conv=>lhs;whnf⟩
theorem iZ:bb b9 ["self","wires"] dy.1:=⟨rfl,rfl,rfl,by decide+kernel,rfl,by decide+kernel,by decide+kernel⟩
def fY:FZ:=(tj (wg (yp true (xP (ag 2)) (eE 0 "numbers" (bE 0)))) (fk 7 (eU (aR (xP (cN (bM (eC (.str "there is no wire ")) (bM (lM (ag 2)) (bM (eC (.str " ahead")) oz))))) dh))) mK)
def dQ:FZ:=(cz (vL (M9 (iP (oa (ag 1)))) (GX 2) fY) (Bh (uH (vn xi (aR (wy (iP (oa (ag 1))) (GX 0) Hq (CK (eE 0 "numbers" (bE 1)) (xP (ag 0))) ["wire"] [0]) dh)))))
def aX:List V3->aG->R3 V3:=tm b9 dQ
def vA:List V3->aG->R3 V3:=xh b9 dQ
theorem b8(T:Tp P w K mg cl)(h:qS K (cl 0) "wire_numbers" "Draft.wire_numbers" aU):kA P w K mg base cl 1 0 "wire_numbers" 1 aX:=by
 obtain⟨f,fd,F,hm⟩:=h;exact⟨f,fd,_,T.C_Draft,hm,lK (k:=0) mL.2 dy.2 F iZ (fun dJ A outer s H E hr=>(bQ (y0 ye rfl (nv (lu (ae 1))) (nE iZ.nd rfl (Or.inl rfl)) (bJ (fX (Ez (mF hr) (av (ae 2)) (b7 T.C_Draft T.N_Draft_numbers (aL 0))) (bJ (cG cH rfl T.X_NoWire rfl T.M_NoWire (dj (aB (av (cE (aP aj (aP (fP (ae 2)) (aP aj gh))))) br)))) dP))) (px (cZ (oI (An Fo rfl T.z_tuple PyProof.Rows.boot_tuple (aB (FH rfl (di.of (own:=["wire"]) (kp:=[0]) (kn:=["self"]) (sc:=dy.1) (N:=b9) rfl rfl (by decide+kernel)) (nv (lu (ae 1))) (fun _ _ _=>(nE (show List.Nodup [(Str.ofString "wire"),"self"] from by decide+kernel) rfl (Or.inl rfl))) (fun _ _ _=>AD) (fun _ _ _=>(FL (mF hr) (b7 T.C_Draft T.N_Draft_numbers (aL 1)) (av (ae 0)) (fun _ _=>rfl)))) br))))))),F.binds fun _ _ _ _ _ _ us hl=>match us,hl with | [_,_],_=>rfl⟩
abbrev bt:Stmt:=inClass (top 34) 2
noncomputable abbrev et:List Str:=["self","name","kind","wires","sure"]
noncomputable def pk:{b:List Stmt // aQ bt=b}:=⟨_,by conv=>lhs;whnf⟩
noncomputable def kG:{b:Scope // aD bt=b}:=⟨_,by conv=>lhs;whnf⟩
theorem qg:bb et ["self","name","kind","wires","sure"] kG.1:=⟨rfl,rfl,rfl,by decide+kernel,rfl,by decide+kernel,by decide+kernel⟩
def hU:FZ:=(cz (tj (wg (mT (eE 0 "outs" (bE 0)))) (fk 4 (eU (aR (xP (cN (bM (eC (.str "gate ")) (bM (lM (ag 1)) (bM (eC (.str " stands behind an out")) oz))))) dh))) mK) (cz (tj (wg (yp false (xP (ag 1)) (eE 0 "names" (bE 0)))) (fk 5 (eU (aR (xP (cN (bM (eC (.str "there is an in or a gate ")) (bM (lM (ag 1)) (bM (eC (.str " ahead")) oz))))) dh))) mK) (cz (tj (wg (Jm HJ (xo (eE 0 "gates" (bE 0))) (xP (eC f_)))) (fk 6 (eU (aR (xP (cN (bM (eC (.str "gate ")) (bM (lM (ag 1)) (bM (eC (.str " is one too many")) oz))))) dh))) mK) (cz (mD (tP (eE 0 "gates" (bE 0))) (xp (aR (tP (xP (ag 2))) (aR (pA 0 "wire_numbers" aX (tP (bE 0)) (eU (aR (xP (ag 3)) dh))) (aR (tP (xP (ag 4))) dh))))) (Bh (cz (oq (eE 0 "names" (bE 0)) (xP (ag 1)) (xP (eC (.bl true)))) (oq (eE 0 "numbers" (bE 0)) (xP (ag 1)) (xo (eE 0 "numbers" (bE 0))))))))))
def cf:List V3->aG->R3 V3:=tm et hU
def zx:List V3->aG->R3 V3:=xh et hU
theorem c6(T:Tp P w K mg cl)(h:qS K (cl 0) "add_gate" "Draft.add_gate" bt)(bG:kA P w K mg base cl 1 0 "wire_numbers" 1 aX):kA P w K mg base cl 2 0 "add_gate" 4 cf:=by
 obtain⟨f,fd,F,hm⟩:=h;exact⟨f,fd,_,T.C_Draft,hm,lK (k:=1) pk.2 kG.2 F qg (fun dJ A outer s H E hr=>(bQ (fX (nc (b7 T.C_Draft T.N_Draft_outs (aL 0))) (bJ (cG cH rfl T.X_NoPlace rfl T.M_NoPlace (dj (aB (av (cE (aP aj (aP (fP (ae 1)) (aP aj gh))))) br)))) dP) (bQ (fX (uy (mF hr) (av (ae 1)) (b7 T.C_Draft T.N_Draft_names (aL 0))) (bJ (cG cH rfl T.X_Twice rfl T.M_Twice (dj (aB (av (cE (aP aj (aP (fP (ae 1)) (aP aj gh))))) br)))) dP) (bQ (fX (o_ Gk (pj (b7 T.C_Draft T.N_Draft_gates (aL 0)) rfl T.z_len) (av (gb T.f_ rfl)) (bR _)) (bJ (cG cH rfl T.X_Full rfl T.M_Full (dj (aB (av (cE (aP aj (aP (fP (ae 1)) (aP aj gh))))) br)))) dP) (bQ (wo (b7 T.C_Draft T.N_Draft_gates (aL 0)) (zK (lF (yk (av (ae 2))) (lF (m6 jG bG hr (by decide) (aL 0) (aB (av (ae 3)) br) (b5 fR)) (lF (yk (av (ae 4))) wu))))) (px (bo (mW (mF hr) (av jc) (b7 T.C_Draft T.N_Draft_names (aL 0)) (av (ae 1))) (cZ (mW (mF hr) (pj (b7 T.C_Draft T.N_Draft_numbers (aL 0)) rfl T.z_len) (b7 T.C_Draft T.N_Draft_numbers (aL 0)) (av (ae 1))))))))))),F.binds fun _ _ _ _ _ _ us hl=>match us,hl with | [_,_,_,_,_],_=>rfl⟩
abbrev bL:Stmt:=inClass (top 34) 3
noncomputable abbrev eY:List Str:=["self","name","wires"]
noncomputable def qu:{b:List Stmt // aQ bL=b}:=⟨_,by conv=>lhs;whnf⟩
noncomputable def lB:{b:Scope // aD bL=b}:=⟨_,by conv=>lhs;whnf⟩
theorem qU:bb eY ["self","name","wires"] lB.1:=⟨rfl,rfl,rfl,by decide+kernel,rfl,by decide+kernel,by decide+kernel⟩
def i_:FZ:=(cz (tj (wg (yp false (xP (ag 1)) (eE 0 "out_names" (bE 0)))) (fk 5 (eU (aR (xP (cN (bM (eC (.str "there is an out ")) (bM (lM (ag 1)) (bM (eC (.str " ahead")) oz))))) dh))) mK) (cz (tj (wg (Jm HJ (xo (eE 0 "outs" (bE 0))) (xP (eC iY)))) (fk 6 (eU (aR (xP (cN (bM (eC (.str "out ")) (bM (lM (ag 1)) (bM (eC (.str " is one too many")) oz))))) dh))) mK) (cz (mD (tP (eE 0 "outs" (bE 0))) (xp (aR (tP (xP (ag 1))) (aR (pA 0 "wire_numbers" aX (tP (bE 0)) (eU (aR (xP (ag 2)) dh))) dh)))) (Bh (oq (eE 0 "out_names" (bE 0)) (xP (ag 1)) (xP (eC (.bl true))))))))
def cy:List V3->aG->R3 V3:=tm eY i_
def Ai:List V3->aG->R3 V3:=xh eY i_
theorem dq(T:Tp P w K mg cl)(h:qS K (cl 0) "add_out" "Draft.add_out" bL)(bG:kA P w K mg base cl 1 0 "wire_numbers" 1 aX):kA P w K mg base cl 2 0 "add_out" 2 cy:=by
 obtain⟨f,fd,F,hm⟩:=h;exact⟨f,fd,_,T.C_Draft,hm,lK (k:=1) qu.2 lB.2 F qU (fun dJ A outer s H E hr=>(bQ (fX (uy (mF hr) (av (ae 1)) (b7 T.C_Draft T.N_Draft_out_names (aL 0))) (bJ (cG cH rfl T.X_Twice rfl T.M_Twice (dj (aB (av (cE (aP aj (aP (fP (ae 1)) (aP aj gh))))) br)))) dP) (bQ (fX (o_ Gk (pj (b7 T.C_Draft T.N_Draft_outs (aL 0)) rfl T.z_len) (av (gb T.iY rfl)) (bR _)) (bJ (cG cH rfl T.X_Full rfl T.M_Full (dj (aB (av (cE (aP aj (aP (fP (ae 1)) (aP aj gh))))) br)))) dP) (bQ (wo (b7 T.C_Draft T.N_Draft_outs (aL 0)) (zK (lF (yk (av (ae 1))) (lF (m6 jG bG hr (by decide) (aL 0) (aB (av (ae 2)) br) (b5 fR)) wu)))) (px (cZ (mW (mF hr) (av jc) (b7 T.C_Draft T.N_Draft_out_names (aL 0)) (av (ae 1))))))))),F.binds fun _ _ _ _ _ _ us hl=>match us,hl with | [_,_,_],_=>rfl⟩
abbrev j0:Stmt:=top 35
noncomputable abbrev lU:List Str:=["draft","row","words"]
noncomputable def vB:{b:List Stmt // aQ j0=b}:=⟨_,by conv=>lhs;whnf⟩
noncomputable def qD:{b:Scope // aD j0=b}:=⟨_,by conv=>lhs;whnf⟩
theorem sM:bb lU ["draft","row"] qD.1:=⟨rfl,rfl,rfl,by decide+kernel,rfl,by decide+kernel,by decide+kernel⟩
def oy:FZ:=(cz (Bh (me 2 (xP (u_ "str" nt (ag 1) (ai (eC (.str " ")) aJ))))) (tj (wg (bP (tq (aM gq (ai (ag 2) aJ))))) (rY (pA 0 "add_in" cJ (tP (bE 0)) (eU (aR (xP (e2 c9 (ag 2) (eC (.int 1)))) (aR (xP (wH nT (e2 c9 (ag 2) (eC (.int 2))))) dh))))) (tj (wg (bP (tq (aM dZ (ai (ag 2) aJ))))) (rY (pA 0 "add_gate" cf (tP (bE 0)) (eU (aR (xP (e2 c9 (ag 2) (eC (.int 1)))) (aR (xP (e2 c9 (ag 2) (eC (.int 2)))) (aR (xP (q8 (ag 2) (dF (eC (.int 3))) eB)) (aR (xP (e2 pP (e2 c9 (ag 2) (eC (.int 0))) (eC (.str "sure")))) dh))))))) (tj (wg (bP (tq (aM eR (ai (ag 2) aJ))))) (rY (pA 0 "add_out" cy (tP (bE 0)) (eU (aR (xP (e2 c9 (ag 2) (eC (.int 1)))) (aR (xP (q8 (ag 2) (dF (eC (.int 2))) eB)) dh))))) (fk 3 (eU (aR (xP (cN (bM (eC (.str "a row of no form: ")) (bM (Hi (ag 1)) oz)))) dh)))))))
def fO:List V3->aG->R3 V3:=tm lU oy
def G3:List V3->aG->R3 V3:=xh lU oy
theorem xM(T:Tp P w K mg cl)(h:Def K mg "read_row" j0)(my:Callee P w K mg base 2 "is_in_form" 1 gq)(ke:Callee P w K mg base 4 "is_gate_form" 1 dZ)(k_:Callee P w K mg base 4 "is_out_form" 1 eR)(jv:kA P w K mg base cl 2 0 "add_in" 2 cJ)(gL:kA P w K mg base cl 2 0 "add_gate" 4 cf)(iF:kA P w K mg base cl 2 0 "add_out" 2 cy):eo P w K mg base cl 5 "read_row" 2 fO:=by
 obtain⟨f,fd,F,hm⟩:=h;exact⟨f,fd,_,lK (k:=4) vB.2 qD.2 F sM (fun dJ A outer s H E hr=>(bQ (x_ (dY sM.nd rfl (Or.inl rfl) (av (qk (ae 1) (aa aj ak))))) (bJ (fX (lE (nQ (aT my hr (by decide) rfl (aa (ae 2) ak) (aE ba)))) (bJ (mQ (m6 jG jv hr (by decide) (aL 0) (aB (av (aS (ae 2) ah (fun _ _=>rfl))) (aB (av (vT (aS (ae 2) ah (fun _ _=>rfl)) T.gd_WIDTHS rfl (fun _ _=>rfl))) br)) (b5 (b5 fR))))) (bJ (fX (lE (nQ (aT ke hr (by decide) rfl (aa (ae 2) ak) (aE ba)))) (bJ (mQ (m6 jG gL hr (by decide) (aL 0) (aB (av (aS (ae 2) ah (fun _ _=>rfl))) (aB (av (aS (ae 2) ah (fun _ _=>rfl))) (aB (av (gg (ae 2) (cS ah) cL)) (aB (av (eX (qV hr.units) (aS (ae 2) ah (fun _ _=>rfl)) aj (bR _))) br)))) (b5 (b5 (b5 (b5 fR))))))) (bJ (fX (lE (nQ (aT k_ hr (by decide) rfl (aa (ae 2) ak) (aE ba)))) (bJ (mQ (m6 jG iF hr (by decide) (aL 0) (aB (av (aS (ae 2) ah (fun _ _=>rfl))) (aB (av (gg (ae 2) (cS ah) cL)) br)) (b5 (b5 fR))))) (bJ (cG cH rfl T.X_NoForm rfl T.M_NoForm (dj (aB (av (cE (aP aj (aP (Bq (ae 1)) gh)))) br)))))))))))),hm,F.kp,F.binds fun _ _ _ _ _ _ us hl=>match us,hl with | [_,_],_=>rfl⟩
abbrev bw:Stmt:=inClass (top 34) 0
noncomputable abbrev ei:List Str:=["self"]
noncomputable def pe:{b:List Stmt // aQ bw=b}:=⟨_,by conv=>lhs;whnf⟩
noncomputable def kI:{b:Scope // aD bw=b}:=⟨_,by conv=>lhs;whnf⟩
theorem qm:bb ei ["self"] kI.1:=⟨rfl,rfl,rfl,by decide+kernel,rfl,by decide+kernel,by decide+kernel⟩
def hV:FZ:=(cz (vf 0 "ins" (bE 0) (Co (e8 aJ))) (cz (vf 0 "gates" (bE 0) (Co (e8 aJ))) (cz (vf 0 "outs" (bE 0) (Co (e8 aJ))) (cz (vf 0 "names" (bE 0) wz) (cz (vf 0 "out_names" (bE 0) wz) (vf 0 "numbers" (bE 0) wz))))))
def cO:List V3->aG->R3 V3:=tm ei hV
def zS:List V3->aG->R3 V3:=xh ei hV
theorem dc(T:Tp P w K mg cl)(h:IK K (cl 0) "__init__" "Draft.__init__" bw):Du P w K mg base cl 1 0 "Draft" 0 cO:=by
 obtain⟨f,fd,F,hm⟩:=h;exact⟨f,fd,_,hm,sj (k:=0) pe.2 kI.2 F qm (fun dJ A outer s H E hr=>(bo (qr T.C_Draft T.N_Draft_ins (aL 0) (yx (bV ak))) (bo (qr T.C_Draft T.N_Draft_gates (aL 0) (yx (bV ak))) (bo (qr T.C_Draft T.N_Draft_outs (aL 0) (yx (bV ak))) (bo (qr T.C_Draft T.N_Draft_names (aL 0) uG) (bo (qr T.C_Draft T.N_Draft_out_names (aL 0) uG) (cZ (qr T.C_Draft T.N_Draft_numbers (aL 0) uG)))))))),T.M_Draft,F.binds fun _ _ _ _ _ _ us hl=>match us,hl with | [_],_=>rfl⟩
abbrev sd:Stmt:=top 36
noncomputable abbrev vk:List Str:=["text","rows","draft","row"]
noncomputable def F8:{b:List Stmt // aQ sd=b}:=⟨_,by conv=>lhs;whnf⟩
noncomputable def zF:{b:Scope // aD sd=b}:=⟨_,by conv=>lhs;whnf⟩
theorem uB:bb vk ["text"] zF.1:=⟨rfl,rfl,rfl,by decide+kernel,rfl,by decide+kernel,by decide+kernel⟩
def pU:FZ:=(rY (qJ fO (eU (aR (bE 2) (aR (xP (ag 3)) dh)))))
def xD:FZ:=(cz (Bh (me 1 (xP (u_ "str" nt (ag 0) (ai (eC (.str "\n")) aJ))))) (cz (tj (wg (bP (b2 MX (aM eT (ai (ag 1) aJ)) (eC iU)))) (fk 2 (eU (aR (xP (eC (.str "a text of too many rows"))) dh))) mK) (cz (Bh (me 2 (CA 0 cO dh))) (cz (vL (M9 (iP (oa (ag 1)))) (GX 3) pU) (cz (tj (wg (Mj (Cu (mT (eE 0 "ins" (bE 2)))) (Cu (mT (eE 0 "outs" (bE 2)))))) (fk 8 (eU (aR (xP (eC (.str "a net without an in, or without an out"))) dh))) mK) (Bh (uH (xp (aR (eE 0 "ins" (bE 2)) (aR (eE 0 "gates" (bE 2)) (aR (eE 0 "outs" (bE 2)) dh)))))))))))
def kC:List V3->aG->R3 V3:=tm vk xD
def MS:List V3->aG->R3 V3:=xh vk xD
theorem Jv(T:Tp P w K mg cl)(h:Def K mg "read" sd)(gH:Du P w K mg base cl 1 0 "Draft" 0 cO)(nH:eo P w K mg base cl 5 "read_row" 2 fO):eo P w K mg base cl 6 "read" 1 kC:=by
 obtain⟨f,fd,F,hm⟩:=h;exact⟨f,fd,_,lK (k:=5) F8.2 zF.2 F uB (fun dJ A outer s H E hr=>(bQ (x_ (dY uB.nd rfl (Or.inl rfl) (av (qk (ae 0) (aa aj ak))))) (bQ (fX (lE (b6 Lh (bF jC rfl T.z_len PySem.boot_len (aa (ae 1) ak)) (gb T.iU rfl) (bR _))) (bJ (cG cH rfl T.X_TooLong rfl T.M_TooLong (dj (aB (av aj) br)))) dP) (bQ (x_ (dY uB.nd rfl (Or.inl rfl) (DF gH hr (by decide) rfl))) (bQ (y0 ye rfl (nv (lu (ae 1))) (nE uB.nd rfl (Or.inl rfl)) (bJ (mQ (rV jG nH hr (by decide) rfl (dj (aB (aL 2) (aB (av (ae 3)) br))) (uT (b5 (b5 fR))))))) (bQ (fX (Jj.pb (CS (y7 (nc (b7 T.C_Draft T.N_Draft_ins (aL 2)))) (zI (y7 (nc (b7 T.C_Draft T.N_Draft_outs (aL 2))))))) (bJ (cG cH rfl T.X_Open rfl T.M_Open (dj (aB (av aj) br)))) dP) (px (cZ (oI (II (aB (b7 T.C_Draft T.N_Draft_ins (aL 2)) (aB (b7 T.C_Draft T.N_Draft_gates (aL 2)) (aB (b7 T.C_Draft T.N_Draft_outs (aL 2)) br))))))))))))),hm,F.kp,F.binds fun _ _ _ _ _ _ us hl=>match us,hl with | [_],_=>rfl⟩
abbrev jQ:Stmt:=top 38
noncomputable abbrev lT:List Str:=["cell","k","number"]
noncomputable def vZ:{b:List Stmt // aQ jQ=b}:=⟨_,by conv=>lhs;whnf⟩
noncomputable def qF:{b:Scope // aD jQ=b}:=⟨_,by conv=>lhs;whnf⟩
theorem oG:bb lT ["cell","k"] qF.1:=⟨rfl,rfl,rfl,by decide+kernel,rfl,by decide+kernel,by decide+kernel⟩
def so:FS:=(cn (qQ (b2 HJ (ag 0) (e2 z7 (eC (.int 10)) (eC (.int 18)))) (ja (e2 cC (e2 LA (e2 L8 (ag 0) (e2 z7 (eC (.int 10)) (eC (.int 18)))) (e2 nV (eC (.int 28)) (ag 1))) (e2 z7 (eC (.int 2)) (eC (.int 28))))) kJ) (cn (cD 2 (e2 cC (e2 nV (e2 bO (e2 bO (ag 0) (e2 nV (eC (.int 1013)) (ag 1))) (eC (.int 1))) (eC (.int 16807))) (eC (.int 2147483647)))) (cn (cD 2 (e2 cC (e2 nV (ag 2) (ag 2)) (eC (.int 2147483629)))) (ja (e2 eD (e2 cC (e2 nV (ag 2) (eC (.int 39373))) (eC (.int 2147483587))) (eC (.int 8)))))))
def bB:List D->R D:=wa lT so
theorem xO(T:Tp P w K mg cl)(h:Def K mg "_law_stir" jQ):Callee P w K mg base 1 "_law_stir" 2 bB:=by
 obtain⟨f,fd,F,hm⟩:=h;exact⟨f,fd,_,cK (k:=0) vZ.2 qF.2 F oG (fun dJ A outer s H E hr=>(aF (eW (b6 Gk (ae 0) (aw CM ah ah) (bR _)) (bj (bU (aw dR (aw KR (aw LL (ae 0) (aw CM ah ah)) (aw sr ah (ae 1))) (aw CM ah ah)))) dn) (aF (aY oG.nd rfl (Or.inl rfl) (aw dR (aw sr (aw bS (aw bS (ae 0) (aw sr ah (ae 1))) ah) ah) ah)) (aF (aY oG.nd rfl (Or.inl rfl) (aw dR (aw sr (ae 2) (ae 2)) ah)) (bj (bU (aw kN (aw dR (aw sr (ae 2) ah) ah) ah))))))),hm,F.kp,F.binds fun _ _ _ _ _ _ us hl=>match us,hl with | [_,_],_=>rfl⟩
abbrev jN:Stmt:=top 39
noncomputable abbrev lS:List Str:=["cell","k","number","letters","few","word","barred","at","more","signs"]
noncomputable def vP:{b:List Stmt // aQ jN=b}:=⟨_,by conv=>lhs;whnf⟩
noncomputable def nh:{b:Scope // aD jN=b}:=⟨_,by conv=>lhs;whnf⟩
theorem bN:bb lS ["cell","k"] nh.1:=⟨rfl,rfl,rfl,by decide+kernel,rfl,by decide+kernel,by decide+kernel⟩
def sO:FS:=(cn (cD 2 (aM bB (ai (ag 0) (ai (ag 1) aJ)))) (cn (cD 3 (eC (.str "abcdefghijklmnopqrstuvwxyz"))) (cn (cD 4 (e2 c9 (eNew (e8 (ai (eC (.str "xyz")) (ai (ag 3) aJ)))) (e2 cC (e2 eD (ag 2) (eC (.int 8))) (eC (.int 2))))) (cn (cD 5 (u_ "str" mJ (eC (.str "")) (ai (eNew (kB (l_ (e2 cC (e2 eD (ag 2) (eC (.int 16))) (eC (.int 10)))) (lY 0) wA (e2 c9 (ag 3) (e2 cC (aM bB (ai (ag 1) (ai (e2 bO (e2 bO (ag 2) (eC (.int 1))) (ag 0)) aJ))) (aM eT (ai (ag 3) aJ)))) ["j"] [0,1,4])) aJ))) (cn (qQ (b2 Bg (e2 cC (ag 2) (eC (.int 8))) (eC (.int 3))) (cn (cD 6 (eNew (e8 (ai (eC (.str "in")) (ai (eC (.str "gate")) (ai (eC (.str "sure")) (ai (eC (.str "out")) (ai (eC (.str "not")) (ai (eC (.str "and")) (ai (eC (.str "or")) (ai (eC (.str "xor")) (ai (eC (.str "vote")) aJ)))))))))))) (cn (cD 5 (e2 c9 (ag 6) (e2 cC (e2 eD (ag 2) (eC (.int 8))) (eC (.int 9))))) (cn (cD 7 (e2 cC (e2 eD (ag 2) (eC (.int 72))) (e2 bO (aM eT (ai (ag 5) aJ)) (eC (.int 1))))) (cn (cD 8 (e2 c9 (ag 3) (e2 cC (e2 eD (ag 2) (eC (.int 700))) (eC (.int 26))))) (cD 5 (e2 c9 (eNew (e8 (ai (ag 5) (ai (e2 bO (e2 bO (q8 (ag 5) eB (dF (ag 7))) (ag 8)) (q8 (ag 5) (dF (ag 7)) eB)) (ai (e2 bO (q8 (ag 5) eB (dF (ag 7))) (q8 (ag 5) (dF (e2 bO (ag 7) (eC (.int 1)))) eB)) aJ))))) (e2 cC (ag 2) (eC (.int 8))))))))) kJ) (cn (qQ (b2 pP (e2 cC (ag 2) (eC (.int 8))) (eC (.int 3))) (cn (cD 9 (eC (.str "!\"#$&'()*+,-./0123456789:;<=>?@ABCXYZ[]^_`{|}~"))) (cn (qQ (b2 pP (ag 1) (eC (.int 1))) (cD 9 (e2 bO (e2 bO (ag 9) (eC (.str " \n\\DEFGHIJKLMNOPQRSTUVW"))) (e2 nV (eC (.str " \n")) (eC (.int 9))))) kJ) (cn (cD 7 (e2 cC (e2 eD (ag 2) (eC (.int 160))) (e2 bO (aM eT (ai (ag 5) aJ)) (eC (.int 1))))) (cD 5 (e2 bO (e2 bO (q8 (ag 5) eB (dF (ag 7))) (e2 c9 (ag 9) (e2 cC (aM bB (ai (ag 0) (ai (e2 bO (ag 1) (eC (.int 11))) aJ))) (aM eT (ai (ag 9) aJ))))) (q8 (ag 5) (dF (ag 7)) eB)))))) kJ) (cn (qQ (b2 pP (e2 cC (ag 2) (eC (.int 8))) (eC (.int 4))) (cD 5 (e2 nV (ag 5) (e2 c9 (eNew (e8 (ai (eC (.int 2)) (ai (eC (.int 40)) aJ)))) (e2 cC (e2 eD (ag 2) (eC (.int 160))) (eC (.int 2)))))) kJ) (ja (ag 5)))))))))
def e_:List D->R D:=wa lS sO
theorem yz(T:Tp P w K mg cl)(h:Def K mg "_law_word" jN)(cF:Callee P w K mg base 1 "_law_stir" 2 bB):Callee P w K mg base 2 "_law_word" 2 e_:=by
 obtain⟨f,fd,F,hm⟩:=h;exact⟨f,fd,_,cK (k:=1) vP.2 nh.2 F bN (fun dJ A outer s H E hr=>(aF (aY bN.nd rfl (Or.inl rfl) (aT cF hr (by decide) rfl (aa (ae 0) (aa (ae 1) ak)) (aE (aE ba)))) (aF (aY bN.nd rfl (Or.inl rfl) aj) (aF (aY bN.nd rfl (Or.inr rfl) (aS (bK (bV (aa aj (aa (ae 3) ak)))) (aw dR (aw kN (ae 2) ah) ah) (fun _ _=>rfl))) (aF (aY bN.nd rfl (Or.inl rfl) (rJ aj (aa (bK (nq rfl (di.of (own:=["j"]) (kp:=[0,1,4]) (kn:=["cell","k","few"]) (sc:=nh.1) (N:=lS) rfl rfl (by decide+kernel)) (mV (aw dR (aw kN (ae 2) ah) ah) rfl T.z_range) (fun _ _ _=>(jF (show List.Nodup [(Str.ofString "j"),"cell","k","few"] from by decide+kernel) rfl (Or.inl rfl))) (fun _ _ _=>lI) (fun _ _ _=>(aS (ae 3) (aw dR (aT cF hr (by decide) rfl (aa (ae 1) (aa (aw bS (aw bS (ae 2) ah) (ae 0)) ak)) (aE (aE ba))) (bF jC rfl T.z_len PySem.boot_len (aa (ae 3) ak))) (fun _ _=>rfl))))) ak))) (aF (eW (b6 AO (aw dR (ae 2) ah) ah (bR _)) (aF (aY bN.nd rfl (Or.inl rfl) (bK (bV (aa aj (aa aj (aa aj (aa aj (aa aj (aa aj (aa aj (aa aj (aa aj ak)))))))))))) (aF (aY bN.nd rfl (Or.inl rfl) (aS (ae 6) (aw dR (aw kN (ae 2) ah) ah) (fun _ _=>rfl))) (aF (aY bN.nd rfl (Or.inl rfl) (aw dR (aw kN (ae 2) ah) (aw bS (bF jC rfl T.z_len PySem.boot_len (aa (ae 5) ak)) ah))) (aF (aY bN.nd rfl (Or.inl rfl) (aS (ae 3) (aw dR (aw kN (ae 2) ah) ah) (fun _ _=>rfl))) (bj (aY bN.nd rfl (Or.inl rfl) (aS (bK (bV (aa (ae 5) (aa (aw bS (aw bS (gg (ae 5) cL (cS (ae 7))) (ae 8)) (gg (ae 5) (cS (ae 7)) cL)) (aa (aw bS (gg (ae 5) cL (cS (ae 7))) (gg (ae 5) (cS (aw bS (ae 7) ah)) cL)) ak))))) (aw dR (ae 2) ah) (fun _ _=>rfl)))))))) dn) (aF (eW (b6 (qV hr.units) (aw dR (ae 2) ah) ah (bR _)) (aF (aY bN.nd rfl (Or.inl rfl) aj) (aF (eW (b6 (qV hr.units) (ae 1) ah (bR _)) (bj (aY bN.nd rfl (Or.inl rfl) (aw bS (aw bS (ae 9) aj) (aw sr aj ah)))) dn) (aF (aY bN.nd rfl (Or.inl rfl) (aw dR (aw kN (ae 2) ah) (aw bS (bF jC rfl T.z_len PySem.boot_len (aa (ae 5) ak)) ah))) (bj (aY bN.nd rfl (Or.inl rfl) (aw bS (aw bS (gg (ae 5) cL (cS (ae 7))) (aS (ae 9) (aw dR (aT cF hr (by decide) rfl (aa (ae 0) (aa (aw bS (ae 1) ah) ak)) (aE (aE ba))) (bF jC rfl T.z_len PySem.boot_len (aa (ae 9) ak))) (fun _ _=>rfl))) (gg (ae 5) (cS (ae 7)) cL))))))) dn) (aF (eW (b6 (qV hr.units) (aw dR (ae 2) ah) ah (bR _)) (bj (aY bN.nd rfl (Or.inl rfl) (aw sr (ae 5) (aS (bK (bV (aa ah (aa ah ak)))) (aw dR (aw kN (ae 2) ah) ah) (fun _ _=>rfl))))) dn) (bj (bU (ae 5))))))))))),hm,F.kp,F.binds fun _ _ _ _ _ _ us hl=>match us,hl with | [_,_],_=>rfl⟩
abbrev jH:Stmt:=top 40
noncomputable abbrev jM:List Str:=["word","strange","barred"]
noncomputable def v3:{b:List Stmt // aQ jH=b}:=⟨_,by conv=>lhs;whnf⟩
noncomputable def nD:{b:Scope // aD jH=b}:=⟨_,by conv=>lhs;whnf⟩
theorem oO:bb jM ["word"] nD.1:=⟨rfl,rfl,rfl,by decide+kernel,rfl,by decide+kernel,by decide+kernel⟩
def rH:FS:=(cn (cD 1 (eNew (kB (zP (ag 0)) (lY 0) (b2 jb (ag 0) (eC (.str "abcdefghijklmnopqrstuvwxyz"))) (ag 0) ["sign"] []))) (cn (cD 2 (eNew (e8 (ai (eC (.str "in")) (ai (eC (.str "gate")) (ai (eC (.str "sure")) (ai (eC (.str "out")) (ai (eC (.str "not")) (ai (eC (.str "and")) (ai (eC (.str "or")) (ai (eC (.str "xor")) (ai (eC (.str "vote")) aJ)))))))))))) (ja (qw (e2 pP (ag 1) (eNew (e8 aJ))) (qw (qo Hb Hb (eC (.int 1)) (aM eT (ai (ag 0) aJ)) (eC (.int 8))) (e2 jb (ag 0) (ag 2)))))))
def hJ:List D->R D:=wa jM rH
theorem yd(T:Tp P w K mg cl)(h:Def K mg "_law_good" jH):Callee P w K mg base 1 "_law_good" 1 hJ:=by
 obtain⟨f,fd,F,hm⟩:=h;exact⟨f,fd,_,cK (k:=0) v3.2 nD.2 F oO (fun dJ A outer s H E hr=>(aF (uw rfl oO.nd rfl rfl (di.of (own:=["sign"]) (kp:=[]) (kn:=[]) (sc:=nD.1) (N:=jM) rfl rfl (by decide+kernel)) (wx (ae 0)) (fun _ _ _=>(jF (show List.Nodup [(Str.ofString "sign")] from by decide+kernel) rfl (Or.inl rfl))) (fun _ _ _=>(B5 (b6 rk (ae 0) aj (by with_unfolding_all rfl)))) (fun _ _ _=>(ae 0))) (aF (aY oO.nd rfl (Or.inl rfl) (bK (bV (aa aj (aa aj (aa aj (aa aj (aa aj (aa aj (aa aj (aa aj (aa aj ak)))))))))))) (bj (bU (jE (eX (qV hr.units) (ae 1) (bK (bV ak)) (bR _)) (jE (AR Hx Hx ah (bF jC rfl T.z_len PySem.boot_len (aa (ae 0) ak)) ah) (l6 (eX rk (ae 0) (ae 2) (by with_unfolding_all rfl)))))))))),hm,F.kp,F.binds fun _ _ _ _ _ _ us hl=>match us,hl with | [_],_=>rfl⟩
abbrev jX:Stmt:=top 41
noncomputable abbrev oJ:List Str:=["cell","name","number","own","behind"]
noncomputable def vM:{b:List Stmt // aQ jX=b}:=⟨_,by conv=>lhs;whnf⟩
noncomputable def qL:{b:Scope // aD jX=b}:=⟨_,by conv=>lhs;whnf⟩
theorem fm:bb oJ ["cell","name"] qL.1:=⟨rfl,rfl,rfl,by decide+kernel,rfl,by decide+kernel,by decide+kernel⟩
def su:FS:=(cn (cD 2 (aM bB (ai (ag 0) (ai (eC (.int 40)) aJ)))) (cn (cD 3 (q8 (e2 c9 (eNew (e8 (ai (ag 1) (ai (e2 bO (eC (.str "b")) (ag 1)) (ai (e2 bO (eC (.str "c")) (ag 1)) aJ))))) (e2 cC (e2 eD (ag 2) (eC (.int 8))) (eC (.int 3)))) eB (dF (eC (.int 8))))) (cn (cD 4 (eNew (e8 (ai (eC (.str "")) (ai (eC (.str ":0")) (ai (eC (.str ":1")) (ai (eC (.str ":2")) (ai (eC (.str ":3")) (ai (eC (.str ":")) (ai (eC (.str ":00")) (ai (eC (.str ":a")) (ai (eC (.str "::1")) (ai (eC (.str ":-1")) (ai (eC (.str ":9")) (ai (eC (.str ":1:")) aJ))))))))))))))) (cn (cD 4 (e2 bO (ag 4) (eNew (e8 (ai (eC (.str ":01")) (ai (eC (.str ":12")) (ai (eC (.str ":89")) (ai (e2 bO (eC (.str ":")) (e2 c9 (eC (.str "!+-./:;@")) (e2 cC (aM bB (ai (ag 0) (ai (eC (.int 41)) aJ))) (eC (.int 8))))) aJ)))))))) (cn (cD 4 (e2 c9 (e2 bO (ag 4) (eNew (e8 (ai (e2 bO (eC (.str ":")) (e2 c9 (eC (.str "0123456789")) (e2 cC (aM bB (ai (ag 0) (ai (eC (.int 42)) aJ))) (eC (.int 10))))) aJ)))) (e2 cC (e2 eD (ag 2) (eC (.int 24))) (eC (.int 17))))) (cn (qQ (b2 Bg (e2 cC (ag 2) (eC (.int 8))) (eC (.int 2))) (cD 3 (aM e_ (ai (ag 0) (ai (eC (.int 50)) aJ)))) kJ) (ja (e2 bO (ag 3) (ag 4)))))))))
def jI:List D->R D:=wa oJ su
theorem yq(T:Tp P w K mg cl)(h:Def K mg "_law_wire" jX)(cF:Callee P w K mg base 1 "_law_stir" 2 bB)(mq:Callee P w K mg base 2 "_law_word" 2 e_):Callee P w K mg base 3 "_law_wire" 2 jI:=by
 obtain⟨f,fd,F,hm⟩:=h;exact⟨f,fd,_,cK (k:=2) vM.2 qL.2 F fm (fun dJ A outer s H E hr=>(aF (aY fm.nd rfl (Or.inl rfl) (aT cF hr (by decide) rfl (aa (ae 0) (aa ah ak)) (aE (aE ba)))) (aF (aY fm.nd rfl (Or.inl rfl) (gg (aS (bK (bV (aa (ae 1) (aa (aw bS aj (ae 1)) (aa (aw bS aj (ae 1)) ak))))) (aw dR (aw kN (ae 2) ah) ah) (fun _ _=>rfl)) cL (cS ah))) (aF (aY fm.nd rfl (Or.inl rfl) (bK (bV (aa aj (aa aj (aa aj (aa aj (aa aj (aa aj (aa aj (aa aj (aa aj (aa aj (aa aj (aa aj ak))))))))))))))) (aF (aY fm.nd rfl (Or.inl rfl) (aw bS (ae 4) (bK (bV (aa aj (aa aj (aa aj (aa (aw bS aj (aS aj (aw dR (aT cF hr (by decide) rfl (aa (ae 0) (aa ah ak)) (aE (aE ba))) ah) (fun _ _=>rfl))) ak)))))))) (aF (aY fm.nd rfl (Or.inl rfl) (aS (aw bS (ae 4) (bK (bV (aa (aw bS aj (aS aj (aw dR (aT cF hr (by decide) rfl (aa (ae 0) (aa ah ak)) (aE (aE ba))) ah) (fun _ _=>rfl))) ak)))) (aw dR (aw kN (ae 2) ah) ah) (fun _ _=>rfl))) (aF (eW (b6 AO (aw dR (ae 2) ah) ah (bR _)) (bj (aY fm.nd rfl (Or.inl rfl) (aT mq hr (by decide) rfl (aa (ae 0) (aa ah ak)) (aE (aE ba))))) dn) (bj (bU (aw bS (ae 3) (ae 4))))))))))),hm,F.kp,F.binds fun _ _ _ _ _ _ us hl=>match us,hl with | [_,_],_=>rfl⟩
abbrev jV:Stmt:=top 42
noncomputable abbrev ot:List Str:=["word","parts"]
noncomputable def wj:{b:List Stmt // aQ jV=b}:=⟨_,by conv=>lhs;whnf⟩
noncomputable def qH:{b:Scope // aD jV=b}:=⟨_,by conv=>lhs;whnf⟩
theorem sf:bb ot ["word"] qH.1:=⟨rfl,rfl,rfl,by decide+kernel,rfl,by decide+kernel,by decide+kernel⟩
def sG:FS:=(cn (cD 1 (u_ "str" nt (ag 0) (ai (eC (.str ":")) aJ))) (cn (qQ (AZ (b2 pP (aM eT (ai (ag 1) aJ)) (eC (.int 2))) (AE (b2 zu (aM eT (ai (e2 c9 (ag 1) (eC (.int 1))) aJ)) (eC (.int 1))) (b2 jb (e2 c9 (ag 1) (eC (.int 1))) (eC (.str "0123456789"))))) (ja (eC (.bl false))) kJ) (ja (qw (aM hJ (ai (e2 c9 (ag 1) (eC (.int 0))) aJ)) (e2 Bg (aM eT (ai (ag 1) aJ)) (eC (.int 3)))))))
def jJ:List D->R D:=wa ot sG
theorem xr(T:Tp P w K mg cl)(h:Def K mg "_law_form" jV)(mj:Callee P w K mg base 1 "_law_good" 1 hJ):Callee P w K mg base 2 "_law_form" 1 jJ:=by
 obtain⟨f,fd,F,hm⟩:=h;exact⟨f,fd,_,cK (k:=1) wj.2 qH.2 F sf (fun dJ A outer s H E hr=>(aF (aY sf.nd rfl (Or.inl rfl) (qk (ae 0) (aa aj ak))) (aF (eW (l5 (Ca (b6 (qV hr.units) (bF jC rfl T.z_len PySem.boot_len (aa (ae 1) ak)) ah (bR _)) (AV (l5 (ky (b6 (C_ hr.units) (bF jC rfl T.z_len PySem.boot_len (aa (aS (ae 1) ah (fun _ _=>rfl)) ak)) ah (bR _)) (lL (b6 rk (aS (ae 1) ah (fun _ _=>rfl)) aj (by with_unfolding_all rfl)))))))) (bj (bU jc)) dn) (bj (bU (jE (aT mj hr (by decide) rfl (aa (aS (ae 1) ah (fun _ _=>rfl)) ak) (aE ba)) (l6 (eX AO (bF jC rfl T.z_len PySem.boot_len (aa (ae 1) ak)) ah (bR _))))))))),hm,F.kp,F.binds fun _ _ _ _ _ _ us hl=>match us,hl with | [_],_=>rfl⟩
abbrev eS:Stmt:=top 43
noncomputable abbrev eP:List Str:=["text","found","e"]
noncomputable def rS:{b:List Stmt // aQ eS=b}:=⟨_,by conv=>lhs;whnf⟩
noncomputable def m_:{b:Scope // aD eS=b}:=⟨_,by conv=>lhs;whnf⟩
theorem cV:bb eP ["text"] m_.1:=⟨rfl,rfl,rfl,by decide+kernel,rfl,by decide+kernel,by decide+kernel⟩
def kK:FZ:=(cz (me 1 (xP (eNew (e8 aJ)))) (cz (tG (rY (qJ (Dm kC) (eU (aR (xP (ag 0)) dh)))) (fun c=>[2,3,4,5,6,7,8].contains c) 2 (cz (me 1 (yg (aR (kO (bE 2) (qK [(2,true),(3,false),(4,false),(5,false),(6,false),(7,false),(8,false)])) (aR (kO (bE 2) (qK [(2,false),(3,true),(4,false),(5,false),(6,false),(7,false),(8,false)])) (aR (kO (bE 2) (qK [(2,false),(3,false),(4,true),(5,false),(6,false),(7,false),(8,false)])) (aR (kO (bE 2) (qK [(2,false),(3,false),(4,false),(5,true),(6,false),(7,false),(8,false)])) dh)))))) (cz (me 1 (x2 bO (xP (ag 1)) (yg (aR (kO (bE 2) (qK [(2,false),(3,false),(4,false),(5,false),(6,true),(7,false),(8,false)])) (aR (kO (bE 2) (qK [(2,false),(3,false),(4,false),(5,false),(6,false),(7,true),(8,false)])) (aR (kO (bE 2) (qK [(2,false),(3,false),(4,false),(5,false),(6,false),(7,false),(8,true)])) (aR (kO (bE 2) (qK [(2,false),(3,false),(4,false),(5,false),(6,false),(7,false),(8,false)])) dh))))))) (cz (me 1 (x2 bO (xP (ag 1)) (yg (aR (kO (bE 2) (qK [(2,false),(3,false),(4,false),(5,false),(6,false),(7,false),(8,false)])) (aR (kO (bE 2) (qK [(2,false),(3,false),(4,false),(5,false),(6,false),(7,false),(8,false)])) (aR (kO (bE 2) (qK [(2,false),(3,false),(4,false),(5,false),(6,false),(7,false),(8,false)])) (aR (kO (bE 2) (qK [(2,false),(3,false),(4,false),(5,false),(6,false),(7,false),(8,false)])) dh))))))) (me 1 (x2 bO (xP (ag 1)) (yg (aR (kO (bE 2) (qK [(2,false),(3,false),(4,false),(5,false),(6,false),(7,false),(8,false)])) (aR (Io (kO (bE 2) (qK [(2,true),(3,true),(4,true),(5,true),(6,true),(7,true),(8,true)]))) dh))))))))) (uH (xP (ag 1)))))
def r9:List V3->aG->R3 V3:=tm eP kK
def gm:List V3->aG->R3 V3:=xh eP kK
theorem tK(T:Tp P w K mg cl)(h:Def K mg "_law_refused" eS)(rn:eo P w K mg base cl 6 "read" 1 kC):pW P w K mg base cl 7 "_law_refused" 1 r9:=by
 obtain⟨f,fd,F,hm⟩:=h;exact⟨f,fd,_,sj (k:=6) rS.2 m_.2 F cV (fun dJ A outer s H E hr=>(bo (dY cV.nd rfl (Or.inl rfl) (av (bK (bV ak)))) (bo (Il rfl rfl rfl (Mq (l9 T.E_TooLong_FaultError (l9 T.E_NoForm_FaultError (l9 T.E_NoPlace_FaultError (l9 T.E_Twice_FaultError (l9 T.E_Full_FaultError (l9 T.E_NoWire_FaultError (l9 T.E_Open_FaultError Ir)))))))) rfl T.M_FaultError cV.nd rfl rfl (fun pn xe E hp=>(bJ (mQ (rV hp (eo.q rn) hr (by decide) rfl (dj (aB (av (ae 0)) br)) (uT (b5 fR)))))) (fun a pn=>(bo (dY cV.nd rfl (Or.inl rfl) (uo (aB (fW (aL 2) (dk (v:= .ref (cl 2)) rfl T.M_TooLong rfl) rfl rfl T.z_isinstance (jT (ao ⟨T.X_TooLong,T.I_TooLong_TooLong⟩ (ao ⟨T.X_NoForm,T.I_NoForm_TooLong⟩ (ao ⟨T.X_NoPlace,T.I_NoPlace_TooLong⟩ (ao ⟨T.X_Twice,T.I_Twice_TooLong⟩ (ao ⟨T.X_Full,T.I_Full_TooLong⟩ (ao ⟨T.X_NoWire,T.I_NoWire_TooLong⟩ (ao ⟨T.X_Open,T.I_Open_TooLong⟩ f9)))))))) T.O_TooLong) (aB (fW (aL 2) (dk (v:= .ref (cl 3)) rfl T.M_NoForm rfl) rfl rfl T.z_isinstance (jT (ao ⟨T.X_TooLong,T.I_TooLong_NoForm⟩ (ao ⟨T.X_NoForm,T.I_NoForm_NoForm⟩ (ao ⟨T.X_NoPlace,T.I_NoPlace_NoForm⟩ (ao ⟨T.X_Twice,T.I_Twice_NoForm⟩ (ao ⟨T.X_Full,T.I_Full_NoForm⟩ (ao ⟨T.X_NoWire,T.I_NoWire_NoForm⟩ (ao ⟨T.X_Open,T.I_Open_NoForm⟩ f9)))))))) T.O_NoForm) (aB (fW (aL 2) (dk (v:= .ref (cl 4)) rfl T.M_NoPlace rfl) rfl rfl T.z_isinstance (jT (ao ⟨T.X_TooLong,T.I_TooLong_NoPlace⟩ (ao ⟨T.X_NoForm,T.I_NoForm_NoPlace⟩ (ao ⟨T.X_NoPlace,T.I_NoPlace_NoPlace⟩ (ao ⟨T.X_Twice,T.I_Twice_NoPlace⟩ (ao ⟨T.X_Full,T.I_Full_NoPlace⟩ (ao ⟨T.X_NoWire,T.I_NoWire_NoPlace⟩ (ao ⟨T.X_Open,T.I_Open_NoPlace⟩ f9)))))))) T.O_NoPlace) (aB (fW (aL 2) (dk (v:= .ref (cl 5)) rfl T.M_Twice rfl) rfl rfl T.z_isinstance (jT (ao ⟨T.X_TooLong,T.I_TooLong_Twice⟩ (ao ⟨T.X_NoForm,T.I_NoForm_Twice⟩ (ao ⟨T.X_NoPlace,T.I_NoPlace_Twice⟩ (ao ⟨T.X_Twice,T.I_Twice_Twice⟩ (ao ⟨T.X_Full,T.I_Full_Twice⟩ (ao ⟨T.X_NoWire,T.I_NoWire_Twice⟩ (ao ⟨T.X_Open,T.I_Open_Twice⟩ f9)))))))) T.O_Twice) br)))))) (bo (dY cV.nd rfl (Or.inl rfl) (B7 bS (av (ae 1)) (uo (aB (fW (aL 2) (dk (v:= .ref (cl 6)) rfl T.M_Full rfl) rfl rfl T.z_isinstance (jT (ao ⟨T.X_TooLong,T.I_TooLong_Full⟩ (ao ⟨T.X_NoForm,T.I_NoForm_Full⟩ (ao ⟨T.X_NoPlace,T.I_NoPlace_Full⟩ (ao ⟨T.X_Twice,T.I_Twice_Full⟩ (ao ⟨T.X_Full,T.I_Full_Full⟩ (ao ⟨T.X_NoWire,T.I_NoWire_Full⟩ (ao ⟨T.X_Open,T.I_Open_Full⟩ f9)))))))) T.O_Full) (aB (fW (aL 2) (dk (v:= .ref (cl 7)) rfl T.M_NoWire rfl) rfl rfl T.z_isinstance (jT (ao ⟨T.X_TooLong,T.I_TooLong_NoWire⟩ (ao ⟨T.X_NoForm,T.I_NoForm_NoWire⟩ (ao ⟨T.X_NoPlace,T.I_NoPlace_NoWire⟩ (ao ⟨T.X_Twice,T.I_Twice_NoWire⟩ (ao ⟨T.X_Full,T.I_Full_NoWire⟩ (ao ⟨T.X_NoWire,T.I_NoWire_NoWire⟩ (ao ⟨T.X_Open,T.I_Open_NoWire⟩ f9)))))))) T.O_NoWire) (aB (fW (aL 2) (dk (v:= .ref (cl 8)) rfl T.M_Open rfl) rfl rfl T.z_isinstance (jT (ao ⟨T.X_TooLong,T.I_TooLong_Open⟩ (ao ⟨T.X_NoForm,T.I_NoForm_Open⟩ (ao ⟨T.X_NoPlace,T.I_NoPlace_Open⟩ (ao ⟨T.X_Twice,T.I_Twice_Open⟩ (ao ⟨T.X_Full,T.I_Full_Open⟩ (ao ⟨T.X_NoWire,T.I_NoWire_Open⟩ (ao ⟨T.X_Open,T.I_Open_Open⟩ f9)))))))) T.O_Open) (aB (fW (aL 2) (dk (v:= .ref (cl 9)) rfl T.M_NotPlain rfl) rfl rfl T.z_isinstance (jT (ao ⟨T.X_TooLong,T.I_TooLong_NotPlain⟩ (ao ⟨T.X_NoForm,T.I_NoForm_NotPlain⟩ (ao ⟨T.X_NoPlace,T.I_NoPlace_NotPlain⟩ (ao ⟨T.X_Twice,T.I_Twice_NotPlain⟩ (ao ⟨T.X_Full,T.I_Full_NotPlain⟩ (ao ⟨T.X_NoWire,T.I_NoWire_NotPlain⟩ (ao ⟨T.X_Open,T.I_Open_NotPlain⟩ f9)))))))) T.O_NotPlain) br))))))) (bo (dY cV.nd rfl (Or.inl rfl) (B7 bS (av (ae 1)) (uo (aB (fW (aL 2) (dk (v:= .ref (cl 10)) rfl T.M_NotThree rfl) rfl rfl T.z_isinstance (jT (ao ⟨T.X_TooLong,T.I_TooLong_NotThree⟩ (ao ⟨T.X_NoForm,T.I_NoForm_NotThree⟩ (ao ⟨T.X_NoPlace,T.I_NoPlace_NotThree⟩ (ao ⟨T.X_Twice,T.I_Twice_NotThree⟩ (ao ⟨T.X_Full,T.I_Full_NotThree⟩ (ao ⟨T.X_NoWire,T.I_NoWire_NotThree⟩ (ao ⟨T.X_Open,T.I_Open_NotThree⟩ f9)))))))) T.O_NotThree) (aB (fW (aL 2) (dk (v:= .ref (cl 11)) rfl T.M_NotSound rfl) rfl rfl T.z_isinstance (jT (ao ⟨T.X_TooLong,T.I_TooLong_NotSound⟩ (ao ⟨T.X_NoForm,T.I_NoForm_NotSound⟩ (ao ⟨T.X_NoPlace,T.I_NoPlace_NotSound⟩ (ao ⟨T.X_Twice,T.I_Twice_NotSound⟩ (ao ⟨T.X_Full,T.I_Full_NotSound⟩ (ao ⟨T.X_NoWire,T.I_NoWire_NotSound⟩ (ao ⟨T.X_Open,T.I_Open_NotSound⟩ f9)))))))) T.O_NotSound) (aB (fW (aL 2) (dk (v:= .ref (cl 12)) rfl T.M_NoFit rfl) rfl rfl T.z_isinstance (jT (ao ⟨T.X_TooLong,T.I_TooLong_NoFit⟩ (ao ⟨T.X_NoForm,T.I_NoForm_NoFit⟩ (ao ⟨T.X_NoPlace,T.I_NoPlace_NoFit⟩ (ao ⟨T.X_Twice,T.I_Twice_NoFit⟩ (ao ⟨T.X_Full,T.I_Full_NoFit⟩ (ao ⟨T.X_NoWire,T.I_NoWire_NoFit⟩ (ao ⟨T.X_Open,T.I_Open_NoFit⟩ f9)))))))) T.O_NoFit) (aB (fW (aL 2) (dk (v:= .ref (cl 13)) rfl T.M_NoShape rfl) rfl rfl T.z_isinstance (jT (ao ⟨T.X_TooLong,T.I_TooLong_NoShape⟩ (ao ⟨T.X_NoForm,T.I_NoForm_NoShape⟩ (ao ⟨T.X_NoPlace,T.I_NoPlace_NoShape⟩ (ao ⟨T.X_Twice,T.I_Twice_NoShape⟩ (ao ⟨T.X_Full,T.I_Full_NoShape⟩ (ao ⟨T.X_NoWire,T.I_NoWire_NoShape⟩ (ao ⟨T.X_Open,T.I_Open_NoShape⟩ f9)))))))) T.O_NoShape) br))))))) (cZ (dY cV.nd rfl (Or.inl rfl) (B7 bS (av (ae 1)) (uo (aB (fW (aL 2) (dk (v:= .ref (cl 14)) rfl T.M_NoneYet rfl) rfl rfl T.z_isinstance (jT (ao ⟨T.X_TooLong,T.I_TooLong_NoneYet⟩ (ao ⟨T.X_NoForm,T.I_NoForm_NoneYet⟩ (ao ⟨T.X_NoPlace,T.I_NoPlace_NoneYet⟩ (ao ⟨T.X_Twice,T.I_Twice_NoneYet⟩ (ao ⟨T.X_Full,T.I_Full_NoneYet⟩ (ao ⟨T.X_NoWire,T.I_NoWire_NoneYet⟩ (ao ⟨T.X_Open,T.I_Open_NoneYet⟩ f9)))))))) T.O_NoneYet) (aB (Hs (fW (aL 2) (zQ (v:= .ty "ValueError") rfl T.z_ValueError PyProof.Rows.Boot.«ValueError» rfl) rfl rfl T.z_isinstance (jT (ao ⟨T.X_TooLong,T.I_TooLong_ValueError⟩ (ao ⟨T.X_NoForm,T.I_NoForm_ValueError⟩ (ao ⟨T.X_NoPlace,T.I_NoPlace_ValueError⟩ (ao ⟨T.X_Twice,T.I_Twice_ValueError⟩ (ao ⟨T.X_Full,T.I_Full_ValueError⟩ (ao ⟨T.X_NoWire,T.I_NoWire_ValueError⟩ (ao ⟨T.X_Open,T.I_Open_ValueError⟩ f9)))))))) T.O_ValueError)) br))))))))))) (cZ (oI (av (ae 1))))))),hm,F.kp,F.binds fun _ _ _ _ _ _ us hl=>match us,hl with | [_],_=>rfl⟩
abbrev yM:Stmt:=top 44
noncomputable abbrev pq:List Str:=["script","cell","word","found","name","ins","known","wire","rows","due"]
noncomputable def JM:{b:List Stmt // aQ yM=b}:=⟨_,by conv=>lhs;whnf⟩
noncomputable def xu:{b:Scope // aD yM=b}:=⟨_,by conv=>lhs;whnf⟩
theorem ny:bb pq ["script"] xu.1:=⟨rfl,rfl,rfl,by decide+kernel,rfl,by decide+kernel,by decide+kernel⟩
def vi:FZ:=(cz (me 2 (xP (aM e_ (ai (ag 1) (ai (eC (.int 1)) aJ))))) (cz (me 3 (xP (aM cI (ai (ag 2) aJ)))) (cz (tj (bP (AE (ya (tq (LN "bool" (ag 3)))) (b2 zu (ag 3) (aM hJ (ai (ag 2) aJ))))) (uH (xP (eC (.bl false)))) mK) (cz (me 4 (xP (e2 bO (e2 c9 (eNew (e8 (ai (eC (.str "a")) (ai (eC (.str "in")) (ai (eC (.str "vo")) (ai (eC (.str "abcdefg")) (ai (eC (.str "zz")) (ai (eC (.str "not")) aJ)))))))) (e2 cC (aM bB (ai (ag 1) (ai (eC (.int 30)) aJ))) (eC (.int 6)))) (eC (.str "x"))))) (cz (me 5 (xP (eNew (e8 (ai (ag 4) (ai (q8 (e2 bO (eC (.str "b")) (ag 4)) eB (dF (eC (.int 8)))) (ai (q8 (e2 bO (eC (.str "c")) (ag 4)) eB (dF (eC (.int 8)))) aJ))))))) (cz (me 6 (xP (eNew (e8 (ai (e2 c9 (ag 5) (eC (.int 0))) (ai (e2 bO (e2 c9 (ag 5) (eC (.int 1))) (eC (.str ":0"))) (ai (e2 bO (e2 c9 (ag 5) (eC (.int 1))) (eC (.str ":1"))) (ai (e2 bO (e2 c9 (ag 5) (eC (.int 2))) (eC (.str ":0"))) (ai (e2 bO (e2 c9 (ag 5) (eC (.int 2))) (eC (.str ":1"))) (ai (e2 bO (e2 c9 (ag 5) (eC (.int 2))) (eC (.str ":2"))) aJ)))))))))) (cz (me 7 (xP (aM jI (ai (ag 1) (ai (ag 4) aJ))))) (cz (me 8 (xP (eNew (e8 (ai (e2 bO (e2 bO (eC (.str "in ")) (e2 c9 (ag 5) (eC (.int 0)))) (eC (.str " 1"))) (ai (e2 bO (e2 bO (eC (.str "in ")) (e2 c9 (ag 5) (eC (.int 1)))) (eC (.str " 2"))) (ai (e2 bO (e2 bO (eC (.str "in ")) (e2 c9 (ag 5) (eC (.int 2)))) (eC (.str " 3"))) (ai (e2 bO (eC (.str "out o ")) (ag 7)) aJ)))))))) (cz (me 9 (xP (e2 c9 (eNew (e8 (ai (eC (.int 5)) (ai (eC (.int 1)) aJ)))) (aM zC (ai (Gv (aM jJ (ai (ag 7) aJ))) aJ))))) (tj (bP (b2 F0 (ag 7) (ag 6))) (cz (me 9 (xP (eNew (e8 (ai (qO (ai (eC (.str "o")) (ai (qO (ai (u_ "list" sQ (ag 6) (ai (ag 7) aJ)) aJ)) aJ))) aJ))))) (tj (Jm zu (qJ (Dm kC) (eU (aR (xP (u_ "str" mJ (eC (.str "\n")) (ai (ag 8) aJ))) dh))) (xP (qO (ai (eNew (e8 (ai (qO (ai (e2 c9 (ag 5) (eC (.int 0))) (ai (eC (.int 1)) aJ))) (ai (qO (ai (e2 c9 (ag 5) (eC (.int 1))) (ai (eC (.int 2)) aJ))) (ai (qO (ai (e2 c9 (ag 5) (eC (.int 2))) (ai (eC (.int 3)) aJ))) aJ))))) (ai (eNew (e8 aJ)) (ai (ag 9) aJ)))))) (uH (xP (eC (.bl false)))) mK)) (tj (Jm zu (qJ gm (aR (xP (u_ "str" mJ (eC (.str "\n")) (ai (ag 8) aJ))) dh)) (xP (eNew (kB (l_ (eC (.int 14))) (lY 0) wA (e2 pP (ag 0) (ag 1)) ["k"] [9])))) (uH (xP (eC (.bl false)))) mK)))))))))))
def sS:FZ:=(cz (vL (iP (oa (q8 (ag 0) eB (dF (eC (.int 63)))))) (GX 1) vi) (uH (xP (eC (.bl true)))))
def Ow:List V3->aG->R3 V3:=tm pq sS
def NM:List V3->aG->R3 V3:=xh pq sS
def yW:List D->R D:=M8 pq sS
structure Cf (K:W.Frag) (mg:Yd) (cl:Ye):Prop where
 C_Draft:w9 K (cl 0)
 N_Draft_ins:cX K (cl 0) "ins"
 N_Draft_gates:cX K (cl 0) "gates"
 N_Draft_outs:cX K (cl 0) "outs"
 N_Draft_names:cX K (cl 0) "names"
 N_Draft_out_names:cX K (cl 0) "out_names"
 N_Draft_numbers:cX K (cl 0) "numbers"
 M_Draft:mg "Draft"=some (.ref (cl 0))
 M_FaultError:mg "FaultError"=some (.ref (cl 1))
 M_TooLong:mg "TooLong"=some (.ref (cl 2))
 M_NoForm:mg "NoForm"=some (.ref (cl 3))
 M_NoPlace:mg "NoPlace"=some (.ref (cl 4))
 M_Twice:mg "Twice"=some (.ref (cl 5))
 M_Full:mg "Full"=some (.ref (cl 6))
 M_NoWire:mg "NoWire"=some (.ref (cl 7))
 M_Open:mg "Open"=some (.ref (cl 8))
 M_NotPlain:mg "NotPlain"=some (.ref (cl 9))
 M_NotThree:mg "NotThree"=some (.ref (cl 10))
 M_NotSound:mg "NotSound"=some (.ref (cl 11))
 M_NoFit:mg "NoFit"=some (.ref (cl 12))
 M_NoShape:mg "NoShape"=some (.ref (cl 13))
 M_NoneYet:mg "NoneYet"=some (.ref (cl 14))
 X_TooLong:XC K (cl 2)
 X_NoForm:XC K (cl 3)
 X_NoPlace:XC K (cl 4)
 X_Twice:XC K (cl 5)
 X_Full:XC K (cl 6)
 X_NoWire:XC K (cl 7)
 X_Open:XC K (cl 8)
 I_Open_Twice:PySem.W.kitOne K (.ref (cl 8)) (.ref (cl 5))=some false
 I_NoWire_Twice:PySem.W.kitOne K (.ref (cl 7)) (.ref (cl 5))=some false
 I_Full_Twice:PySem.W.kitOne K (.ref (cl 6)) (.ref (cl 5))=some false
 I_Twice_Twice:PySem.W.kitOne K (.ref (cl 5)) (.ref (cl 5))=some true
 I_NoPlace_Twice:PySem.W.kitOne K (.ref (cl 4)) (.ref (cl 5))=some false
 I_NoForm_Twice:PySem.W.kitOne K (.ref (cl 3)) (.ref (cl 5))=some false
 I_TooLong_Twice:PySem.W.kitOne K (.ref (cl 2)) (.ref (cl 5))=some false
 O_Twice:PySem.W.kitOne K (.type "NoneType") (.ref (cl 5))=some false
 I_Open_NoPlace:PySem.W.kitOne K (.ref (cl 8)) (.ref (cl 4))=some false
 I_NoWire_NoPlace:PySem.W.kitOne K (.ref (cl 7)) (.ref (cl 4))=some false
 I_Full_NoPlace:PySem.W.kitOne K (.ref (cl 6)) (.ref (cl 4))=some false
 I_Twice_NoPlace:PySem.W.kitOne K (.ref (cl 5)) (.ref (cl 4))=some false
 I_NoPlace_NoPlace:PySem.W.kitOne K (.ref (cl 4)) (.ref (cl 4))=some true
 I_NoForm_NoPlace:PySem.W.kitOne K (.ref (cl 3)) (.ref (cl 4))=some false
 I_TooLong_NoPlace:PySem.W.kitOne K (.ref (cl 2)) (.ref (cl 4))=some false
 O_NoPlace:PySem.W.kitOne K (.type "NoneType") (.ref (cl 4))=some false
 I_Open_NoForm:PySem.W.kitOne K (.ref (cl 8)) (.ref (cl 3))=some false
 I_NoWire_NoForm:PySem.W.kitOne K (.ref (cl 7)) (.ref (cl 3))=some false
 I_Full_NoForm:PySem.W.kitOne K (.ref (cl 6)) (.ref (cl 3))=some false
 I_Twice_NoForm:PySem.W.kitOne K (.ref (cl 5)) (.ref (cl 3))=some false
 I_NoPlace_NoForm:PySem.W.kitOne K (.ref (cl 4)) (.ref (cl 3))=some false
 I_NoForm_NoForm:PySem.W.kitOne K (.ref (cl 3)) (.ref (cl 3))=some true
 I_TooLong_NoForm:PySem.W.kitOne K (.ref (cl 2)) (.ref (cl 3))=some false
 O_NoForm:PySem.W.kitOne K (.type "NoneType") (.ref (cl 3))=some false
 I_Open_TooLong:PySem.W.kitOne K (.ref (cl 8)) (.ref (cl 2))=some false
 I_NoWire_TooLong:PySem.W.kitOne K (.ref (cl 7)) (.ref (cl 2))=some false
 I_Full_TooLong:PySem.W.kitOne K (.ref (cl 6)) (.ref (cl 2))=some false
 I_Twice_TooLong:PySem.W.kitOne K (.ref (cl 5)) (.ref (cl 2))=some false
 I_NoPlace_TooLong:PySem.W.kitOne K (.ref (cl 4)) (.ref (cl 2))=some false
 I_NoForm_TooLong:PySem.W.kitOne K (.ref (cl 3)) (.ref (cl 2))=some false
 I_TooLong_TooLong:PySem.W.kitOne K (.ref (cl 2)) (.ref (cl 2))=some true
 O_TooLong:PySem.W.kitOne K (.type "NoneType") (.ref (cl 2))=some false
 I_Open_NotPlain:PySem.W.kitOne K (.ref (cl 8)) (.ref (cl 9))=some false
 I_NoWire_NotPlain:PySem.W.kitOne K (.ref (cl 7)) (.ref (cl 9))=some false
 I_Full_NotPlain:PySem.W.kitOne K (.ref (cl 6)) (.ref (cl 9))=some false
 I_Twice_NotPlain:PySem.W.kitOne K (.ref (cl 5)) (.ref (cl 9))=some false
 I_NoPlace_NotPlain:PySem.W.kitOne K (.ref (cl 4)) (.ref (cl 9))=some false
 I_NoForm_NotPlain:PySem.W.kitOne K (.ref (cl 3)) (.ref (cl 9))=some false
 I_TooLong_NotPlain:PySem.W.kitOne K (.ref (cl 2)) (.ref (cl 9))=some false
 O_NotPlain:PySem.W.kitOne K (.type "NoneType") (.ref (cl 9))=some false
 I_Open_Open:PySem.W.kitOne K (.ref (cl 8)) (.ref (cl 8))=some true
 I_NoWire_Open:PySem.W.kitOne K (.ref (cl 7)) (.ref (cl 8))=some false
 I_Full_Open:PySem.W.kitOne K (.ref (cl 6)) (.ref (cl 8))=some false
 I_Twice_Open:PySem.W.kitOne K (.ref (cl 5)) (.ref (cl 8))=some false
 I_NoPlace_Open:PySem.W.kitOne K (.ref (cl 4)) (.ref (cl 8))=some false
 I_NoForm_Open:PySem.W.kitOne K (.ref (cl 3)) (.ref (cl 8))=some false
 I_TooLong_Open:PySem.W.kitOne K (.ref (cl 2)) (.ref (cl 8))=some false
 O_Open:PySem.W.kitOne K (.type "NoneType") (.ref (cl 8))=some false
 I_Open_NoWire:PySem.W.kitOne K (.ref (cl 8)) (.ref (cl 7))=some false
 I_NoWire_NoWire:PySem.W.kitOne K (.ref (cl 7)) (.ref (cl 7))=some true
 I_Full_NoWire:PySem.W.kitOne K (.ref (cl 6)) (.ref (cl 7))=some false
 I_Twice_NoWire:PySem.W.kitOne K (.ref (cl 5)) (.ref (cl 7))=some false
 I_NoPlace_NoWire:PySem.W.kitOne K (.ref (cl 4)) (.ref (cl 7))=some false
 I_NoForm_NoWire:PySem.W.kitOne K (.ref (cl 3)) (.ref (cl 7))=some false
 I_TooLong_NoWire:PySem.W.kitOne K (.ref (cl 2)) (.ref (cl 7))=some false
 O_NoWire:PySem.W.kitOne K (.type "NoneType") (.ref (cl 7))=some false
 I_Open_Full:PySem.W.kitOne K (.ref (cl 8)) (.ref (cl 6))=some false
 I_NoWire_Full:PySem.W.kitOne K (.ref (cl 7)) (.ref (cl 6))=some false
 I_Full_Full:PySem.W.kitOne K (.ref (cl 6)) (.ref (cl 6))=some true
 I_Twice_Full:PySem.W.kitOne K (.ref (cl 5)) (.ref (cl 6))=some false
 I_NoPlace_Full:PySem.W.kitOne K (.ref (cl 4)) (.ref (cl 6))=some false
 I_NoForm_Full:PySem.W.kitOne K (.ref (cl 3)) (.ref (cl 6))=some false
 I_TooLong_Full:PySem.W.kitOne K (.ref (cl 2)) (.ref (cl 6))=some false
 O_Full:PySem.W.kitOne K (.type "NoneType") (.ref (cl 6))=some false
 I_Open_NoShape:PySem.W.kitOne K (.ref (cl 8)) (.ref (cl 13))=some false
 I_NoWire_NoShape:PySem.W.kitOne K (.ref (cl 7)) (.ref (cl 13))=some false
 I_Full_NoShape:PySem.W.kitOne K (.ref (cl 6)) (.ref (cl 13))=some false
 I_Twice_NoShape:PySem.W.kitOne K (.ref (cl 5)) (.ref (cl 13))=some false
 I_NoPlace_NoShape:PySem.W.kitOne K (.ref (cl 4)) (.ref (cl 13))=some false
 I_NoForm_NoShape:PySem.W.kitOne K (.ref (cl 3)) (.ref (cl 13))=some false
 I_TooLong_NoShape:PySem.W.kitOne K (.ref (cl 2)) (.ref (cl 13))=some false
 O_NoShape:PySem.W.kitOne K (.type "NoneType") (.ref (cl 13))=some false
 I_Open_NoFit:PySem.W.kitOne K (.ref (cl 8)) (.ref (cl 12))=some false
 I_NoWire_NoFit:PySem.W.kitOne K (.ref (cl 7)) (.ref (cl 12))=some false
 I_Full_NoFit:PySem.W.kitOne K (.ref (cl 6)) (.ref (cl 12))=some false
 I_Twice_NoFit:PySem.W.kitOne K (.ref (cl 5)) (.ref (cl 12))=some false
 I_NoPlace_NoFit:PySem.W.kitOne K (.ref (cl 4)) (.ref (cl 12))=some false
 I_NoForm_NoFit:PySem.W.kitOne K (.ref (cl 3)) (.ref (cl 12))=some false
 I_TooLong_NoFit:PySem.W.kitOne K (.ref (cl 2)) (.ref (cl 12))=some false
 O_NoFit:PySem.W.kitOne K (.type "NoneType") (.ref (cl 12))=some false
 I_Open_NotSound:PySem.W.kitOne K (.ref (cl 8)) (.ref (cl 11))=some false
 I_NoWire_NotSound:PySem.W.kitOne K (.ref (cl 7)) (.ref (cl 11))=some false
 I_Full_NotSound:PySem.W.kitOne K (.ref (cl 6)) (.ref (cl 11))=some false
 I_Twice_NotSound:PySem.W.kitOne K (.ref (cl 5)) (.ref (cl 11))=some false
 I_NoPlace_NotSound:PySem.W.kitOne K (.ref (cl 4)) (.ref (cl 11))=some false
 I_NoForm_NotSound:PySem.W.kitOne K (.ref (cl 3)) (.ref (cl 11))=some false
 I_TooLong_NotSound:PySem.W.kitOne K (.ref (cl 2)) (.ref (cl 11))=some false
 O_NotSound:PySem.W.kitOne K (.type "NoneType") (.ref (cl 11))=some false
 I_Open_NotThree:PySem.W.kitOne K (.ref (cl 8)) (.ref (cl 10))=some false
 I_NoWire_NotThree:PySem.W.kitOne K (.ref (cl 7)) (.ref (cl 10))=some false
 I_Full_NotThree:PySem.W.kitOne K (.ref (cl 6)) (.ref (cl 10))=some false
 I_Twice_NotThree:PySem.W.kitOne K (.ref (cl 5)) (.ref (cl 10))=some false
 I_NoPlace_NotThree:PySem.W.kitOne K (.ref (cl 4)) (.ref (cl 10))=some false
 I_NoForm_NotThree:PySem.W.kitOne K (.ref (cl 3)) (.ref (cl 10))=some false
 I_TooLong_NotThree:PySem.W.kitOne K (.ref (cl 2)) (.ref (cl 10))=some false
 O_NotThree:PySem.W.kitOne K (.type "NoneType") (.ref (cl 10))=some false
 I_Open_ValueError:PySem.W.kitOne K (.ref (cl 8)) (.type "ValueError")=some true
 I_NoWire_ValueError:PySem.W.kitOne K (.ref (cl 7)) (.type "ValueError")=some true
 I_Full_ValueError:PySem.W.kitOne K (.ref (cl 6)) (.type "ValueError")=some true
 I_Twice_ValueError:PySem.W.kitOne K (.ref (cl 5)) (.type "ValueError")=some true
 I_NoPlace_ValueError:PySem.W.kitOne K (.ref (cl 4)) (.type "ValueError")=some true
 I_NoForm_ValueError:PySem.W.kitOne K (.ref (cl 3)) (.type "ValueError")=some true
 I_TooLong_ValueError:PySem.W.kitOne K (.ref (cl 2)) (.type "ValueError")=some true
 O_ValueError:PySem.W.kitOne K (.type "NoneType") (.type "ValueError")=some false
 I_Open_NoneYet:PySem.W.kitOne K (.ref (cl 8)) (.ref (cl 14))=some false
 I_NoWire_NoneYet:PySem.W.kitOne K (.ref (cl 7)) (.ref (cl 14))=some false
 I_Full_NoneYet:PySem.W.kitOne K (.ref (cl 6)) (.ref (cl 14))=some false
 I_Twice_NoneYet:PySem.W.kitOne K (.ref (cl 5)) (.ref (cl 14))=some false
 I_NoPlace_NoneYet:PySem.W.kitOne K (.ref (cl 4)) (.ref (cl 14))=some false
 I_NoForm_NoneYet:PySem.W.kitOne K (.ref (cl 3)) (.ref (cl 14))=some false
 I_TooLong_NoneYet:PySem.W.kitOne K (.ref (cl 2)) (.ref (cl 14))=some false
 O_NoneYet:PySem.W.kitOne K (.type "NoneType") (.ref (cl 14))=some false
 E_Open_FaultError:PySem.W.exmOne K (.ref (cl 8)) (.ref (cl 1))=some true
 E_NoWire_FaultError:PySem.W.exmOne K (.ref (cl 7)) (.ref (cl 1))=some true
 E_Full_FaultError:PySem.W.exmOne K (.ref (cl 6)) (.ref (cl 1))=some true
 E_Twice_FaultError:PySem.W.exmOne K (.ref (cl 5)) (.ref (cl 1))=some true
 E_NoPlace_FaultError:PySem.W.exmOne K (.ref (cl 4)) (.ref (cl 1))=some true
 E_NoForm_FaultError:PySem.W.exmOne K (.ref (cl 3)) (.ref (cl 1))=some true
 E_TooLong_FaultError:PySem.W.exmOne K (.ref (cl 2)) (.ref (cl 1))=some true
 ef:qS K (cl 0) "add_in" "Draft.add_in" bY
 b_:qS K (cl 0) "wire_numbers" "Draft.wire_numbers" aU
 dg:qS K (cl 0) "add_gate" "Draft.add_gate" bt
 dt:qS K (cl 0) "add_out" "Draft.add_out" bL
 df:IK K (cl 0) "__init__" "Draft.__init__" bw
theorem Mh{K:W.Frag}{h:Heap}{mg:Yd}(X:K.In h)(G:h.Ns mainGlobals mg){C0:Addr}{C1:Addr}{C2:Addr}{C3:Addr}{C4:Addr}{C5:Addr}{C6:Addr}{C7:Addr}{C8:Addr}{C9:Addr}{Ek:Addr}{Em:Addr}{Es:Addr}{Ej:Addr}{Ep:Addr}{f0:Addr}{VR VL:Option Addr}{VT:Array (Option Value)}{WK Wx Wm VE SM WI:Value}{f1:Addr}{VO Wr:Option Addr}{V1:Array (Option Value)}{VS Ws V_ VX SJ WN:Value}{f2:Addr}{Wg Wh:Option Addr}{Qe:Array (Option Value)}{Wb V0 WC Wq SK WO:Value}{f3:Addr}{WJ VA:Option Addr}{J_:Array (Option Value)}{V4 WD VG VW Sw V8:Value}{f4:Addr}{Wt Wz:Option Addr}{Wi:Array (Option Value)}{V6 VU V5 Wy SE VP:Value}(QS:PySem.W.nsIn K mainGlobals "Draft"=some (some (.ref C0)))(Pf:PySem.W.plainGet K C0 Str.empty=true)(P1:PySem.W.hasDictIn K C0=true)(Qi:PySem.W.plainOver K C0=true)(Pb:PySem.W.findIn K (.ref C0) "__setattr__"=some (some (.builtin "object.__setattr__")))(QF:PySem.W.makesIn K C0=true)(P6:PySem.W.keepIn K (.ref C0)=true)(yD:PySem.W.findIn K (.ref C0) "ins"=some none)(sU:PySem.W.findIn K (.ref C0) "gates"=some none)(vw:PySem.W.findIn K (.ref C0) "outs"=some none)(sZ:PySem.W.findIn K (.ref C0) "names"=some none)(mv:PySem.W.findIn K (.ref C0) "out_names"=some none)(o3:PySem.W.findIn K (.ref C0) "numbers"=some none)(QI:PySem.W.nsIn K mainGlobals "FaultError"=some (some (.ref C1)))(Qu:PySem.W.nsIn K mainGlobals "TooLong"=some (some (.ref C2)))(Qf:PySem.W.nsIn K mainGlobals "NoForm"=some (some (.ref C3)))(PU:PySem.W.nsIn K mainGlobals "NoPlace"=some (some (.ref C4)))(QE:PySem.W.nsIn K mainGlobals "Twice"=some (some (.ref C5)))(O5:PySem.W.nsIn K mainGlobals "Full"=some (some (.ref C6)))(Qp:PySem.W.nsIn K mainGlobals "NoWire"=some (some (.ref C7)))(P8:PySem.W.nsIn K mainGlobals "Open"=some (some (.ref C8)))(Px:PySem.W.nsIn K mainGlobals "NotPlain"=some (some (.ref C9)))(J2:PySem.W.nsIn K mainGlobals "NotThree"=some (some (.ref Ek)))(J1:PySem.W.nsIn K mainGlobals "NotSound"=some (some (.ref Em)))(JX:PySem.W.nsIn K mainGlobals "NoFit"=some (some (.ref Es)))(Ka:PySem.W.nsIn K mainGlobals "NoShape"=some (some (.ref Ej)))(JY:PySem.W.nsIn K mainGlobals "NoneYet"=some (some (.ref Ep)))(Qx:PySem.W.excIn K C2 Cn "ValueError.__new__"=true)(Qs:PySem.W.findIn K (.ref C2) "__getattribute__"=some (some (.builtin "BaseException.__getattribute__")))(Pl:PySem.W.findIn K (.ref C2) "__getattr__"=some none)(P9:PySem.W.findIn K (.ref C2) "__class__"=some (some (.builtin "object.__class__")))(Po:PySem.W.mroIn K C2 (.type "object")=some true)(P0:PySem.W.mroIn K C2 (.type "BaseException")=some true)(Qk:(PySem.W.clsIn K C2).isSome=true)(QH:PySem.W.excIn K C3 Cn "ValueError.__new__"=true)(K9:PySem.W.findIn K (.ref C3) "__getattribute__"=some (some (.builtin "BaseException.__getattribute__")))(P5:PySem.W.findIn K (.ref C3) "__getattr__"=some none)(Qb:PySem.W.findIn K (.ref C3) "__class__"=some (some (.builtin "object.__class__")))(Qg:PySem.W.mroIn K C3 (.type "object")=some true)(Qa:PySem.W.mroIn K C3 (.type "BaseException")=some true)(QM:(PySem.W.clsIn K C3).isSome=true)(Qy:PySem.W.excIn K C4 Cn "ValueError.__new__"=true)(Pq:PySem.W.findIn K (.ref C4) "__getattribute__"=some (some (.builtin "BaseException.__getattribute__")))(Qm:PySem.W.findIn K (.ref C4) "__getattr__"=some none)(PL:PySem.W.findIn K (.ref C4) "__class__"=some (some (.builtin "object.__class__")))(O8:PySem.W.mroIn K C4 (.type "object")=some true)(P2:PySem.W.mroIn K C4 (.type "BaseException")=some true)(Qo:(PySem.W.clsIn K C4).isSome=true)(PQ:PySem.W.excIn K C5 Cn "ValueError.__new__"=true)(P4:PySem.W.findIn K (.ref C5) "__getattribute__"=some (some (.builtin "BaseException.__getattribute__")))(O7:PySem.W.findIn K (.ref C5) "__getattr__"=some none)(Pk:PySem.W.findIn K (.ref C5) "__class__"=some (some (.builtin "object.__class__")))(Qd:PySem.W.mroIn K C5 (.type "object")=some true)(Pr:PySem.W.mroIn K C5 (.type "BaseException")=some true)(Qz:(PySem.W.clsIn K C5).isSome=true)(QT:PySem.W.excIn K C6 Cn "ValueError.__new__"=true)(QC:PySem.W.findIn K (.ref C6) "__getattribute__"=some (some (.builtin "BaseException.__getattribute__")))(Qq:PySem.W.findIn K (.ref C6) "__getattr__"=some none)(P7:PySem.W.findIn K (.ref C6) "__class__"=some (some (.builtin "object.__class__")))(O3:PySem.W.mroIn K C6 (.type "object")=some true)(Pd:PySem.W.mroIn K C6 (.type "BaseException")=some true)(Pg:(PySem.W.clsIn K C6).isSome=true)(PH:PySem.W.excIn K C7 Cn "ValueError.__new__"=true)(Pz:PySem.W.findIn K (.ref C7) "__getattribute__"=some (some (.builtin "BaseException.__getattribute__")))(PM:PySem.W.findIn K (.ref C7) "__getattr__"=some none)(P_:PySem.W.findIn K (.ref C7) "__class__"=some (some (.builtin "object.__class__")))(O9:PySem.W.mroIn K C7 (.type "object")=some true)(Qc:PySem.W.mroIn K C7 (.type "BaseException")=some true)(Py:(PySem.W.clsIn K C7).isSome=true)(Qh:PySem.W.excIn K C8 Cn "ValueError.__new__"=true)(QL:PySem.W.findIn K (.ref C8) "__getattribute__"=some (some (.builtin "BaseException.__getattribute__")))(O_:PySem.W.findIn K (.ref C8) "__getattr__"=some none)(Pn:PySem.W.findIn K (.ref C8) "__class__"=some (some (.builtin "object.__class__")))(Qr:PySem.W.mroIn K C8 (.type "object")=some true)(Pc:PySem.W.mroIn K C8 (.type "BaseException")=some true)(QQ:(PySem.W.clsIn K C8).isSome=true)(GF:PySem.W.specialIn K (.builtin "object.__class__") "__get__"=some (some (.builtin "getset_descriptor.__get__")))(GC:PySem.W.takesIn K (.builtin "object.__class__")=some true)(kU:PySem.W.kitOne K (.ref C8) (.ref C5)=some false)(jf:PySem.W.kitOne K (.ref C7) (.ref C5)=some false)(lj:PySem.W.kitOne K (.ref C6) (.ref C5)=some false)(j6:PySem.W.kitOne K (.ref C5) (.ref C5)=some true)(ig:PySem.W.kitOne K (.ref C4) (.ref C5)=some false)(jz:PySem.W.kitOne K (.ref C3) (.ref C5)=some false)(h_:PySem.W.kitOne K (.ref C2) (.ref C5)=some false)(tf:PySem.W.kitOne K (.type "NoneType") (.ref C5)=some false)(ji:PySem.W.kitOne K (.ref C8) (.ref C4)=some false)(gC:PySem.W.kitOne K (.ref C7) (.ref C4)=some false)(jd:PySem.W.kitOne K (.ref C6) (.ref C4)=some false)(ip:PySem.W.kitOne K (.ref C5) (.ref C4)=some false)(fN:PySem.W.kitOne K (.ref C4) (.ref C4)=some true)(gO:PySem.W.kitOne K (.ref C3) (.ref C4)=some false)(ft:PySem.W.kitOne K (.ref C2) (.ref C4)=some false)(o5:PySem.W.kitOne K (.type "NoneType") (.ref C4)=some false)(kr:PySem.W.kitOne K (.ref C8) (.ref C3)=some false)(iC:PySem.W.kitOne K (.ref C7) (.ref C3)=some false)(kf:PySem.W.kitOne K (.ref C6) (.ref C3)=some false)(jg:PySem.W.kitOne K (.ref C5) (.ref C3)=some false)(gM:PySem.W.kitOne K (.ref C4) (.ref C3)=some false)(ia:PySem.W.kitOne K (.ref C3) (.ref C3)=some true)(gr:PySem.W.kitOne K (.ref C2) (.ref C3)=some false)(qB:PySem.W.kitOne K (.type "NoneType") (.ref C3)=some false)(jl:PySem.W.kitOne K (.ref C8) (.ref C2)=some false)(gP:PySem.W.kitOne K (.ref C7) (.ref C2)=some false)(jx:PySem.W.kitOne K (.ref C6) (.ref C2)=some false)(iG:PySem.W.kitOne K (.ref C5) (.ref C2)=some false)(fA:PySem.W.kitOne K (.ref C4) (.ref C2)=some false)(gu:PySem.W.kitOne K (.ref C3) (.ref C2)=some false)(fF:PySem.W.kitOne K (.ref C2) (.ref C2)=some true)(oW:PySem.W.kitOne K (.type "NoneType") (.ref C2)=some false)(ij:PySem.W.kitOne K (.ref C8) (.ref C9)=some false)(fv:PySem.W.kitOne K (.ref C7) (.ref C9)=some false)(iI:PySem.W.kitOne K (.ref C6) (.ref C9)=some false)(gy:PySem.W.kitOne K (.ref C5) (.ref C9)=some false)(eO:PySem.W.kitOne K (.ref C4) (.ref C9)=some false)(fD:PySem.W.kitOne K (.ref C3) (.ref C9)=some false)(eJ:PySem.W.kitOne K (.ref C2) (.ref C9)=some false)(nF:PySem.W.kitOne K (.type "NoneType") (.ref C9)=some false)(mw:PySem.W.kitOne K (.ref C8) (.ref C8)=some true)(j8:PySem.W.kitOne K (.ref C7) (.ref C8)=some false)(mf:PySem.W.kitOne K (.ref C6) (.ref C8)=some false)(kY:PySem.W.kitOne K (.ref C5) (.ref C8)=some false)(jw:PySem.W.kitOne K (.ref C4) (.ref C8)=some false)(kc:PySem.W.kitOne K (.ref C3) (.ref C8)=some false)(jB:PySem.W.kitOne K (.ref C2) (.ref C8)=some false)(vt:PySem.W.kitOne K (.type "NoneType") (.ref C8)=some false)(kq:PySem.W.kitOne K (.ref C8) (.ref C7)=some false)(iz:PySem.W.kitOne K (.ref C7) (.ref C7)=some true)(j7:PySem.W.kitOne K (.ref C6) (.ref C7)=some false)(jA:PySem.W.kitOne K (.ref C5) (.ref C7)=some false)(gA:PySem.W.kitOne K (.ref C4) (.ref C7)=some false)(iA:PySem.W.kitOne K (.ref C3) (.ref C7)=some false)(gR:PySem.W.kitOne K (.ref C2) (.ref C7)=some false)(qx:PySem.W.kitOne K (.type "NoneType") (.ref C7)=some false)(mh:PySem.W.kitOne K (.ref C8) (.ref C6)=some false)(ka:PySem.W.kitOne K (.ref C7) (.ref C6)=some false)(mn:PySem.W.kitOne K (.ref C6) (.ref C6)=some true)(kR:PySem.W.kitOne K (.ref C5) (.ref C6)=some false)(je:PySem.W.kitOne K (.ref C4) (.ref C6)=some false)(ki:PySem.W.kitOne K (.ref C3) (.ref C6)=some false)(jr:PySem.W.kitOne K (.ref C2) (.ref C6)=some false)(vq:PySem.W.kitOne K (.type "NoneType") (.ref C6)=some false)(js:PySem.W.kitOne K (.ref C8) (.ref Ej)=some false)(gx:PySem.W.kitOne K (.ref C7) (.ref Ej)=some false)(jh:PySem.W.kitOne K (.ref C6) (.ref Ej)=some false)(iH:PySem.W.kitOne K (.ref C5) (.ref Ej)=some false)(fw:PySem.W.kitOne K (.ref C4) (.ref Ej)=some false)(gS:PySem.W.kitOne K (.ref C3) (.ref Ej)=some false)(fM:PySem.W.kitOne K (.ref C2) (.ref Ej)=some false)(oX:PySem.W.kitOne K (.type "NoneType") (.ref Ej)=some false)(lh:PySem.W.kitOne K (.ref C8) (.ref Es)=some false)(jt:PySem.W.kitOne K (.ref C7) (.ref Es)=some false)(kZ:PySem.W.kitOne K (.ref C6) (.ref Es)=some false)(j_:PySem.W.kitOne K (.ref C5) (.ref Es)=some false)(iJ:PySem.W.kitOne K (.ref C4) (.ref Es)=some false)(jm:PySem.W.kitOne K (.ref C3) (.ref Es)=some false)(iL:PySem.W.kitOne K (.ref C2) (.ref Es)=some false)(s_:PySem.W.kitOne K (.type "NoneType") (.ref Es)=some false)(ie:PySem.W.kitOne K (.ref C8) (.ref Em)=some false)(fH:PySem.W.kitOne K (.ref C7) (.ref Em)=some false)(iM:PySem.W.kitOne K (.ref C6) (.ref Em)=some false)(gI:PySem.W.kitOne K (.ref C5) (.ref Em)=some false)(eI:PySem.W.kitOne K (.ref C4) (.ref Em)=some false)(fu:PySem.W.kitOne K (.ref C3) (.ref Em)=some false)(eG:PySem.W.kitOne K (.ref C2) (.ref Em)=some false)(nG:PySem.W.kitOne K (.type "NoneType") (.ref Em)=some false)(iB:PySem.W.kitOne K (.ref C8) (.ref Ek)=some false)(fK:PySem.W.kitOne K (.ref C7) (.ref Ek)=some false)(iK:PySem.W.kitOne K (.ref C6) (.ref Ek)=some false)(gQ:PySem.W.kitOne K (.ref C5) (.ref Ek)=some false)(eK:PySem.W.kitOne K (.ref C4) (.ref Ek)=some false)(fq:PySem.W.kitOne K (.ref C3) (.ref Ek)=some false)(eM:PySem.W.kitOne K (.ref C2) (.ref Ek)=some false)(nJ:PySem.W.kitOne K (.type "NoneType") (.ref Ek)=some false)(fB:PySem.W.kitOne K (.ref C8) (.type "ValueError")=some true)(d9:PySem.W.kitOne K (.ref C7) (.type "ValueError")=some true)(fE:PySem.W.kitOne K (.ref C6) (.type "ValueError")=some true)(eL:PySem.W.kitOne K (.ref C5) (.type "ValueError")=some true)(dz:PySem.W.kitOne K (.ref C4) (.type "ValueError")=some true)(d_:PySem.W.kitOne K (.ref C3) (.type "ValueError")=some true)(dD:PySem.W.kitOne K (.ref C2) (.type "ValueError")=some true)(kW:PySem.W.kitOne K (.type "NoneType") (.type "ValueError")=some false)(ju:PySem.W.kitOne K (.ref C8) (.ref Ep)=some false)(gG:PySem.W.kitOne K (.ref C7) (.ref Ep)=some false)(jq:PySem.W.kitOne K (.ref C6) (.ref Ep)=some false)(iE:PySem.W.kitOne K (.ref C5) (.ref Ep)=some false)(fG:PySem.W.kitOne K (.ref C4) (.ref Ep)=some false)(gz:PySem.W.kitOne K (.ref C3) (.ref Ep)=some false)(fJ:PySem.W.kitOne K (.ref C2) (.ref Ep)=some false)(oS:PySem.W.kitOne K (.type "NoneType") (.ref Ep)=some false)(fL:PySem.W.exmOne K (.ref C8) (.ref C1)=some true)(d7:PySem.W.exmOne K (.ref C7) (.ref C1)=some true)(fI:PySem.W.exmOne K (.ref C6) (.ref C1)=some true)(eN:PySem.W.exmOne K (.ref C5) (.ref C1)=some true)(dA:PySem.W.exmOne K (.ref C4) (.ref C1)=some true)(eg:PySem.W.exmOne K (.ref C3) (.ref C1)=some true)(dC:PySem.W.exmOne K (.ref C2) (.ref C1)=some true)(km:PySem.W.findIn K (.ref C0) "add_in"=some (some (.ref f0)))(kg:PySem.W.isFn K (.ref f0)=true)(ku:K.lookup f0=some ⟨WK,VR, .func (PySem.W.fnOf "add_in" "Draft.add_in" (iQ bY) (aQ bY) (aD bY) .none Wx Wm VE VL SM WI),VT⟩)(dX:PySem.W.codeIn K SM "Draft.add_in"=true)(gE:PySem.W.keepIn K (.ref f0)=true)(d8:PySem.W.findIn K (.ref C0) "wire_numbers"=some (some (.ref f1)))(ee:PySem.W.isFn K (.ref f1)=true)(d6:K.lookup f1=some ⟨VS,VO, .func (PySem.W.fnOf "wire_numbers" "Draft.wire_numbers" (iQ aU) (aQ aU) (aD aU) .none Ws V_ VX Wr SJ WN),V1⟩)(b8:PySem.W.codeIn K SJ "Draft.wire_numbers"=true)(cT:PySem.W.keepIn K (.ref f1)=true)(iu:PySem.W.findIn K (.ref C0) "add_gate"=some (some (.ref f2)))(iO:PySem.W.isFn K (.ref f2)=true)(ib:K.lookup f2=some ⟨Wb,Wg, .func (PySem.W.fnOf "add_gate" "Draft.add_gate" (iQ bt) (aQ bt) (aD bt) .none V0 WC Wq Wh SK WO),Qe⟩)(c6:PySem.W.codeIn K SK "Draft.add_gate"=true)(eu:PySem.W.keepIn K (.ref f2)=true)(jj:PySem.W.findIn K (.ref C0) "add_out"=some (some (.ref f3)))(jy:PySem.W.isFn K (.ref f3)=true)(jk:K.lookup f3=some ⟨V4,WJ, .func (PySem.W.fnOf "add_out" "Draft.add_out" (iQ bL) (aQ bL) (aD bL) .none WD VG VW VA Sw V8),J_⟩)(dq:PySem.W.codeIn K Sw "Draft.add_out"=true)(e7:PySem.W.keepIn K (.ref f3)=true)(hX:PySem.W.findIn K (.ref C0) "__init__"=some (some (.ref f4)))(hZ:PySem.W.isFn K (.ref f4)=true)(hW:K.lookup f4=some ⟨V6,Wt, .func (PySem.W.fnOf "__init__" "Draft.__init__" (iQ bw) (aQ bw) (aD bw) .none VU V5 Wy Wz SE VP),Wi⟩)(dc:PySem.W.codeIn K SE "Draft.__init__"=true)(iq:PySem.W.keepIn K (.ref f4)=true):∃cl,Cf K mg cl:=by
 exact⟨fun n=>if n=0 then C0 else if n=1 then C1 else if n=2 then C2 else if n=3 then C3 else if n=4 then C4 else if n=5 then C5 else if n=6 then C6 else if n=7 then C7 else if n=8 then C8 else if n=9 then C9 else if n=10 then Ek else if n=11 then Em else if n=12 then Es else if n=13 then Ej else Ep,⟨Pf,P1,Qi,Pb⟩,yD,sU,vw,sZ,mv,o3,PySem.W.mg_of X G QS,PySem.W.mg_of X G QI,PySem.W.mg_of X G Qu,PySem.W.mg_of X G Qf,PySem.W.mg_of X G PU,PySem.W.mg_of X G QE,PySem.W.mg_of X G O5,PySem.W.mg_of X G Qp,PySem.W.mg_of X G P8,PySem.W.mg_of X G Px,PySem.W.mg_of X G J2,PySem.W.mg_of X G J1,PySem.W.mg_of X G JX,PySem.W.mg_of X G Ka,PySem.W.mg_of X G JY,⟨Qx,Qs,Pl,P9,GF,GC,Po,P0,Qk⟩,⟨QH,K9,P5,Qb,GF,GC,Qg,Qa,QM⟩,⟨Qy,Pq,Qm,PL,GF,GC,O8,P2,Qo⟩,⟨PQ,P4,O7,Pk,GF,GC,Qd,Pr,Qz⟩,⟨QT,QC,Qq,P7,GF,GC,O3,Pd,Pg⟩,⟨PH,Pz,PM,P_,GF,GC,O9,Qc,Py⟩,⟨Qh,QL,O_,Pn,GF,GC,Qr,Pc,QQ⟩,kU,jf,lj,j6,ig,jz,h_,tf,ji,gC,jd,ip,fN,gO,ft,o5,kr,iC,kf,jg,gM,ia,gr,qB,jl,gP,jx,iG,fA,gu,fF,oW,ij,fv,iI,gy,eO,fD,eJ,nF,mw,j8,mf,kY,jw,kc,jB,vt,kq,iz,j7,jA,gA,iA,gR,qx,mh,ka,mn,kR,je,ki,jr,vq,js,gx,jh,iH,fw,gS,fM,oX,lh,jt,kZ,j_,iJ,jm,iL,s_,ie,fH,iM,gI,eI,fu,eG,nG,iB,fK,iK,gQ,eK,fq,eM,nJ,fB,d9,fE,eL,dz,d_,dD,kW,ju,gG,jq,iE,fG,gz,fJ,oS,fL,d7,fI,eN,dA,eg,dC,⟨_,_,qd (st:=bY) ku dX gE,⟨km,kg,gE⟩⟩,⟨_,_,qd (st:=aU) d6 b8 cT,⟨d8,ee,cT⟩⟩,⟨_,_,qd (st:=bt) ib c6 eu,⟨iu,iO,eu⟩⟩,⟨_,_,qd (st:=bL) jk dq e7,⟨jj,jy,e7⟩⟩,⟨_,_,qd (st:=bw) hW dc iq,⟨QF,hX,hZ,P6⟩⟩⟩
theorem JP{K:W.Frag}{mg:Yd}{f:Addr}{fd:FuncData}{cl:Ye}(T:Tp P w K mg cl)(qA:Def K mg "is_name" lr)(oU:Def K mg "in_wires" jU)(ko:Def K mg "is_wire_form" dW)(ik:Def K mg "are_wire_forms" c7)(mr:Def K mg "is_in_form" gd)(kh:Def K mg "is_gate_form" dN)(kT:Def K mg "is_out_form" eQ)(ef:qS K (cl 0) "add_in" "Draft.add_in" bY)(b_:qS K (cl 0) "wire_numbers" "Draft.wire_numbers" aU)(dg:qS K (cl 0) "add_gate" "Draft.add_gate" bt)(dt:qS K (cl 0) "add_out" "Draft.add_out" bL)(o8:Def K mg "read_row" j0)(df:IK K (cl 0) "__init__" "Draft.__init__" bw)(yB:Def K mg "read" sd)(o4:Def K mg "_law_stir" jQ)(oT:Def K mg "_law_word" jN)(oZ:Def K mg "_law_good" jH)(oY:Def K mg "_law_wire" jX)(oV:Def K mg "_law_form" jV)(kP:Def K mg "_law_refused" eS)(F:xl K "law" "law" yM f fd):iT P w K mg base t_ 8 f fd ["script"] (EZ K 1 yW):=by
 have cA:=Am (P:=P) (w:=w) (base:=base) T qA;have o7:=xt (P:=P) (w:=w) (base:=base) T oU;have kj:=rO (P:=P) (w:=w) (base:=base) T ko cA;have cB:=qa (P:=P) (w:=w) (base:=base) T ik kj;have my:=uQ (P:=P) (w:=w) (base:=base) T mr cA;have ke:=rX (P:=P) (w:=w) (base:=base) T kh cA cB;have k_:=tI (P:=P) (w:=w) (base:=base) T kT cA cB;have jv:kA P w K mg base cl 2 0 "add_in" 2 cJ:=dX T ef o7;have bG:kA P w K mg base cl 1 0 "wire_numbers" 1 aX:=b8 T b_;have gL:kA P w K mg base cl 2 0 "add_gate" 4 cf:=c6 T dg bG;have iF:kA P w K mg base cl 2 0 "add_out" 2 cy:=dq T dt bG;have nH:eo P w K mg base cl 5 "read_row" 2 fO:=xM T o8 my ke k_ jv gL iF;have gH:=dc (P:=P) (w:=w) (base:=base) T df;have rn:eo P w K mg base cl 6 "read" 1 kC:=Jv T yB gH nH;have cF:=xO (P:=P) (w:=w) (base:=base) T o4;have mq:=yz (P:=P) (w:=w) (base:=base) T oT cF;have mj:=yd (P:=P) (w:=w) (base:=base) T oZ;have C_law_wire:=yq (P:=P) (w:=w) (base:=base) T oY cF mq;have C_law_form:=xr (P:=P) (w:=w) (base:=base) T oV mj;have XK_law_refused:=tK (P:=P) (w:=w) (base:=base) T kP rn;have XP_law_refused:=XK_law_refused.p;exact(sj (cl:=cl) (N:=pq) (F:=sS) (k:=7) JM.2 xu.2 F ny (fun dJ A outer s H E hr=>(bo (Ck PassesOwn.never rfl (nv (lu (gg (ae 0) cL (cS ah)))) (nE ny.nd rfl (Or.inl rfl)) (bo (dY ny.nd rfl (Or.inl rfl) (av (aT mq hr (by decide) rfl (aa (ae 1) (aa ah ak)) (aE (aE ba))))) (bo (dY ny.nd rfl (Or.inl rfl) (av (aT cA hr (by decide) rfl (aa (ae 2) ak) (aE ba)))) (bo (zE (lE (l5 (ky (uN (nQ (FI (ae 3) (by decide) rfl T.z_isinstance rfl T.z_bool PyProof.Rows.boot_bool))) (lL (b6 (C_ hr.units) (ae 3) (aT mj hr (by decide) rfl (aa (ae 2) ak) (aE ba)) (bR _)))))) (cZ (oI (av jc))) uu) (bo (dY ny.nd rfl (Or.inl rfl) (av (aw bS (aS (bK (bV (aa aj (aa aj (aa aj (aa aj (aa aj (aa aj ak)))))))) (aw dR (aT cF hr (by decide) rfl (aa (ae 1) (aa ah ak)) (aE (aE ba))) ah) (fun _ _=>rfl)) aj))) (bo (dY ny.nd rfl (Or.inl rfl) (av (bK (bV (aa (ae 4) (aa (gg (aw bS aj (ae 4)) cL (cS ah)) (aa (gg (aw bS aj (ae 4)) cL (cS ah)) ak))))))) (bo (dY ny.nd rfl (Or.inl rfl) (av (bK (bV (aa (aS (ae 5) ah (fun _ _=>rfl)) (aa (aw bS (aS (ae 5) ah (fun _ _=>rfl)) aj) (aa (aw bS (aS (ae 5) ah (fun _ _=>rfl)) aj) (aa (aw bS (aS (ae 5) ah (fun _ _=>rfl)) aj) (aa (aw bS (aS (ae 5) ah (fun _ _=>rfl)) aj) (aa (aw bS (aS (ae 5) ah (fun _ _=>rfl)) aj) ak)))))))))) (bo (dY ny.nd rfl (Or.inl rfl) (av (aT C_law_wire hr (by decide) rfl (aa (ae 1) (aa (ae 4) ak)) (aE (aE ba))))) (bo (dY ny.nd rfl (Or.inl rfl) (av (bK (bV (aa (aw bS (aw bS aj (aS (ae 5) ah (fun _ _=>rfl))) aj) (aa (aw bS (aw bS aj (aS (ae 5) ah (fun _ _=>rfl))) aj) (aa (aw bS (aw bS aj (aS (ae 5) ah (fun _ _=>rfl))) aj) (aa (aw bS aj (ae 7)) ak)))))))) (bo (dY ny.nd rfl (Or.inr rfl) (av (aS (bK (bV (aa ah (aa ah ak)))) (xC JG rfl T.z_int PyProof.Rows.boot_int (aa (EY (aT C_law_form hr (by decide) rfl (aa (ae 7) ak) (aE ba))) ak)) (fun _ _=>rfl)))) (cZ (zE (lE (b6 Fi (ae 7) (ae 6) (by with_unfolding_all rfl))) (bo (dY ny.nd rfl (Or.inr rfl) (av (bK (bV (aa (kD (aa aj (aa (kD (aa (Ad (ae 6) (aa (ae 7) ak)) ak)) ak))) ak))))) (cZ (zE (o_ (C_ hr.units) (Jh (rV Iu (eo.q rn) hr (by decide) rfl (dj (aB (av (rJ aj (aa (ae 8) ak))) br)) (uT (b5 fR)))) (av (kD (aa (bK (bV (aa (kD (aa (aS (ae 5) ah (fun _ _=>rfl)) (aa ah ak))) (aa (kD (aa (aS (ae 5) ah (fun _ _=>rfl)) (aa ah ak))) (aa (kD (aa (aS (ae 5) ah (fun _ _=>rfl)) (aa ah ak))) ak))))) (aa (bK (bV ak)) (aa (ae 9) ak))))) (bR _)) (cZ (oI (av jc))) uu))) (cZ (zE (o_ (C_ hr.units) (Fx XP_law_refused hr (by decide) rfl (aB (av (rJ aj (aa (ae 8) ak))) br) (b5 fR)) (av (bK (nq rfl (di.of (own:=["k"]) (kp:=[9]) (kn:=["due"]) (sc:=xu.1) (N:=pq) rfl rfl (by decide+kernel)) (mV ah rfl T.z_range) (fun _ _ _=>(jF (show List.Nodup [(Str.ofString "k"),"due"] from by decide+kernel) rfl (Or.inl rfl))) (fun _ _ _=>lI) (fun _ _ _=>(eX (qV hr.units) (ae 0) (ae 1) (bR _)))))) (bR _)) (cZ (oI (av jc))) uu)))))))))))))) (cZ (oI (av jc)))))).imp fun _ _ _ _ h=>Je h
end K01
end
section
set_option maxHeartbeats 1000000
namespace K01
open PySem PySem.Spec PyProof.Rows L2 L3 MT JT TX
theorem jZ{w:Str}(h:w.length<=10000000):cI [.str w]= .ok (.bl (isNm w)):=by
 have hz:sizeLine=16777216:=sizeLine_eq;unfold cI tU;have e:isNm w=(!(decide (w.length < 1) || (decide (8 < w.length) || jW.contains w)) && low w):=by
  unfold isNm;by_cases h1:1<=w.length
  .rw [decide_eq_true h1,decide_eq_false (by omega:¬w.length < 1)]
   by_cases h2:w.length<=8
   .rw [decide_eq_true h2,decide_eq_false (by omega:¬8 < w.length)];simp
   .rw [decide_eq_false h2,decide_eq_true (by omega:8 < w.length)];simp
  .rw [decide_eq_false h1,decide_eq_true (by omega:w.length < 1)];simp
 rw[e];refine fS (zo (l7 (dS (a:=nI w.length) (b:=nI 1) (aC (ds:=[.str w]) rfl (len_str h)) rfl (AS _ _)) fun _=>l7 (dS (a:=nI w.length) (b:=nI 8) (aC (ds:=[.str w]) rfl (len_str h)) rfl (Lk _ _)) fun _=>dS (a:= .str w) (b:= .tup (jW.map .str)) rfl rfl (DX w jW)) fun _=>cw ?_)
 refine aC (ds:=[.lst ((w.cps.toList.map fun c=>decide (97<=c/\c<=122)).map D.bl)]) (au (bC (lN (ds:=w.cps.toList.map fun c=> .str ⟨#[c]⟩) rfl (by rw[List.length_map,Array.length_toList];show w.length<=_;omega) ?_)) rfl) ?_
 .rw [List.map_map];exact NT.g6 (fun c=> .str ⟨#[c]⟩) _ fun c hc=>⟨[.val (.str ⟨#[c]⟩)],rfl,rfl,ax (a:= .str ⟨#[c]⟩) (b:= .str uV) rfl rfl (Jk c)⟩
 .rw [B3,List.all_map];rfl
theorem uY{w:Str}(h:w.length<=10000000):d5 [.str w]= .ok (.bl (dM w)):=by
 have hz:sizeLine=16777216:=sizeLine_eq;obtain⟨a,b,d,e⟩:=BS w CO;have ha:a.length<=10000000:=by
  unfold g0 at e;split at e
  .have:a=Builtin.Str.strSub w 0 _:=(List.cons.inj e).1.symm;rw[this];exact Nat.le_trans (strSub_length_le ..) h
  .have:a=w:=(List.cons.inj e).1.symm;rw[this];exact h
 unfold d5 nC dM;rw[e];have hp:wO (.str w) [.str CO]= .ok (.tup ([a,b,d].map .str)):=by
  rw[<-e];exact bD _ ⟨by rw[n_];rfl,by omega⟩
 refine fS (aV (bq (d:= .tup ([a,b,d].map .str)) (nL (x:=w) rfl rfl hp) (by simp [c5,jL])) (cw ?_))
 exact gc (aC (ds:=[.str a]) rfl (jZ ha)) fun _=>IE (ax (a:= .str b) (b:= .str Str.empty) rfl rfl (xI _ _)) fun _=>ax (a:= .str d) (b:= .tup (nY.map .str)) rfl rfl (DX d nY)
theorem n9{ws:List Str}(hl:ws.length<=10000000)(h:∀w∈ws,w.length<=10000000):bZ [.lst (ws.map .str)]= .ok (.bl (ws.all dM)):=by
 have hz:sizeLine=16777216:=sizeLine_eq;unfold bZ lp;refine fS (cw (aC (ds:=[.lst ((ws.map dM).map D.bl)]) (au (bC (lN (ds:=ws.map .str) (qt rfl) (by rw[List.length_map];omega) ?_)) rfl) ?_))
 .rw [List.map_map];exact NT.g6 D.str _ fun w hw=>⟨[.val (.str w)],rfl,rfl,aC (ds:=[.str w]) rfl (uY (h w hw))⟩
 .rw [B3,List.all_map];rfl
section
variable {ws:List Str}
theorem yn(hl:ws.length<=10000000)(h:∀w∈ws,w.length<=10000000):gq [.lst (ws.map .str)]= .ok (.bl (Bc ws)):=by
 have hw:∀i,(wd ws i).length<=10000000:=fun i=>by
  unfold wd;rw[List.getD_eq_getElem?_getD];cases hx:ws[i]? with
  | none=>exact Nat.zero_le _
  | some w=>exact h w (List.mem_of_getElem? hx)
 unfold gq pI Bc;refine fS (cw (gc (ax (a:=nI ws.length) (b:=nI 3) (aC (ds:=[.lst (ws.map .str)]) rfl (by rw[oC,List.length_map])) rfl (wc _ _)) fun h3=>?_))
 have h3:=of_decide_eq_true h3;refine gc (ax (a:= .str (wd ws 0)) (b:= .str (Str.ofString "in")) (ax (a:= .lst (ws.map .str)) (b:= .int (0:Nat)) rfl rfl (uh (by omega))) rfl (xI _ _)) fun _=>?_
 refine gc (aC (ds:=[.str (wd ws 1)]) (au (ax (a:= .lst (ws.map .str)) (b:= .int (1:Nat)) rfl rfl (uh (by omega))) rfl) (jZ (hw 1))) fun _=>?_
 unfold Im;rw[show e2 c9 (ag 0) (eC (.int 2)) (c5 ma [.lst (ws.map .str)])= .ok (.str (wd ws 2)) from ax (a:= .lst (ws.map .str)) (b:= .int (2:Nat)) rfl rfl (uh (by omega)),R.aK]
 rfl
theorem uM(hl:ws.length<=10000000)(h:∀w∈ws,w.length<=10000000):dZ [.lst (ws.map .str)]= .ok (.bl (A_ ws)):=by
 have hw:∀i,(wd ws i).length<=10000000:=fun i=>by
  unfold wd;rw[List.getD_eq_getElem?_getD];cases hx:ws[i]? with
  | none=>exact Nat.zero_le _
  | some w=>exact h w (List.mem_of_getElem? hx)
 have ix:∀{i:Nat} {δ:aq},i < ws.length->ag 0 δ= .ok (.lst (ws.map .str))->e2 c9 (ag 0) (eC (.int i)) δ= .ok (.str (wd ws i)):=fun hi hv=>ax (a:= .lst (ws.map .str)) hv rfl (uh hi)
 unfold dZ nB;have e:A_ ws=(!(decide (ws.length < 4) || !([Str.ofString "gate",Str.ofString "sure"].contains (wd ws 0))) && (!(!(isNm (wd ws 1)) || !((Ea.lookup (wd ws 2)).isSome)) && (decide (((ws.drop 3).length:Int)=(Ea.lookup (wd ws 2)).getD 0) && (ws.drop 3).all dM))):=by
  unfold A_;by_cases h4:4<=ws.length
  .rw [decide_eq_true h4,decide_eq_false (by omega:¬ws.length < 4)];simp
  .rw [decide_eq_false h4,decide_eq_true (by omega:ws.length < 4)];simp
 rw[e];refine fS (zo (l7 (dS (a:=nI ws.length) (b:=nI 4) (aC (ds:=[.lst (ws.map .str)]) rfl (by rw[oC,List.length_map])) rfl (AS _ _)) fun h4=>dS (a:= .str (wd ws 0)) (b:= .tup ([Str.ofString "gate",Str.ofString "sure"].map .str)) (ix (i:=0) (by have:=of_decide_eq_false h4;omega) rfl) rfl (Jz _ _)) fun h4=>?_)
 have h4:4<=ws.length:=by
  have:=(Bool.or_eq_false_iff.mp h4).1;have:=of_decide_eq_false this;omega
 refine zo (l7 (za (pE (aC (ds:=[.str (wd ws 1)]) (au (ix (i:=1) (by omega) rfl) rfl) (jZ (hw 1))))) fun _=>?_) fun hk=>?_
 .unfold Ih;rw[show e2 c9 (ag 0) (eC (.int 2)) (c5 fU [.lst (ws.map .str)])= .ok (.str (wd ws 2)) from ix (i:=2) (by omega) rfl,R.aK]
  rfl
 .have hk:(Ea.lookup (wd ws 2)).isSome=true:=by
   have:=(Bool.or_eq_false_iff.mp hk).2;cases hq:(Ea.lookup (wd ws 2)).isSome with
   | true=>rfl
   | false=>rw [hq] at this;cases this
  obtain⟨n,hn⟩:=Option.isSome_iff_exists.mp hk;refine aV (bq (d:= .lst ((ws.drop 3).map .str)) (f6 (d:= .lst (ws.map .str)) (lo:=some ((3:Nat):Int)) (hi:=none) rfl (cM rfl) rfl ((q9 (by rw[List.length_map];omega)).trans (by rw[List.map_drop]))) (by simp [c5,fU])) (cw (gc ?_ fun _=>?_))
  .rw [hn];refine ax (a:=nI (ws.drop 3).length) (b:= .int n) (aC (ds:=[.lst ((ws.drop 3).map .str)]) rfl (by rw[oC,List.length_map])) ?_ ?_
   .unfold wH;rw[show e2 c9 (ag 0) (eC (.int 2)) _= .ok (.str (wd ws 2)) from ix (i:=2) (by omega) rfl,R.aK]
    show(match Ea.lookup (wd ws 2) with | some i=>R.ok (D.int i) | none=> .no)=_
    rw[hn]
   .show R.ok (D.bl ((((ws.drop 3).length:Nat):Int)==n))=_;congr 2
  .exact aC (ds:=[.lst ((ws.drop 3).map .str)]) rfl (n9 (by rw[List.length_drop];omega) fun w Qt=>h w (List.mem_of_mem_drop Qt))
theorem vQ(hl:ws.length<=10000000)(h:∀w∈ws,w.length<=10000000):eR [.lst (ws.map .str)]= .ok (.bl (Ei ws)):=by
 have hw:∀i,(wd ws i).length<=10000000:=fun i=>by
  unfold wd;rw[List.getD_eq_getElem?_getD];cases hx:ws[i]? with
  | none=>exact Nat.zero_le _
  | some w=>exact h w (List.mem_of_getElem? hx)
 have ix:∀{i:Nat} {δ:aq},i < ws.length->ag 0 δ= .ok (.lst (ws.map .str))->e2 c9 (ag 0) (eC (.int i)) δ= .ok (.str (wd ws i)):=fun hi hv=>ax (a:= .lst (ws.map .str)) hv rfl (uh hi)
 unfold eR og;have e:Ei ws=(!(decide (ws.length < 3) || (!(wd ws 0==Str.ofString "out") || !(isNm (wd ws 1)))) && (decide ((ws.drop 2).length<=3) && (ws.drop 2).all dM)):=by
  unfold Ei;by_cases h4:3<=ws.length
  .rw [decide_eq_true h4,decide_eq_false (by omega:¬ws.length < 3)];simp
  .rw [decide_eq_false h4,decide_eq_true (by omega:ws.length < 3)];simp
 rw[e];refine fS (zo (l7 (dS (a:=nI ws.length) (b:=nI 3) (aC (ds:=[.lst (ws.map .str)]) rfl (by rw[oC,List.length_map])) rfl (AS _ _)) fun h4=>?_) fun h4=>?_)
 .have h4:=of_decide_eq_false h4;exact l7 (dS (a:= .str (wd ws 0)) (b:= .str (Str.ofString "out")) (ix (i:=0) (by omega) rfl) rfl (Jy _ _)) fun _=>za (pE (aC (ds:=[.str (wd ws 1)]) (au (ix (i:=1) (by omega) rfl) rfl) (jZ (hw 1))))
 have h4:3<=ws.length:=by
  have:=(Bool.or_eq_false_iff.mp h4).1;have:=of_decide_eq_false this;omega
 refine aV (bq (d:= .lst ((ws.drop 2).map .str)) (f6 (d:= .lst (ws.map .str)) (lo:=some ((2:Nat):Int)) (hi:=none) rfl (cM rfl) rfl ((q9 (by rw[List.length_map];omega)).trans (by rw[List.map_drop]))) (by simp [c5,kM])) (cw (gc ?_ fun _=>?_))
 .exact ax (a:=nI (ws.drop 2).length) (b:=nI 3) (aC (ds:=[.lst ((ws.drop 2).map .str)]) rfl (by rw[oC,List.length_map])) rfl (Iw _ _)
 .exact aC (ds:=[.lst ((ws.drop 2).map .str)]) rfl (n9 (by rw[List.length_drop];omega) fun w Qt=>h w (List.mem_of_mem_drop Qt))
end
end K01
end
section
namespace K01
open PySem PySem.Spec PyProof.Rows L2 L3 MT JT TX
theorem bW{S:aG}{l:List SO}(i:Nat):(S++l)[S.length+i]? =l[i]?:=by rw[List.getElem?_append_right (by omega),Nat.add_sub_cancel_left]
theorem dH{S:List SO}{l:List SO}(i:Nat)(x:SO):(S++l).set (S.length+i) x=S++l.set i x:=by
 rw[List.set_append,if_neg (by omega),Nat.add_sub_cancel_left]
def Ak(n:Nat):List (Str × V3):=[(Str.ofString "ins", .loc (n+1)),(Str.ofString "gates", .loc (n+2)),(Str.ofString "outs", .loc (n+3)),(Str.ofString "names", .loc (n+4)),(Str.ofString "out_names", .loc (n+5)),(Str.ofString "numbers", .loc (n+6))]
def KP(n:Nat)(d:Dr):List SO:=[.ins 0 (Ak n), .lst (d.ins.map MT.inD), .lst (d.gs.map A8), .lst (d.os.map Al), .dct (vz d.nm), .dct (vz d.on), .dct (Kp d.nu)]
abbrev jD(S:aG)(d:Dr):aG:=S++KP S.length d
theorem lk{n:Nat}{i:Nat}(h:([Str.ofString "ins",Str.ofString "gates",Str.ofString "outs",Str.ofString "names",Str.ofString "out_names",Str.ofString "numbers"].findIdx? (·==k))=some i):(Ak n).lookup k=some (.loc (n+(i+1))):=by
 unfold Ak;simp only[List.findIdx?_cons,List.findIdx?_nil] at h;have sw:∀a:Str,(k==a)=(a==k):=fun a=>by
  by_cases q:a=k
  .subst q;rfl
  .rw [beq_eq_false_iff_ne.mpr q,beq_eq_false_iff_ne.mpr (Ne.symm q)]
 simp only[List.lookup_cons,sw];split at h
 .rename_i q;rw [q];cases h;rfl
 .rename_i q1;rw[Bool.not_eq_true] at q1;rw[q1];simp only[Option.map_eq_some_iff] at h;obtain⟨j1,h,rfl⟩:=h;split at h
  .rename_i q;rw [q];cases h;rfl
  .rename_i q2;rw[Bool.not_eq_true] at q2;rw[q2];simp only[Option.map_eq_some_iff] at h;obtain⟨j2,h,rfl⟩:=h;split at h
   .rename_i q;rw [q];cases h;rfl
   .rename_i q3;rw[Bool.not_eq_true] at q3;rw[q3];simp only[Option.map_eq_some_iff] at h;obtain⟨j3,h,rfl⟩:=h;split at h
    .rename_i q;rw [q];cases h;rfl
    .rename_i q4;rw[Bool.not_eq_true] at q4;rw[q4];simp only[Option.map_eq_some_iff] at h;obtain⟨j4,h,rfl⟩:=h;split at h
     .rename_i q;rw [q];cases h;rfl
     .rename_i q5;rw[Bool.not_eq_true] at q5;rw[q5];simp only[Option.map_eq_some_iff] at h;obtain⟨j5,h,rfl⟩:=h;split at h
      .rename_i q;rw [q];cases h;rfl
      .cases h
theorem La{n:Nat}(h:([Str.ofString "ins",Str.ofString "gates",Str.ofString "outs",Str.ofString "names",Str.ofString "out_names",Str.ofString "numbers"].contains m)=false):(Ak n).lookup m=none:=by
 unfold Ak;simp only[List.contains_cons,List.contains_nil,Bool.or_eq_false_iff] at h;obtain⟨h1,h2,h3,h4,h5,h6,_⟩:=h;simp only[List.lookup_cons,h1,h2,h3,h4,h5,h6,List.lookup_nil]
section
variable {S:aG} {d:Dr} {δ:DE}
theorem i8{i j:Nat}{Q:V3->aG->Prop}(hv:δ[j]? =some (some (.loc S.length)))(hk:([Str.ofString "ins",Str.ofString "gates",Str.ofString "outs",Str.ofString "names",Str.ofString "out_names",Str.ofString "numbers"].findIdx? (·==k))=some i)(h:Q (.loc (S.length+(i+1))) (jD S d)):W3 (eE 0 k (bE j) δ (jD S d)) Q:=
 w_fld (k:=S.length) <| w_var (v:= .loc S.length) hv ⟨_,_,rfl,bW 0,lk hk,h⟩
theorem GH:kz (jD S d) (S.length+(0+1))=some d.ins.length:=by unfold kz;rw [bW];simp [KP]
theorem GO:kz (jD S d) (S.length+(1+1))=some d.gs.length:=by unfold kz;rw [bW];simp [KP]
theorem ze:kz (jD S d) (S.length+(2+1))=some d.os.length:=by unfold kz;rw [bW];simp [KP]
theorem G5:kz (jD S d) (S.length+(5+1))=some d.nu.length:=by unfold kz;rw [bW];simp [KP,u9]
theorem G8:qb (.d (.str x)) (.loc (S.length+(3+1))) (jD S d)=some (if x∈d.nm then some (.bl true) else none):=by
 have e:(jD S d)[S.length+(3+1)]? =some (.dct (vz d.nm)):=bW _;unfold qb;simp only[rM,e];rw[pL]
theorem LP:qb (.d (.str x)) (.loc (S.length+(4+1))) (jD S d)=some (if x∈d.on then some (.bl true) else none):=by
 have e:(jD S d)[S.length+(4+1)]? =some (.dct (vz d.on)):=bW _;unfold qb;simp only[rM,e];rw[pL]
theorem GW:qb (.d (.str x)) (.loc (S.length+(5+1))) (jD S d)=some ((idx d.nu x).map nI):=by
 have e:(jD S d)[S.length+(5+1)]? =some (.dct (D9 0 d.nu)):=bW _;unfold qb;simp only[rM,e];rw[rA];congr 1;cases idx d.nu x with
 | none=>rfl
 | some i=>show some (nI (0+i))=_;rw [Nat.zero_add];rfl
theorem NG{a b:Str}{f:FD}{δ:aq}{x:Str}(h:f δ= .ok (.str x))(hl:x.length<=1000000)(ha:a.length<=1000)(hb:b.length<=1000):∃y,cN (bM (eC (.str a)) (bM (lM f) (bM (eC (.str b)) oz))) δ= .ok (.str y):=by
 have hz:sizeLine=16777216:=sizeLine_eq;refine⟨_,oH (ss:=[a,x,b]) (iX rfl (iX (v_ h (by omega)) (iX rfl rfl))) ?_⟩
 show(((Str.empty++a)++x)++b).length<=_;rw[Str.length_append,Str.length_append,Str.length_append];show 0+a.length+x.length+b.length<=_;omega
theorem vg{c i:Nat}{a b:Str}{x:Str}{Y:Nat->aG->Prop}{Q:Ou->aG->Prop}(h:(down δ)[i]? =some (.val (.str x)))(hl:x.length<=1000000)(ha:a.length<=1000)(hb:b.length<=1000)(hy:Y c S):WE (fk c (eU (aR (xP (cN (bM (eC (.str a)) (bM (lM (ag i)) (bM (eC (.str b)) oz))))) dh)) δ S) Q Y:=by
 obtain⟨y,e⟩:=NG (a:=a) (b:=b) (f:=ag i) (δ:=down δ) (x:=x) (by unfold ag;rw [h]) hl ha hb
 exact q_ <| bX <| gU e <| gW ⟨by show 1<=sizeLine;decide,hy⟩
theorem yK{nu:List Str}:∀{ws:List Str},gY nu (ws++[w])=(gY nu ws).bind fun l=>(idx nu w).map fun i=>l++[i]
 | []=>by
   show(match idx nu w with | some i=>(gY nu []).map (i ::·) | none=>none)=_
   cases idx nu w <;> rfl
 | y ::ws=>by
   show(match idx nu y with | some i=>(gY nu (ws++[w])).map (i ::·) | none=>none)=_
   rw[yK];show _=(match idx nu y with | some i=>(gY nu ws).map (i ::·) | none=>none).bind _
   cases idx nu y with
   | none=>rfl
   | some i=>
     cases gY nu ws with
     | none=>rfl
     | some l=>cases idx nu w <;> rfl
theorem yO{nu:List Str}(h:idx nu w=none):∀{ws:List Str},w∈ws->gY nu ws=none
 | y ::ws,hm=>by
   show(match idx nu y with | some i=>(gY nu ws).map (i ::·) | none=>none)=_
   rcases List.mem_cons.mp hm with e | e
   .rw [<-e,h]
   .rw [yO h e];cases idx nu y <;> rfl
theorem CG{nu:List Str}:∀{ws:List Str},(∀w∈ws,∃i,idx nu w=some i)->∃l,gY nu ws=some l
 | [],_=>⟨[],rfl⟩
 | y ::ws,h=>by
   obtain⟨i,hi⟩:=h y List.mem_cons_self;obtain⟨l,hl⟩:=CG (ws:=ws) fun w hw=>h w (List.mem_cons_of_mem _ hw)
   refine⟨i ::l,?_⟩;show(match idx nu y with | some i=>(gY nu ws).map (i ::·) | none=>none)=_
   rw[hi,hl];rfl
theorem mG{ws:List Str}(hl:ws.length<=1000)(hw:∀w∈ws,w.length<=1000000):WE (aX [.loc S.length, .d (.lst (ws.map .str))] (jD S d)) (fun v S1=>S1=jD S d/\∃l,gY d.nu ws=some l/\v= .d (.tup (l.map nI))) (fun c S1=>S1=jD S d/\c=7/\gY d.nu ws=none):=by
 have hz:sizeLine=16777216:=sizeLine_eq;unfold aX;refine Kk rfl ?_;simp only[dm,b9,List.map,List.length,List.replicate,List.cons_append,List.nil_append,Nat.reduceAdd,Nat.reduceSub];unfold dQ;refine iW <| Hh <| Dw (ds:=ws.map .str) (qt rfl) ?_
 refine(HK (fun i δ S1=>S1=jD S d/\(∃a2,δ=[some (.loc S.length),some (.d (.lst (ws.map .str))),a2])/\∀w∈ws.take i,∃j,idx d.nu w=some j) ⟨rfl,⟨_,rfl⟩,by simp⟩ ?_).mono (fun o S1 ⟨δ1,e1,e2,⟨a2,e3⟩,h1⟩=>⟨δ1,e1,?_⟩) fun _ _ q=>q
 .rintro i v δ1 S1 hv ⟨rfl,⟨a2,rfl⟩,hi⟩;obtain⟨w,hwi,rfl⟩:=NT.uq hv;refine⟨[some (.loc S.length),some (.d (.lst (ws.map .str))),some (.d (.str w))],rfl,?_⟩;unfold fY;refine pd <| va <| gU (d:= .str w) rfl <| i8 (i:=5) rfl (by decide+kernel) ⟨_,GW,?_⟩
  cases hj:idx d.nu w with
  | none=>
    simp only[Option.map_none,Option.isSome_none,Bool.true_bne,Bool.not_false,if_true];exact vg (x:=w) rfl (hw w (List.mem_of_getElem? hwi)) (by decide+kernel) (by decide+kernel) ⟨rfl,rfl,yO hj (List.mem_of_getElem? hwi)⟩
  | some j=>
    simp only[Option.map_some,Option.isSome_some,Bool.true_bne,Bool.not_true,Bool.false_eq_true,if_false];refine mS ⟨_,rfl,rfl,⟨_,rfl⟩,fun y hy=>?_⟩
    rw[List.take_add_one,hwi] at hy;rcases List.mem_append.mp hy with z | z
    .exact hi y z
    .rw [List.mem_singleton.mp z];exact⟨j,hj⟩
 .subst e2 e3;rw[List.length_map,List.length_map,List.take_length] at h1;obtain⟨l,KC⟩:=CG h1;refine vY <| wF <| Gu <| bX <| Fe (fun i ds S2=>S2=jD S d/\∃m,gY d.nu (ws.take i)=some m/\ds=m.map nI) <| Dw (ds:=ws.map .str) (qt rfl) ⟨by rw[List.length_map,List.length_map];omega,⟨rfl,[],rfl,rfl⟩,?_,?_⟩
  .rintro i v ds S2 hv ⟨rfl,m,hm,rfl⟩;obtain⟨w,hwi,rfl⟩:=NT.uq hv;obtain⟨j,hj⟩:=h1 w (List.mem_of_getElem? hwi);refine⟨[some (.d (.str w)),some (.loc S.length)],rfl,LJ ?_⟩;rw[if_pos rfl];refine I0 <| i8 (i:=5) rfl (by decide+kernel) <| gU (d:= .str w) rfl ⟨nI j,by rw[GW,hj];rfl,_,rfl,rfl,m++[j],?_,?_⟩
   .rw [List.take_add_one,hwi];show gY d.nu (ws.take i++[w])=_;rw[yK,hm,hj];rfl
   .rw [List.map_append];rfl
  .rintro ds S2 ⟨rfl,m,hm,rfl⟩;rw[List.length_map,List.length_map,List.take_length] at hm;exact gW ⟨[.lst (m.map nI)], .tup (m.map nI),rfl,rfl,rfl,m,hm,rfl⟩
end
end K01
end
section
namespace K01
open PySem PySem.Spec PyProof.Rows L2 L3 MT JT TX
theorem Ey{f:FD}{δ:aq}{k:Nat}(hk:k < 3)(h:f δ= .ok (nI k)):lM f δ= .ok (.str (jY k)):=by
 match k,hk with
 | 0,_=>exact(si (i:=0) h (by decide+kernel)).trans (by rw[show(toString (0:Int):Str)=jY 0 by decide+kernel])
 | 1,_=>exact(si (i:=1) h (by decide+kernel)).trans (by rw[show(toString (1:Int):Str)=jY 1 by decide+kernel])
 | 2,_=>exact(si (i:=2) h (by decide+kernel)).trans (by rw[show(toString (2:Int):Str)=jY 2 by decide+kernel])
theorem vK{x:Str}{w:Nat}(hx:x.length<=8)(hw:w<=3):jR [.str x,nI w]= .ok (.lst ((pB x w).map .str)):=by
 have hz:sizeLine=16777216:=sizeLine_eq;unfold jR rD pB;by_cases h1:w=1
 .rw [if_pos h1];exact fS (NT.pz (n8 (dS (a:=nI w) (b:=nI 1) rfl rfl (by rw[wc,decide_eq_true h1])) (cw (bC (cb (ds:=[.str x]) rfl (by show 1<=sizeLine;omega))))))
 .rw [if_neg h1];refine fS (aV (m8 (dS (a:=nI w) (b:=nI 1) rfl rfl (by rw[wc,decide_eq_false h1])) rfl) (cw (bC (lN (ds:=(List.range w).map nI) (DI rfl (by omega)) (by simp;omega) ?_))))
  rw[show((List.range w).map fun f=>x++CO++jY f).map D.str=(List.range w).map fun f=>D.str (x++CO++jY f) from List.map_map]
  refine NT.g6 nI _ fun f hf=>⟨[.val (nI f), .val (.str x)],rfl,rfl,?_⟩
  have hf:f < 3:=Nat.lt_of_lt_of_le (List.mem_range.mp hf) hw;have hfl:(jY f).length<=1:=by match f,hf with | 0,_=>decide+kernel | 1,_=>decide+kernel | 2,_=>decide+kernel
  refine(oH (ss:=[x,CO,jY f]) (iX (v_ rfl (by omega)) (iX rfl (iX (Ey hf rfl) rfl))) ?_).trans ?_
  .show(((Str.empty++x)++CO)++jY f).length<=_;rw[Str.length_append,Str.length_append,Str.length_append];show 0+x.length+1+_<=_;omega
  .show R.ok (D.str (((Str.empty++x)++CO)++jY f))=_;rw[empty_app]
section
variable {S:aG} {d:Dr}
theorem m7{x:Str}(h:isNm x=true):x.length<=1000000:=by have:=(de.mp h).2.1;omega
theorem sF{α:Type}(l:List α):decide (l.length≠0)=decide (l≠[]):=by cases l <;> simp
theorem Au{δ:DE}{Q:Bool->aG->Prop}(hv:δ[0]? =some (some (.loc S.length)))(h:Q (decide (d.gs≠[]\/d.os≠[])) (jD S d)):W3 (Mj (mT (eE 0 (Str.ofString "gates") (bE 0))) (mT (eE 0 (Str.ofString "outs") (bE 0))) δ (jD S d)) Q:=by
 refine W3.bind (rK <| i8 (i:=1) hv (by decide+kernel) ⟨_,_,rfl,GO,?_⟩)
 rw[sF d.gs];by_cases hg:d.gs≠[]
 .rw [decide_eq_true hg,if_pos rfl];rw[decide_eq_true (.inl hg)] at h;exact W3.ok h
 .rw [decide_eq_false hg,if_neg (by decide)]
  refine rK <| i8 (i:=2) hv (by decide+kernel) ⟨_,_,rfl,ze,?_⟩
  rw[sF d.os];have:decide (d.gs≠[]\/d.os≠[])=decide (d.os≠[]):=by
   by_cases ho:d.os≠[]
   .rw [decide_eq_true ho,decide_eq_true (.inr ho)]
   .rw [decide_eq_false ho,decide_eq_false fun q=>q.elim hg ho]
  rw[this] at h;exact h
theorem Aw(DD:lV d){w:Nat}(hx:isNm x=true)(hw:w<=3):WE (cJ [.loc S.length, .d (.str x), .d (nI w)] (jD S d)) (fun v S1=>v= .d .cu/\∃d',lD d x w= .ok d'/\S1=jD S d') (fun c S1=>lD d x w= .error c/\S1=jD S d):=by
 have hz:sizeLine=16777216:=sizeLine_eq;have hx8:=(de.mp hx).2.1;unfold cJ;refine Kk rfl ?_;simp only[dm,f7,List.map,List.length,List.replicate,List.cons_append,List.nil_append,Nat.reduceAdd,Nat.reduceSub];unfold jP;refine iW <| pd <| Au rfl ?_
 by_cases hb:d.gs≠[]\/d.os≠[]
 .rw [decide_eq_true hb,if_pos rfl];exact vg (x:=x) rfl (m7 hx) (by decide+kernel) (by decide+kernel) ⟨by unfold lD;rw [if_pos hb],rfl⟩
 .rw [decide_eq_false hb,if_neg (by decide)]
  refine mS ⟨_,rfl,?_⟩;refine iW <| pd <| va <| gU (d:= .str x) rfl <| i8 (i:=3) rfl (by decide+kernel) ⟨_,G8,?_⟩
  by_cases h2:x∈d.nm
  .rw [if_pos h2];simp only[Option.isSome_some,Bool.false_bne,if_true];exact vg (x:=x) rfl (m7 hx) (by decide+kernel) (by decide+kernel) ⟨by unfold lD;rw [if_neg hb,if_pos h2],rfl⟩
  .rw [if_neg h2];simp only[Option.isSome_none,Bool.false_bne,Bool.false_eq_true,if_false];refine mS ⟨_,rfl,?_⟩;refine iW <| pd <| CC <| wK <| i8 (i:=0) rfl (by decide+kernel) ⟨_,_,rfl,GH,gU (d:=nI 6) rfl ⟨nI d.ins.length,nI 6,_,rfl,rfl,JO _ _,?_⟩⟩
   by_cases h3:6<=d.ins.length
   .rw [decide_eq_true h3,if_pos rfl];exact vg (x:=x) rfl (m7 hx) (by decide+kernel) (by decide+kernel) ⟨by unfold lD;rw [if_neg hb,if_neg h2,if_pos h3],rfl⟩
   .rw [decide_eq_false h3,if_neg (by decide)]
    refine mS ⟨_,rfl,?_⟩;have Pj:=DD.ln;have hl2:=DD.lw;have hl3:=DD.li;refine vY <| dI <| pM <| gU (d:= .bl true) rfl <| i8 (i:=3) rfl (by decide+kernel) <| gU (d:= .str x) rfl ⟨_,_,_,Sum.inr x,vz d.nm,rfl,rfl,rfl,rfl,bW _,by rw[u0];omega,_,rfl,?_⟩
    rw[show(jD S d).set (S.length+(3+1)) (.dct (oM (vz d.nm) (Sum.inr x) (.bl true)))=jD S {d with nm:=d.nm++[x]} by rw[uP h2];exact dH _ _]
    refine dI <| G7 <| Dw (ds:=(pB x w).map .str) (qt (aC (ds:=[.str x,nI w]) rfl (vK hx8 hw))) ?_
    refine(uc (fun i δ S1=>S1=jD S {d with nm:=d.nm++[x],nu:=d.nu++(pB x w).take i}/\∃a3,δ=[some (.loc S.length),some (.d (.str x)),some (.d (nI w)),a3]) ⟨by simp,_,rfl⟩ ?_).mono fun o S1 ⟨kQ,e1,e2,a3,e3⟩=>⟨kQ,e1,?_⟩
    .rintro i v δ S1 hv ⟨rfl,a3,rfl⟩;obtain⟨y,hy,rfl⟩:=NT.uq hv;refine⟨[some (.loc S.length),some (.d (.str x)),some (.d (nI w)),some (.d (.str y))],rfl,?_⟩;unfold lJ;have hyn:y ∉ d.nu++(pB x w).take i:=fun q=>by
      rcases List.mem_append.mp q with z | z
      .exact nR DD h2 (rT hx y (List.mem_of_getElem? hy)) z
      .have nd:=CY (x:=x) hw;obtain⟨j,hj⟩:=List.getElem?_of_mem z;rw[List.getElem?_take] at hj;split at hj
       .rename_i hji;have:=mZ nd hj hy;omega
       .cases hj
     have hil:(pB x w).length<=3:=by rw[zV];exact hw
     have htl:((pB x w).take i).length<=3:=by rw[List.length_take];omega
     refine pM <| wK <| i8 (i:=5) rfl (by decide+kernel) ⟨_,_,rfl,G5,i8 (i:=5) rfl (by decide+kernel) <| gU (d:= .str y) rfl ⟨_,_,_,Sum.inr y,Kp (d.nu++(pB x w).take i),rfl,rfl,rfl,rfl,bW _,by rw[u9,List.length_append];omega,_,rfl,?_,_,rfl⟩⟩
     rw[show({d with nm:=d.nm++[x],nu:=d.nu++(pB x w).take i}:Dr).nu=d.nu++(pB x w).take i from rfl,show D.int ((d.nu++(pB x w).take i).length:Nat)=nI (d.nu++(pB x w).take i).length from rfl,yL hyn,List.append_assoc,show(pB x w).take i++[y]=(pB x w).take (i+1) by rw[List.take_add_one,hy];rfl]
     exact dH _ _
    .subst e2 e3;rw[List.length_map,List.length_map,List.take_length];refine JE (k:=S.length+(0+1)) <| i8 (i:=0) rfl (by decide+kernel) ⟨rfl,⟨_,bW _⟩,gU (d:=MT.inD (x,w)) (lR rfl (by show 2<=sizeLine;omega)) ⟨_,d.ins.map MT.inD,rfl,bW _,by rw[List.length_map];omega,trivial,_,by unfold lD;rw [if_neg hb,if_neg h2,if_neg h3],?_⟩⟩
     rw[show d.ins.map MT.inD++[MT.inD (x,w)]=(d.ins++[(x,w)]).map MT.inD by simp]
     exact dH _ _
theorem vC(DD:lV d){ws:List Str}{s:Bool}(hx:isNm x=true)(hk:kS (yw k)=k)(hl:ws.length<=1000)(hw:∀w∈ws,w.length<=1000000):WE (cf [.loc S.length, .d (.str x), .d (.str k), .d (.lst (ws.map .str)), .d (.bl s)] (jD S d)) (fun v S1=>v= .d .cu/\∃d',addGate d x (yw k) ws s= .ok d'/\S1=jD S d') (fun c S1=>addGate d x (yw k) ws s= .error c/\S1=jD S d):=by
 have hz:sizeLine=16777216:=sizeLine_eq;unfold cf;refine Kk rfl ?_;simp only[dm,et,List.map,List.length,List.replicate,List.cons_append,List.nil_append,Nat.reduceAdd,Nat.reduceSub];unfold hU;refine iW <| pd <| rK <| i8 (i:=2) rfl (by decide+kernel) ⟨_,_,rfl,ze,?_⟩
 rw[sF d.os];by_cases h1:d.os≠[]
 .rw [decide_eq_true h1,if_pos rfl];exact vg (x:=x) rfl (m7 hx) (by decide+kernel) (by decide+kernel) ⟨by unfold addGate;rw [if_pos h1],rfl⟩
 rw[decide_eq_false h1,if_neg (by decide)]
 refine mS ⟨_,rfl,?_⟩;refine iW <| pd <| va <| gU (d:= .str x) rfl <| i8 (i:=3) rfl (by decide+kernel) ⟨_,G8,?_⟩
 by_cases h2:x∈d.nm
 .rw [if_pos h2];simp only[Option.isSome_some,Bool.false_bne,if_true];exact vg (x:=x) rfl (m7 hx) (by decide+kernel) (by decide+kernel) ⟨by unfold addGate;rw [if_neg h1,if_pos h2],rfl⟩
 rw[if_neg h2];simp only[Option.isSome_none,Bool.false_bne,Bool.false_eq_true,if_false];refine mS ⟨_,rfl,?_⟩;refine iW <| pd <| CC <| wK <| i8 (i:=1) rfl (by decide+kernel) ⟨_,_,rfl,GO,gU (d:=nI 60) rfl ⟨nI d.gs.length,nI 60,_,rfl,rfl,JO _ _,?_⟩⟩
 by_cases h3:60<=d.gs.length
 .rw [decide_eq_true h3,if_pos rfl];exact vg (x:=x) rfl (m7 hx) (by decide+kernel) (by decide+kernel) ⟨by unfold addGate;rw [if_neg h1,if_neg h2,if_pos h3],rfl⟩
 rw[decide_eq_false h3,if_neg (by decide)]
 refine mS ⟨_,rfl,?_⟩;have Pj:=DD.ln;have hl2:=DD.lw;have hl3:=DD.lg;refine iW <| Cd (k:=S.length+(1+1)) <| i8 (i:=1) rfl (by decide+kernel) ⟨rfl,⟨_,bW _⟩,G1 <| r6 <| BW <| gU (d:= .str k) rfl <| r6 <| sN (k:=S.length) <| w_var (v:= .loc S.length) rfl ⟨_,rfl,bW 0,La (by decide+kernel),bX <| gU (d:= .lst (ws.map .str)) rfl <| gW ?_⟩⟩
 refine(mG hl hw).mono ?_ ?_
 .rintro v S1 ⟨rfl,l,KC,rfl⟩;refine r6 <| BW <| gU (d:= .bl s) rfl <| Bl ⟨by show 3<=sizeLine;omega,A8 (yw k,l,s),d.gs.map A8,?_,bW _,by rw[List.length_map];omega,_,rfl,?_⟩
  .show V3.d (.tup [.str k, .tup (l.map nI), .bl s])=_;unfold A8;rw[hk]
  rw[show(jD S d).set (S.length+(1+1)) (.lst (d.gs.map A8++[A8 (yw k,l,s)]))=jD S {d with gs:=d.gs++[(yw k,l,s)]} by rw[show d.gs.map A8++[A8 (yw k,l,s)]=(d.gs++[(yw k,l,s)]).map A8 by simp];exact dH _ _]
  refine vY <| dI <| pM <| gU (d:= .bl true) rfl <| i8 (i:=3) rfl (by decide+kernel) <| gU (d:= .str x) rfl ⟨_,_,_,Sum.inr x,vz d.nm,rfl,rfl,rfl,rfl,bW _,by rw[u0];omega,_,rfl,?_⟩
  rw[show(jD S {d with gs:=d.gs++[(yw k,l,s)]}).set (S.length+(3+1)) (.dct (oM (vz d.nm) (Sum.inr x) (.bl true)))=jD S {d with gs:=d.gs++[(yw k,l,s)],nm:=d.nm++[x]} by rw[uP h2];exact dH _ _]
  refine pM <| wK <| i8 (i:=5) rfl (by decide+kernel) ⟨_,_,rfl,G5,i8 (i:=5) rfl (by decide+kernel) <| gU (d:= .str x) rfl ⟨_,_,_,Sum.inr x,Kp d.nu,rfl,rfl,rfl,rfl,bW _,by rw[u9];omega,trivial,_,by unfold addGate;rw [if_neg h1,if_neg h2,if_neg h3,KC],?_⟩⟩
  rw[show D.int (d.nu.length:Nat)=nI d.nu.length from rfl,yL (nR DD h2 (rh hx))]
  exact dH _ _
 .rintro c S1 ⟨rfl,rfl,hn⟩;exact⟨by unfold addGate;rw [if_neg h1,if_neg h2,if_neg h3,hn],rfl⟩
theorem xS(DD:lV d){ws:List Str}(hx:isNm x=true)(hl:ws.length<=1000)(hw:∀w∈ws,w.length<=1000000):WE (cy [.loc S.length, .d (.str x), .d (.lst (ws.map .str))] (jD S d)) (fun v S1=>v= .d .cu/\∃d',fQ d x ws= .ok d'/\S1=jD S d') (fun c S1=>fQ d x ws= .error c/\S1=jD S d):=by
 have hz:sizeLine=16777216:=sizeLine_eq;unfold cy;refine Kk rfl ?_;simp only[dm,eY,List.map,List.length,List.replicate,List.cons_append,List.nil_append,Nat.reduceAdd,Nat.reduceSub];unfold i_;refine iW <| pd <| va <| gU (d:= .str x) rfl <| i8 (i:=4) rfl (by decide+kernel) ⟨_,LP,?_⟩
 by_cases h2:x∈d.on
 .rw [if_pos h2];simp only[Option.isSome_some,Bool.false_bne,if_true];exact vg (x:=x) rfl (m7 hx) (by decide+kernel) (by decide+kernel) ⟨by unfold fQ;rw [if_pos h2],rfl⟩
 rw[if_neg h2];simp only[Option.isSome_none,Bool.false_bne,Bool.false_eq_true,if_false];refine mS ⟨_,rfl,?_⟩;refine iW <| pd <| CC <| wK <| i8 (i:=2) rfl (by decide+kernel) ⟨_,_,rfl,ze,gU (d:=nI 6) rfl ⟨nI d.os.length,nI 6,_,rfl,rfl,JO _ _,?_⟩⟩
 by_cases h3:6<=d.os.length
 .rw [decide_eq_true h3,if_pos rfl];exact vg (x:=x) rfl (m7 hx) (by decide+kernel) (by decide+kernel) ⟨by unfold fQ;rw [if_neg h2,if_pos h3],rfl⟩
 rw[decide_eq_false h3,if_neg (by decide)]
 refine mS ⟨_,rfl,?_⟩;have hl3:=DD.lo;have hon:d.on.length=d.os.length:=by unfold Dr.on;rw [List.length_map]
 refine iW <| Cd (k:=S.length+(2+1)) <| i8 (i:=2) rfl (by decide+kernel) ⟨rfl,⟨_,bW _⟩,G1 <| r6 <| BW <| gU (d:= .str x) rfl <| r6 <| sN (k:=S.length) <| w_var (v:= .loc S.length) rfl ⟨_,rfl,bW 0,La (by decide+kernel),bX <| gU (d:= .lst (ws.map .str)) rfl <| gW ?_⟩⟩
 refine(mG hl hw).mono ?_ ?_
 .rintro v S1 ⟨rfl,l,KC,rfl⟩;refine Bl ⟨by show 2<=sizeLine;omega,Al (x,l),d.os.map Al,rfl,bW _,by rw[List.length_map];omega,_,rfl,?_⟩
  rw[show(jD S d).set (S.length+(2+1)) (.lst (d.os.map Al++[Al (x,l)]))=S++[.ins 0 (Ak S.length), .lst (d.ins.map MT.inD), .lst (d.gs.map A8), .lst ((d.os++[(x,l)]).map Al), .dct (vz d.nm), .dct (vz d.on), .dct (Kp d.nu)] by rw[show d.os.map Al++[Al (x,l)]=(d.os++[(x,l)]).map Al by simp];exact dH _ _]
  refine vY <| pM <| gU (d:= .bl true) rfl <| w_fld (k:=S.length) <| w_var (v:= .loc S.length) rfl ⟨_,_,rfl,bW 0,lk (i:=4) (by decide+kernel),gU (d:= .str x) rfl ⟨_,_,_,Sum.inr x,vz d.on,rfl,rfl,rfl,rfl,bW _,by rw[u0,hon];omega,trivial,_,by unfold fQ;rw [if_neg h2,if_neg h3,KC],?_⟩⟩
  rw[uP h2,show d.on++[x]=({d with os:=d.os++[(x,l)]}:Dr).on by unfold Dr.on;simp]
  exact dH _ _
 .rintro c S1 ⟨rfl,rfl,hn⟩;exact⟨by unfold fQ;rw [if_neg h2,if_neg h3,hn],rfl⟩
end
end K01
end
section
namespace K01
open PySem PySem.Spec PyProof.Rows L2 L3 MT JT TX
structure Rw (n:Nat) (r:Str):Prop where
 len:r.length<=n
 cps:∀c∈r.cps.toList,c < 16 ^ 8
section
variable {S:aG} {d:Dr}
theorem AJ{r:Str}{n:Nat}(h:r.length<=n):(Txt.split r SP).length<=n+2/\∀w∈Txt.split r SP,w.length<=n:=
 ⟨Nat.le_trans (split_le r SP) (by omega),fun w hw=>Nat.le_trans (part_short hw) h⟩
theorem HB(DD:lV d)(hr:Rw 1000000 r):WE (fO [.loc S.length, .d (.str r)] (jD S d)) (fun v S1=>v= .d .cu/\∃d',gZ d (Txt.split r SP)= .ok d'/\S1=jD S d') (fun c S1=>gZ d (Txt.split r SP)= .error c/\S1=jD S d):=by
 have hz:sizeLine=16777216:=sizeLine_eq;have hrl:=hr.len;obtain⟨MB,hww⟩:=AJ hrl;unfold fO;refine Kk rfl ?_;simp only[dm,lU,List.map,List.length,List.replicate,List.cons_append,List.nil_append,Nat.reduceAdd,Nat.reduceSub];unfold oy;refine iW <| vY <| iS (by simp) <| gU (d:= .lst ((Txt.split r SP).map .str)) (nL (x:=r) rfl (au rfl rfl) (by rw[zi];exact rP (by omega))) ⟨_,rfl,?_⟩
 simp only[List.set];generalize Txt.split r SP=ws at MB hww;have h7:∀w∈ws,w.length<=10000000:=fun w hw=>Nat.le_trans (hww w hw) (by omega)
 have ix:∀{i:Nat} {δ:aq},i < ws.length->ag 2 δ= .ok (.lst (ws.map .str))->e2 c9 (ag 2) (eC (.int i)) δ= .ok (.str (wd ws i)):=fun hi hv=>ax (a:= .lst (ws.map .str)) hv rfl (uh hi)
 refine pd <| z9 (b:=Bc ws) (pE (aC (ds:=[.lst (ws.map .str)]) rfl (yn (by omega) h7))) ?_
 unfold gZ;cases hi:Bc ws with
 | true=>
   rw[if_pos rfl,if_pos rfl];have hi':=hi;unfold Bc at hi';simp only[Bool.and_eq_true,decide_eq_true_eq] at hi';obtain⟨h3,_,hn,hwd⟩:=hi';obtain⟨_,w3,wk⟩:=Cv hwd;refine sL <| sN (k:=S.length) <| w_var (v:= .loc S.length) rfl ⟨_,rfl,bW 0,La (by decide+kernel),bX <| gU (d:= .str (wd ws 1)) (ix (i:=1) (by omega) rfl) <| bX <| gU (d:=nI (Hj (wd ws 2))) ?_ <| gW ?_⟩
   .unfold wH;rw[show e2 c9 (ag 2) (eC (.int 2)) _= .ok (.str (wd ws 2)) from ix (i:=2) (by omega) rfl,R.aK]
    show(match Eh.lookup (wd ws 2) with | some i=>R.ok (D.int i) | none=> .no)=_
    rw[wk];rfl
   .refine(Aw DD hn w3).mono ?_ fun _ _ q=>q
    rintro v S1 ⟨rfl,q⟩;exact⟨trivial,q⟩
 | false=>
   rw[if_neg (by decide),if_neg (by decide)]
   refine pd <| z9 (b:=A_ ws) (pE (aC (ds:=[.lst (ws.map .str)]) rfl (uM (by omega) h7))) ?_
   cases hg:A_ ws with
   | true=>
     rw[if_pos rfl,if_pos rfl];have hg':=hg;unfold A_ at hg';simp only[Bool.and_eq_true,decide_eq_true_eq] at hg';obtain⟨⟨h4,_⟩,⟨hn,hk⟩,_,_⟩:=hg';obtain⟨k1,_,_⟩:=Bs hk;have hdl:(ws.drop 3).length<=1000:=by
      have hg':=hg;unfold A_ at hg';simp only[Bool.and_eq_true,decide_eq_true_eq] at hg';have h5:=hg'.2.2.1;obtain⟨_,k2,k3⟩:=Bs hk;rw[k3] at h5;have:=Lv (yw (wd ws 2));simp only[Option.getD_some] at h5;omega
     refine sL <| sN (k:=S.length) <| w_var (v:= .loc S.length) rfl ⟨_,rfl,bW 0,La (by decide+kernel),bX <| gU (d:= .str (wd ws 1)) (ix (i:=1) (by omega) rfl) <| bX <| gU (d:= .str (wd ws 2)) (ix (i:=2) (by omega) rfl) <| bX <| gU (d:= .lst ((ws.drop 3).map .str)) (f6 (d:= .lst (ws.map .str)) (lo:=some ((3:Nat):Int)) (hi:=none) rfl (cM rfl) rfl ((q9 (by rw[List.length_map];omega)).trans (by rw[List.map_drop]))) <| bX <| gU (d:= .bl (wd ws 0==Str.ofString "sure")) (ax (a:= .str (wd ws 0)) (b:= .str (Str.ofString "sure")) (ix (i:=0) (by omega) rfl) rfl (xI _ _)) <| gW ?_⟩
     refine(vC DD hn k1 hdl fun w hw=>Nat.le_trans (hww w (List.mem_of_mem_drop hw)) (by omega)).mono ?_ fun _ _ q=>q
     rintro v S1 ⟨rfl,q⟩;exact⟨trivial,q⟩
   | false=>
     rw[if_neg (by decide),if_neg (by decide)]
     refine pd <| z9 (b:=Ei ws) (pE (aC (ds:=[.lst (ws.map .str)]) rfl (vQ (by omega) h7))) ?_
     cases ho:Ei ws with
     | true=>
       rw[if_pos rfl,if_pos rfl];have qy:=ho;unfold Ei at qy;simp only[Bool.and_eq_true,decide_eq_true_eq] at qy;obtain⟨⟨h4,_,hn⟩,h5,_⟩:=qy;refine sL <| sN (k:=S.length) <| w_var (v:= .loc S.length) rfl ⟨_,rfl,bW 0,La (by decide+kernel),bX <| gU (d:= .str (wd ws 1)) (ix (i:=1) (by omega) rfl) <| bX <| gU (d:= .lst ((ws.drop 2).map .str)) (f6 (d:= .lst (ws.map .str)) (lo:=some ((2:Nat):Int)) (hi:=none) rfl (cM rfl) rfl ((q9 (by rw[List.length_map];omega)).trans (by rw[List.map_drop]))) <| gW ?_⟩
       refine(xS DD hn (by omega) fun w hw=>Nat.le_trans (hww w (List.mem_of_mem_drop hw)) (by omega)).mono ?_ fun _ _ q=>q
       rintro v S1 ⟨rfl,q⟩;exact⟨trivial,q⟩
     | false=>
       rw[if_neg (by decide),if_neg (by decide)]
       have hrp:=StrLaws.reprText_len r hr.cps;refine q_ <| bX <| gU (d:= .str _) (oH (ss:=[Str.ofString "a row of no form: ",reprText r]) (iX rfl (iX (x:=reprText r) ?_ rfl)) ?_) <| gW ⟨by show 1<=sizeLine;omega,rfl,rfl⟩
       .show R.aI (decide ((reprText r).length<=sizeLine)) (R.ok (D.str (reprText r)))=_;exact bD _ (by omega)
       .show((Str.empty++Str.ofString "a row of no form: ")++reprText r).length<=_;rw[Str.length_append,Str.length_append];have:(Str.ofString "a row of no form: ").length<=100:=by decide+kernel
        show 0+_+_<=_;omega
theorem pl{v:V3}{n:Nat}:∀{fs:List (Str × V3)},fs.length < n->(u6 f v fs).length < n+1
 | [],h=>by show 1 < n+1;simp at h;omega
 | (g,x) ::r,h=>by
   unfold u6;split
   .simp at h ⊢;omega
   .have:=pl (f:=f) (v:=v) (n:=n - 1) (fs:=r) (by simp at h;omega)
    simp at h ⊢;omega
theorem Ex{Q:V3->aG->Prop}(h:Q (.d .cu) (jD S d0)):W3 (cO [.loc S.length] (S++[.ins 0 []])) Q:=by
 unfold cO;refine ND rfl ?_;simp only[dm,ei,List.map,List.length,List.replicate,List.cons_append,List.nil_append,Nat.reduceAdd,Nat.reduceSub];unfold hV;have a0:∀{l:List SO},(S++l)[S.length]? =l[0]?:=fun {l}=>bW 0
 have ln:∀{l:List SO},(S++l).length=S.length+l.length:=fun {l}=>List.length_append
 refine dI <| lC (k:=S.length) <| Cm (ds:=[]) rfl <| w_var (v:= .loc S.length) rfl ⟨[],rfl,by rw[List.append_assoc];exact a0,by decide,_,rfl,?_⟩
 rw[ln,List.append_assoc,show ∀x:SO,List.set (S++([.ins 0 []]++[.lst []])) S.length x=S++[x, .lst []] from fun x=>dH (S:=S) (l:=[.ins 0 [], .lst []]) 0 x]
 refine dI <| lC (k:=S.length) <| Cm (ds:=[]) rfl <| w_var (v:= .loc S.length) rfl ⟨_,rfl,by rw[List.append_assoc];exact a0,pl (by decide),_,rfl,?_⟩
 rw[ln,List.append_assoc];refine(show ∀{F:FZ} {δ:DE} {Q:Ou->aG->Prop} {x y:aG},x=y->W3 (F δ y) Q->W3 (F δ x) Q from fun e h=>by rw[e];exact h) (dH (S:=S) (l:=[_, .lst [], .lst []]) 0 _) ?_
 show W3 (cz _ _ _ (S++[_,SO.lst [],SO.lst []])) _;refine dI <| lC (k:=S.length) <| Cm (ds:=[]) rfl <| w_var (v:= .loc S.length) rfl ⟨_,rfl,by rw[List.append_assoc];exact a0,pl (pl (by decide)),_,rfl,?_⟩
 rw[ln,List.append_assoc];refine(show ∀{F:FZ} {δ:DE} {Q:Ou->aG->Prop} {x y:aG},x=y->W3 (F δ y) Q->W3 (F δ x) Q from fun e h=>by rw[e];exact h) (dH (S:=S) (l:=[_, .lst [], .lst [], .lst []]) 0 _) ?_
 show W3 (cz _ _ _ (S++[_,SO.lst [],SO.lst [],SO.lst []])) _;refine dI <| lC (k:=S.length) <| xy <| w_var (v:= .loc S.length) rfl ⟨_,rfl,by rw[List.append_assoc];exact a0,pl (pl (pl (by decide))),_,rfl,?_⟩
 rw[ln,List.append_assoc];refine(show ∀{F:FZ} {δ:DE} {Q:Ou->aG->Prop} {x y:aG},x=y->W3 (F δ y) Q->W3 (F δ x) Q from fun e h=>by rw[e];exact h) (dH (S:=S) (l:=[_, .lst [], .lst [], .lst [], .dct []]) 0 _) ?_
 show W3 (cz _ _ _ (S++[_,SO.lst [],SO.lst [],SO.lst [],SO.dct []])) _;refine dI <| lC (k:=S.length) <| xy <| w_var (v:= .loc S.length) rfl ⟨_,rfl,by rw[List.append_assoc];exact a0,pl (pl (pl (pl (by decide)))),_,rfl,?_⟩
 rw[ln,List.append_assoc];refine(show ∀{F:FZ} {δ:DE} {Q:Ou->aG->Prop} {x y:aG},x=y->W3 (F δ y) Q->W3 (F δ x) Q from fun e h=>by rw[e];exact h) (dH (S:=S) (l:=[_, .lst [], .lst [], .lst [], .dct [], .dct []]) 0 _) ?_
 show W3 (vf _ _ _ _ _ (S++[_,SO.lst [],SO.lst [],SO.lst [],SO.dct [],SO.dct []])) _;refine lC (k:=S.length) <| xy <| w_var (v:= .loc S.length) rfl ⟨_,rfl,by rw[List.append_assoc];exact a0,pl (pl (pl (pl (pl (by decide))))),_,rfl,?_⟩
 rw[ln,List.append_assoc];refine(show ∀{x y:aG},x=y->Q (.d .cu) y->Q (.d .cu) x from fun e h=>by rw[e];exact h) (dH (S:=S) (l:=[_, .lst [], .lst [], .lst [], .dct [], .dct [], .dct []]) 0 _) ?_
 exact h
end
end K01
end
section
namespace K01
open PySem PySem.Spec PyProof.Rows L2 L3 MT JT TX
theorem rR{c a:Nat}:∀{l:Yc} {x:List Nat},x∈l->a∈x->a∈jn c l
 | [y],x,hx,ha=>by rw[List.mem_singleton.mp hx] at ha;exact ha
 | y ::z ::r,x,hx,ha=>by
   show a∈y++c ::jn c (z ::r);rcases List.mem_cons.mp hx with e | e
   .rw [e] at ha;exact List.mem_append_left _ ha
   .exact List.mem_append_right _ (List.mem_cons_of_mem _ (rR e ha))
theorem Gw{n c:Nat}(h:Rw n x)(hp:p∈Txt.split x ⟨#[c]⟩):Rw n p:=by
 refine⟨Nat.le_trans (part_short hp) h.len,fun a ha=>h.cps a ?_⟩
 rw[<-StrLaws.join_split x ⟨#[c]⟩,gf];exact rR (List.mem_map_of_mem hp) ha
section
variable {S:aG}
theorem Fj{rs:List Str}(hr:∀r∈rs,Rw 1000000 r){d:Dr}(DD:lV d){T:Str}{ws:List Str}{a3:Option V3}:WE (g4 (GX 3) pU ((rs.map D.str).map V3.d) [some (.d (.str T)),some (.d (.lst (ws.map .str))),some (.loc S.length),a3] (jD S d)) (fun o S1=>∃d' b3,o= .nx [some (.d (.str T)),some (.d (.lst (ws.map .str))),some (.loc S.length),b3]/\fV d rs= .ok d'/\lV d'/\S1=jD S d') (fun c S1=>fV d rs= .error c/\∃T,S1=S++T):=by
 induction rs generalizing d a3 with
 | nil=>exact .inl ⟨_,_,rfl,d,a3,rfl,rfl,DD,rfl⟩
 | cons r rs ih=>
   show WE ((pU [some (.d (.str T)),some (.d (.lst (ws.map .str))),some (.loc S.length),some (.d (.str r))] (jD S d)).bind _) _ _;refine WE.bind ?_;unfold pU;refine sL <| B2 <| bX <| w_var (v:= .loc S.length) rfl <| bX <| gU (d:= .str r) rfl <| gW <| (HB DD (hr r List.mem_cons_self)).mono ?_ ?_
   .rintro v S1 ⟨rfl,d',h1,rfl⟩;have:=ih (fun x hx=>hr x (List.mem_cons_of_mem _ hx)) (F5 DD h1) (a3:=some (.d (.str r)))
    unfold fV;rw[h1];exact this
   .rintro c S1 ⟨h1,rfl⟩;unfold fV;rw[h1];exact⟨rfl,_,rfl⟩
theorem y9(ht:Rw 1000000 text):WE (kC [.d (.str text)] S) (fun v S1=>∃d,oi (Txt.split text NL)= .ok d/\lV d/\v= .tup [.loc (S.length+1), .loc (S.length+2), .loc (S.length+3)]/\S1=jD S d) (fun c S1=>oi (Txt.split text NL)= .error c/\∃T,S1=S++T):=by
 have hz:sizeLine=16777216:=sizeLine_eq;have htl:=ht.len;unfold kC;refine Kk rfl ?_;simp only[dm,vk,List.map,List.length,List.replicate,List.cons_append,List.nil_append,Nat.reduceAdd,Nat.reduceSub];unfold xD;have hrl:(Txt.split text NL).length<=1000002:=Nat.le_trans (split_le text NL) (by omega)
 have hrr:∀r∈Txt.split text NL,Rw 1000000 r:=by rw[yZ];exact fun r hr=>Gw ht hr
 refine iW <| vY <| iS (by simp) <| gU (d:= .lst ((Txt.split text NL).map .str)) (nL (x:=text) rfl (au rfl rfl) (by rw[yZ];exact rP (by omega))) ⟨_,rfl,?_⟩
 simp only[List.set];generalize Txt.split text NL=rs at hrl hrr;refine iW <| pd <| z9 (b:=decide (80 < rs.length)) (dS (a:=nI rs.length) (b:=nI 80) (aC (ds:=[.lst (rs.map .str)]) rfl (by rw[oC,List.length_map])) rfl (Lk _ _)) ?_
 unfold oi;by_cases h1:80 < rs.length
 .rw [decide_eq_true h1,if_pos rfl,if_pos h1];exact q_ <| bX <| gU (d:= .str _) rfl <| gW ⟨by show 1<=sizeLine;omega,rfl,[],by simp⟩
 .rw [decide_eq_false h1,if_neg (by decide),if_neg h1]
  refine mS ⟨_,rfl,?_⟩;refine iW <| vY <| iS (by simp) <| HI <| gW <| Ex ⟨rfl,_,rfl,?_⟩
  simp only[List.set];refine iW <| Hh <| Dw (ds:=rs.map .str) (qt rfl) ?_
  refine(Fj hrr Mf).mono ?_ ?_
  .rintro o S1 ⟨d,b3,rfl,h2,DD,rfl⟩;refine⟨_,rfl,?_⟩;rw[h2];have key:W3 (Mj (Cu (mT (eE 0 (Str.ofString "ins") (bE 2)))) (Cu (mT (eE 0 (Str.ofString "outs") (bE 2)))) [some (.d (.str text)),some (.d (.lst (rs.map .str))),some (.loc S.length),b3] (jD S d)) fun b S1=>b=decide (d.ins=[]\/d.os=[])/\S1=jD S d:=by
    refine W3.bind (W3.bind (rK <| i8 (i:=0) rfl (by decide+kernel) ⟨_,_,rfl,GH,W3.ok ?_⟩))
    rw[sF d.ins];by_cases hi:d.ins=[]
    .rw [decide_eq_false (fun q=>q hi),decide_eq_true (.inl hi)]
     exact W3.ok ⟨rfl,rfl⟩
    .rw [decide_eq_true hi,show(!true)=false from rfl,if_neg (by decide)]
     refine W3.bind (rK <| i8 (i:=2) rfl (by decide+kernel) ⟨_,_,rfl,ze,W3.ok ?_⟩)
     rw[sF d.os];refine⟨?_,rfl⟩;by_cases ho:d.os=[]
     .rw [decide_eq_false (fun q=>q ho),decide_eq_true (.inr ho)];rfl
     .rw [decide_eq_true ho,decide_eq_false fun q=>q.elim hi ho];rfl
   refine iW <| pd <| key.mono ?_
   rintro b S1 ⟨rfl,rfl⟩;simp only;by_cases h3:d.ins=[]\/d.os=[]
   .rw [decide_eq_true h3,if_pos rfl,if_pos h3];exact q_ <| bX <| gU (d:= .str _) rfl <| gW ⟨by show 1<=sizeLine;omega,rfl,_,rfl⟩
   .rw [decide_eq_false h3,if_neg (by decide),if_neg h3]
    refine mS ⟨_,rfl,?_⟩;exact vY <| wF <| Mu <| bX <| i8 (i:=0) rfl (by decide+kernel) <| bX <| i8 (i:=1) rfl (by decide+kernel) <| bX <| i8 (i:=2) rfl (by decide+kernel) <| gW ⟨by show 3<=sizeLine;omega,d,rfl,DD,rfl,rfl⟩
  .rintro c S1 ⟨h2,q⟩;rw[h2];exact⟨rfl,q⟩
end
end K01
end
section
set_option maxHeartbeats 4000000
namespace K01
open PySem PySem.Spec PyProof.Rows L2 L3 MT JT
def stir(cell k:Int):Int:=if 10 ^ 18<=cell then(cell - 10 ^ 18) / 2 ^ (28*k).toNat % 2 ^ 28
 else((cell+1013*k+1)*16807 % 2147483647)*((cell+1013*k+1)*16807 % 2147483647) % 2147483629*39373 % 2147483587 / 8
theorem Fd(cell k:Int)(hk:0<=k):bB [.int cell, .int k]= .ok (.int (stir cell k)):=by
 have p1:∀δ,e2 z7 (eC (.int 10)) (eC (.int 18)) δ= .ok (.int (10 ^ 18)):=fun δ=>rfl
 have p2:∀δ,e2 z7 (eC (.int 2)) (eC (.int 28)) δ= .ok (.int (2 ^ 28)):=fun δ=>rfl
 have ge:∀a b:Int,HJ (.int a) (.int b)= .ok (.bl (decide (a>=b))):=fun a b=>rfl
 have mulc:∀(a b:Int),(-(2 ^ 64) < b/\b < 2 ^ 64)->nV (.int a) (.int b)= .ok (.int (a*b)):=fun a b h=>by
  show R.aI (decide _) (R.ok (D.int (a*b)))=_;exact bD _ (.inr h)
 have mulc':∀(a b:Int),(-(2 ^ 64) < a/\a < 2 ^ 64)->nV (.int a) (.int b)= .ok (.int (a*b)):=fun a b h=>by
  show R.aI (decide _) (R.ok (D.int (a*b)))=_;exact bD _ (.inl h)
 unfold bB so stir;by_cases h:(10:Int) ^ 18<=cell
 .rw [if_pos h];refine fS (NT.pz (n8 (dS (a:= .int cell) (b:= .int (10 ^ 18)) rfl (p1 _) ((ge _ _).trans (by rw[decide_eq_true h]))) (cw (ax (a:= .int ((cell - 10 ^ 18) / 2 ^ (28*k).toNat)) (b:= .int (2 ^ 28)) (ax (a:= .int (cell - 10 ^ 18)) (b:= .int (28*k)) (ax (a:= .int cell) (b:= .int (10 ^ 18)) rfl (p1 _) rfl) (ax (a:= .int 28) (b:= .int k) rfl rfl (mulc' _ _ ⟨by omega,by omega⟩)) ?_) (p2 _) (sC (by omega))))))
  show R.aI (decide ((0:Int)<=28*k)) (R.ok (D.int ((cell - 10 ^ 18) / 2 ^ (28*k).toNat)))=_;exact bD _ (by omega)
 .rw [if_neg h];refine fS (aV (m8 (dS (a:= .int cell) (b:= .int (10 ^ 18)) rfl (p1 _) ((ge _ _).trans (by rw[decide_eq_false h]))) rfl) (aV (bq (d:= .int ((cell+1013*k+1)*16807 % 2147483647)) (ax (a:= .int ((cell+1013*k+1)*16807)) (b:= .int 2147483647) (ax (a:= .int (cell+1013*k+1)) (b:= .int 16807) (ax (a:= .int (cell+1013*k)) (b:= .int 1) (ax (a:= .int cell) (b:= .int (1013*k)) rfl (ax (a:= .int 1013) (b:= .int k) rfl rfl (mulc' _ _ ⟨by omega,by omega⟩)) rfl) rfl rfl) rfl (mulc _ _ ⟨by omega,by omega⟩)) rfl (sC (by omega))) (by simp [c5,lT])) ?_))
  have b1:0<=(cell+1013*k+1)*16807 % 2147483647:=Int.emod_nonneg _ (by omega)
  have QG:(cell+1013*k+1)*16807 % 2147483647 < 2147483647:=Int.emod_lt_of_pos _ (by omega)
  generalize (cell+1013*k+1)*16807 % 2147483647=x at b1 QG;refine aV (bq (d:= .int (x*x % 2147483629)) (ax (a:= .int (x*x)) (b:= .int 2147483629) (ax (a:= .int x) (b:= .int x) rfl rfl (mulc _ _ ⟨by omega,by omega⟩)) rfl (sC (by omega))) (by simp [c5,lT])) (cw ?_)
  exact ax (a:= .int (x*x % 2147483629*39373 % 2147483587)) (b:= .int 8) (ax (a:= .int (x*x % 2147483629*39373)) (b:= .int 2147483587) (ax (a:= .int (x*x % 2147483629)) (b:= .int 39373) rfl rfl (mulc _ _ ⟨by omega,by omega⟩)) rfl (sC (by omega))) rfl (zt (by omega) (by omega))
theorem Fq(cell k:Int):0<=stir cell k:=by
 unfold stir;split <;> omega
def stN(cell:Int)(k:Nat):Nat:=(stir cell k).toNat
theorem tZ(cell:Int)(k:Nat):bB [.int cell,nI k]= .ok (nI (stN cell k)):=by
 show bB [.int cell, .int k]=_;rw[Fd cell k (by omega)]
 unfold nI stN;rw[Int.toNat_of_nonneg (Fq _ _)]
end K01
end
section
set_option maxHeartbeats 1000000
namespace K01
open PySem PySem.Spec PyProof.Rows L2 L3 MT JT TX
def x9(o:Option Nat):D:=match o with | none=> .lst [] | some n=> .lst ((List.range 14).map fun k=> .bl (decide (n=k)))
theorem xG{S:aG}(hS:JN S)(Sq:WE (kC [.d (.str text)] S) (fun v S1=>∃d,oi (Txt.split text NL)= .ok d/\lV d/\v= .tup [.loc (S.length+1), .loc (S.length+2), .loc (S.length+3)]/\S1=jD S d) (fun c S1=>oi (Txt.split text NL)= .error c/\∃T,S1=S++T)){o:Option Nat}(ho:match oi (Txt.split text NL) with | .ok _=>o=none | .error c=>2<=c/\c<=8/\o=some (c - 2)){Q:V3->aG->Prop}(h:Q (.d (x9 o)) S):W3 (gm [.d (.str text)] S) Q:=by
 have hz:sizeLine=16777216:=sizeLine_eq;unfold gm;refine Hd hS (RY rfl ?_);simp only[dm,eP,List.map,List.length,List.replicate,List.cons_append,List.nil_append,Nat.reduceAdd,Nat.reduceSub];unfold kK;refine dI <| iS (by simp) <| gU (d:= .lst []) (bC (cb rfl (by show 0<=sizeLine;omega))) ⟨_,rfl,?_⟩
 simp only[List.set];refine dI <| K5 <| sL <| B2 <| bX <| gU (d:= .str text) rfl <| gW <| S9 hS <| Sq.mono ?_ ?_
 .rintro v S1 ⟨d,hd,_,rfl,rfl⟩;rw[hd] at ho;subst ho;have e1:(jD S d)[S.length+1]? =some (.lst (d.ins.map MT.inD)):=by rw[bW];rfl
  have e2:(jD S d)[S.length+2]? =some (.lst (d.gs.map A8)):=by rw[bW];rfl
  have e3:(jD S d)[S.length+3]? =some (.lst (d.os.map Al)):=by rw[bW];rfl
  refine⟨by simp [mM,pG],⟨_,rfl⟩,yi d.ins d.gs d.os,by simp only[res,vO,e1,e2,e3];rfl,⟨_,rfl,wF <| gU rfl ⟨_,rfl,rfl,⟨[],by simp⟩,_,rfl,h⟩⟩⟩
 .rintro c S1 ⟨hc,T,rfl⟩;rw[hc] at ho;obtain⟨c2,c8,rfl⟩:=ho;refine⟨⟨_,rfl⟩,?_⟩;have isE:∀{tb:List (Nat × Bool)} {b:Bool} {δ:DE} {Q:V3->aG->Prop},δ[2]? =some (some (.loc S.length))->qK tb c=some b->Q (.d (.bl b)) (S++[.exc c])->W3 (kO (bE 2) (qK tb) δ (S++[.exc c])) Q:=fun h1 h2 h3=>Mm <| w_var h1 ⟨S.length,c,_,rfl,NT.DQ S _,h2,h3⟩
  have l4:∀{SX SU SI SD:List (Nat × Bool)} {b1 b2 b3 b4:Bool} {δ:DE} {Q:V3->aG->Prop},δ[2]? =some (some (.loc S.length))->qK SX c=some b1->qK SU c=some b2->qK SI c=some b3->qK SD c=some b4->Q (.d (.lst [.bl b1, .bl b2, .bl b3, .bl b4])) (S++[.exc c])->W3 (yg (aR (kO (bE 2) (qK SX)) (aR (kO (bE 2) (qK SU)) (aR (kO (bE 2) (qK SI)) (aR (kO (bE 2) (qK SD)) dh)))) δ (S++[.exc c])) Q:=fun h1 t1 t2 t3 t4 hq=>GY <| bX <| isE h1 t1 <| bX <| isE h1 t2 <| bX <| isE h1 t3 <| bX <| isE h1 t4 <| gW ⟨by show 4<=sizeLine;omega,hq⟩
  have ad:∀(a b:List D),a.length+b.length<=14->bO (.lst a) (.lst b)= .ok (.lst (a++b)):=fun a b h=>uW (by omega)
  refine⟨by rcases(show c=2\/c=3\/c=4\/c=5\/c=6\/c=7\/c=8 by omega) with rfl | rfl | rfl | rfl | rfl | rfl | rfl <;> rfl,?_⟩
  simp only[dm,eP,List.map,List.length,List.replicate,List.cons_append,List.nil_append,Nat.reduceAdd,Nat.reduceSub];simp only[List.set];rcases(show c=2\/c=3\/c=4\/c=5\/c=6\/c=7\/c=8 by omega) with rfl | rfl | rfl | rfl | rfl | rfl | rfl
  all_goals
   refine dI <| iS (by simp) <| l4 rfl rfl rfl rfl rfl ⟨_,rfl,?_⟩
   simp only[List.set];refine dI <| iS (by simp) <| M5 <| gU rfl <| l4 rfl rfl rfl rfl rfl ⟨_,_,_,rfl,rfl,ad _ _ (by decide),⟨_,rfl,?_⟩⟩
   simp only[List.set];refine dI <| iS (by simp) <| M5 <| gU rfl <| l4 rfl rfl rfl rfl rfl ⟨_,_,_,rfl,rfl,ad _ _ (by decide),⟨_,rfl,?_⟩⟩
   simp only[List.set];refine iS (by simp) <| M5 <| gU rfl <| GY <| bX <| isE rfl rfl <| bX <| IX <| isE rfl rfl ⟨_,rfl,gW ⟨by show 2<=sizeLine;omega,⟨_,_,_,rfl,rfl,ad _ _ (by decide),⟨_,rfl,⟨_,rfl,wF <| gU rfl ⟨_,rfl,rfl,⟨_,rfl⟩,_,rfl,h⟩⟩⟩⟩⟩⟩
theorem xj(ht:Rw 1000000 text){o:Option Nat}(ho:match oi (Txt.split text NL) with | .ok _=>o=none | .error c=>2<=c/\c<=8/\o=some (c - 2)){Q:V3->aG->Prop}{S:aG}(hS:JN S)(h:Q (.d (x9 o)) S):W3 (gm [.d (.str text)] S) Q:=xG hS (y9 ht) ho h
end K01
end
section
namespace K01
open PySem PySem.Spec PyProof.Rows L2 L3 MT JT TX
structure Tx (w:Str):Prop where
 len:w.length<=100000
 cps:∀c∈w.cps.toList,c < 1114112
theorem IU{c:Nat}(h:c < 1114112):PyData.strOk (⟨#[c]⟩:Str)=true:=by
 unfold PyData.strOk;rw[<-Array.all_toList,List.all_eq_true];intro x hx;have:x=c:=by simpa using hx
 rw[this];exact decide_eq_true h
theorem JQ(c:Nat):jb (.str ⟨#[c]⟩) (.str uV)= .ok (.bl (!decide (97<=c/\c<=122))):=by
 show R.ok (D.bl (!(!(Builtin.Str.occurrences uV ⟨#[c]⟩ 0 uV.length 1).isEmpty)))=_;rw[StrLaws.found_one];congr 3;by_cases h:97<=c/\c<=122
 .rw [decide_eq_true h,decide_eq_true (rg.mpr h)]
 .rw [decide_eq_false h,decide_eq_false fun q=>h (rg.mp q)]
abbrev Fp:Str:=Str.ofString "0123456789"
theorem z8:Fp.cps.toList=(List.range 10).map (48+·):=by decide+kernel
theorem zU{c:Nat}:c∈Fp.cps.toList↔48<=c/\c<=57:=by
 rw[z8,List.mem_map];constructor
 .rintro⟨i,hi,rfl⟩;have:=List.mem_range.mp hi;omega
 .intro h;exact⟨c - 48,List.mem_range.mpr (by omega),by omega⟩
theorem HQ(c:Nat):jb (.str ⟨#[c]⟩) (.str Fp)= .ok (.bl (!decide (48<=c/\c<=57))):=by
 show R.ok (D.bl (!(!(Builtin.Str.occurrences Fp ⟨#[c]⟩ 0 Fp.length 1).isEmpty)))=_;rw[StrLaws.found_one];congr 3;by_cases h:48<=c/\c<=57
 .rw [decide_eq_true h,decide_eq_true (zU.mpr h)]
 .rw [decide_eq_false h,decide_eq_false fun q=>h (zU.mp q)]
theorem rq:nY=(List.range 10).map fun i=>(⟨#[48+i]⟩:Str):=by decide+kernel
theorem BV{c:Nat}:nY.contains (⟨#[c]⟩:Str)=decide (48<=c/\c<=57):=by
 rw[Bool.eq_iff_iff,List.contains_iff_mem,rq,List.mem_map,decide_eq_true_eq];constructor
 .rintro⟨i,hi,e⟩;have hi:=List.mem_range.mp hi;have e2:(⟨#[48+i]⟩:Str).cps.toList=(⟨#[c]⟩:Str).cps.toList:=by rw[e]
  have e3:[48+i]=[c]:=e2;have:48+i=c:=by simpa using e3
  omega
 .intro h;refine⟨c - 48,List.mem_range.mpr (by omega),?_⟩
  rw[show 48+(c - 48)=c by omega]
theorem JU{y:Str}(h:y.length=1):∃c,y=⟨#[c]⟩:=by
 rw[nU] at h;obtain⟨c,hc⟩:=List.length_eq_one_iff.mp h;exact⟨c,kH (by rw[hc])⟩
theorem qZ(T:Tx w):hJ [.str w]= .ok (.bl (isNm w)):=by
 have hz:sizeLine=16777216:=sizeLine_eq;have hl:=T.len;unfold hJ rH
 let st:List Str:=(w.cps.toList.filter fun c=>!decide (97<=c/\c<=122)).map fun c=>⟨#[c]⟩
 have e1:st.isEmpty=low w:=by
  unfold low;rw[Bool.eq_iff_iff,List.isEmpty_iff,List.all_eq_true];show((w.cps.toList.filter _).map _)=[]↔_;rw[List.map_eq_nil_iff,List.filter_eq_nil_iff];simp
 have yA:∀s∈st,PyData.strOk s=true:=fun s hs=>by
  obtain⟨c,hc,rfl⟩:=List.mem_map.mp hs;exact IU (T.cps c (List.mem_filter.mp hc).1)
 refine fS (aV (bq (d:= .lst (st.map .str)) (bC (lN (ds:=w.cps.toList.map fun c=> .str ⟨#[c]⟩) rfl (by rw[List.length_map,Array.length_toList];show w.length<=_;omega) ?_)) (by simp [c5,jM])) ?_)
 .rw [List.map_map];exact NT.sv (fun c=>!decide (97<=c/\c<=122)) (fun c=> .str ⟨#[c]⟩) _ fun c hc=>⟨[.val (.str ⟨#[c]⟩)],rfl,dS (a:= .str ⟨#[c]⟩) (b:= .str uV) rfl rfl (JQ c),fun _=>rfl⟩
 refine aV (bq (d:= .lst (jW.map .str)) (bC (cb (ds:=jW.map .str) rfl (by show 9<=sizeLine;omega))) (by simp [c5,jM])) (cw ?_)
 have q1:e2 pP (ag 1) (eNew (e8 aJ)) [.val (.str w), .val (.lst (st.map .str)), .val (.lst (jW.map .str))]= .ok (.bl (low w)):=by
  refine ax (a:= .lst (st.map .str)) (b:= .lst []) rfl (bC (cb rfl (by show 0<=sizeLine;omega))) ?_
  unfold pP;rw[FU yA,e1];rfl
 have q2:qo Hb Hb (eC (.int 1)) (aM eT (ai (ag 0) aJ)) (eC (.int 8)) [.val (.str w), .val (.lst (st.map .str)), .val (.lst (jW.map .str))]= .ok (.bl (decide (1<=w.length) && decide (w.length<=8))):=by
  have c0:aM eT (ai (ag 0) aJ) [.val (.str w), .val (.lst (st.map .str)), .val (.lst (jW.map .str))]= .ok (nI w.length):=aC (ds:=[.str w]) rfl (len_str (by omega))
  unfold qo;rw[show eC (.int 1) [.val (.str w), .val (.lst (st.map .str)), .val (.lst (jW.map .str))]= .ok (nI 1) from rfl,R.aK,c0,R.aK,Iw,R.aK]
  by_cases h:1<=w.length
  .rw [decide_eq_true h];show(R.ok (nI 8)).bind (fun c=>Hb (nI w.length) c)=_
   rw[R.aK,Iw];rfl
  .rw [decide_eq_false h];rfl
 have q3:e2 jb (ag 0) (ag 2) [.val (.str w), .val (.lst (st.map .str)), .val (.lst (jW.map .str))]= .ok (.bl (!jW.contains w)):=ax (a:= .str w) (b:= .lst (jW.map .str)) rfl rfl (JK _ _);refine(gc q1 fun _=>gc q2 fun _=>q3).trans ?_
 congr 2;unfold isNm;cases low w <;> cases decide (1<=w.length) <;> cases decide (w.length<=8) <;> cases jW.contains w <;> rfl
theorem Dj{c d:Nat}:∀{l:Yc} {x:List Nat},x∈l->d∈x->d∈jn c l
 | [y],x,h,hd=>by rw[List.mem_singleton.mp h] at hd;exact hd
 | y ::z ::r,x,h,hd=>by
   rcases List.mem_cons.mp h with e | h
   .subst e;exact List.mem_append_left _ hd
   .exact List.mem_append_right _ (List.mem_cons_of_mem _ (Dj h hd))
theorem B_{c:Nat}:∀{l:Yc} {x:List Nat},x∈l->x.length<=(jn c l).length
 | [y],x,h=>by rw[List.mem_singleton.mp h];exact Nat.le_refl _
 | y ::z ::r,x,h=>by
   show x.length<=(y++c ::jn c (z ::r)).length;rw[List.length_append,List.length_cons];rcases List.mem_cons.mp h with e | h
   .subst e;omega
   .have:=B_ (c:=c) h;omega
theorem F_(T:Tx w):jJ [.str w]= .ok (.bl (dM w)):=by
 have hz:sizeLine=16777216:=sizeLine_eq;have hl:=T.len;have h1:=StrLaws.join_split w ⟨#[58]⟩;have h2:=StrLaws.split_free w 58;have h3:=split_pos w ⟨#[58]⟩;unfold jJ sG;obtain⟨l,hle⟩:∃l,Txt.split w ⟨#[58]⟩=l:=⟨_,rfl⟩;refine fS (aV (bq (d:= .lst (l.map .str)) (nL (x:=w) rfl (au (d:= .str ⟨#[58]⟩) (by show R.ok (D.str CO)=_;rw [n_]) rfl) ((rP (by omega)).trans (by rw[hle]))) (by simp [c5,ot])) ?_)
 rw[hle] at h1 h2 h3;have cm:∀p∈l,∀c∈p.cps.toList,c∈w.cps.toList:=fun p hp c hc=>by
  rw[<-h1,gf];exact Dj (List.mem_map_of_mem hp) hc
 have tl:∀p∈l,p.length<=w.length:=fun p hp=>by
  have:p.cps.toList.length<=(jn 58 (l.map fun s=>s.cps.toList)).length:=B_ (List.mem_map_of_mem hp)
  rw[<-gf,h1] at this;rw[nU,nU];exact this
 have Tp:∀p∈l,Tx p:=fun p hp=>⟨by have:=tl p hp;omega,fun c hc=>T.cps c (cm p hp c hc)⟩
 have len:∀δ:aq,ag 1 δ= .ok (.lst (l.map .str))->aM eT (ai (ag 1) aJ) δ= .ok (nI l.length):=fun δ h=>aC (ds:=[.lst (l.map .str)]) (au h rfl) (by rw[oC,List.length_map])
 match KC:l,h3 with
 | [x],_=>
   have hx:w=x:=by rw[<-h1];rfl
   have q:b2 pP (aM eT (ai (ag 1) aJ)) (eC (.int 2)) [.val (.str w), .val (.lst ([x].map .str))]= .ok false:=rfl;refine aV (m8 (q0 (b:=false) q fun h=>by cases h) rfl) (cw ((gc (a:=isNm x) (b:=true) (aC (ds:=[.str x]) (au (ax (a:= .lst [.str x]) (b:= .int 0) rfl rfl rfl) rfl) (qZ (Tp x (by simp)))) fun _=>rfl).trans ?_))
   have hc:58 ∉ w.cps.toList:=by rw[hx];exact h2 x (by simp)
   unfold dM;rw[n_,qh hc,hx];show R.ok (D.bl (isNm x && true))=R.ok (D.bl (isNm x && ((Str.empty==Str.empty) || _)))
   rw[show(Str.empty==Str.empty)=true from rfl,Bool.true_or]
 | [x,y],_=>
   have hx:w=x++⟨#[58]⟩++y:=by rw[<-h1];rfl
   have hc:58 ∉ x.cps.toList:=h2 x (by simp)
   have wf:dM w=(isNm x && nY.contains y):=by
    unfold dM;rw[n_,nO hc hx];show(isNm x && (((⟨#[58]⟩:Str)==Str.empty) || nY.contains y))=_
    rw[show((⟨#[58]⟩:Str)==Str.empty)=false by decide+kernel,Bool.false_or]
   have q:b2 pP (aM eT (ai (ag 1) aJ)) (eC (.int 2)) [.val (.str w), .val (.lst ([x,y].map .str))]= .ok true:=rfl;have yl:=tl y (by simp)
   have iy:e2 c9 (ag 1) (eC (.int 1)) [.val (.str w), .val (.lst ([x,y].map .str))]= .ok (.str y):=ax (a:= .lst [.str x, .str y]) (b:= .int 1) rfl rfl rfl;have q1:b2 zu (aM eT (ai (e2 c9 (ag 1) (eC (.int 1))) aJ)) (eC (.int 1)) [.val (.str w), .val (.lst ([x,y].map .str))]= .ok (!decide (y.length=1)):=dS (a:=nI y.length) (b:=nI 1) (aC (ds:=[.str y]) (au iy rfl) (len_str (by omega))) rfl (NQ _ _)
   by_cases hy:y.length=1
   .obtain⟨c,rfl⟩:=JU hy;rw[decide_eq_true hy] at q1;have q2:b2 jb (e2 c9 (ag 1) (eC (.int 1))) (eC (.str (Str.ofString "0123456789"))) [.val (.str w), .val (.lst ([x,⟨#[c]⟩].map .str))]= .ok (!decide (48<=c/\c<=57)):=dS (a:= .str ⟨#[c]⟩) (b:= .str Fp) iy rfl (HQ c);have qq:=q0 q fun _=>l7 q1 fun _=>q2
    rw[wf,BV];by_cases hd:48<=c/\c<=57
    .rw [decide_eq_true hd] at qq ⊢;refine aV (m8 qq rfl) (cw (gc (a:=isNm x) (b:=true) (aC (ds:=[.str x]) (au (ax (a:= .lst [.str x, .str ⟨#[c]⟩]) (b:= .int 0) rfl rfl rfl) rfl) (qZ (Tp x (by simp)))) fun _=>rfl))
    .rw [decide_eq_false hd] at qq ⊢;rw[Bool.and_false];exact NT.pz (n8 qq (cw rfl))
   .rw [decide_eq_false hy] at q1;have qq:AZ (b2 pP (aM eT (ai (ag 1) aJ)) (eC (.int 2))) (AE (b2 zu (aM eT (ai (e2 c9 (ag 1) (eC (.int 1))) aJ)) (eC (.int 1))) (b2 jb (e2 c9 (ag 1) (eC (.int 1))) (eC (.str (Str.ofString "0123456789"))))) [.val (.str w), .val (.lst ([x,y].map .str))]= .ok (true && (!false || true)):=q0 q fun _=>l7 (b:=true) q1 fun h=>by cases h
    have:nY.contains y=false:=by
     cases e:nY.contains y with
     | false=>rfl
     | true=>exact absurd (Bo y (List.contains_iff_mem.mp e)) hy
    rw[wf,this,Bool.and_false];exact NT.pz (n8 qq (cw rfl))
 | x ::y ::z ::r,_=>
   have hx:w=x++⟨#[58]⟩++Str.join ⟨#[58]⟩ (y ::z ::r):=by rw[<-h1];rfl
   have hc:58 ∉ x.cps.toList:=h2 x (by simp)
   have hm:58∈(Str.join ⟨#[58]⟩ (y ::z ::r)).cps.toList:=by
    rw[gf];show 58∈y.cps.toList++58 ::_;exact List.mem_append_right _ List.mem_cons_self
   have wf:dM w=false:=by
    unfold dM;rw[n_,nO hc hx];show(isNm x && (((⟨#[58]⟩:Str)==Str.empty) || nY.contains (Str.join ⟨#[58]⟩ (y ::z ::r))))=_
    have:nY.contains (Str.join ⟨#[58]⟩ (y ::z ::r))=false:=by
     cases e:nY.contains (Str.join ⟨#[58]⟩ (y ::z ::r)) with
     | false=>rfl
     | true=>
       have m:=List.contains_iff_mem.mp e;rw[rq] at m;obtain⟨i,hi,e2⟩:=List.mem_map.mp m;rw[<-e2] at hm;have hi:=List.mem_range.mp hi;have:58=48+i:=by simpa using hm
       omega
    rw[this,show((⟨#[58]⟩:Str)==Str.empty)=false by decide+kernel,Bool.false_or,Bool.and_false]
   have n3:3<=(x ::y ::z ::r).length:=by simp
   have q:b2 pP (aM eT (ai (ag 1) aJ)) (eC (.int 2)) [.val (.str w), .val (.lst ((x ::y ::z ::r).map .str))]= .ok false:=(dS (a:=nI (x ::y ::z ::r).length) (b:=nI 2) (len _ rfl) rfl (wc _ _)).trans (by rw[decide_eq_false (by omega)])
   rw[wf];refine aV (m8 (q0 (b:=false) q fun h=>by cases h) rfl) (cw ((gc (a:=isNm x) (b:=false) (aC (ds:=[.str x]) (au (ax (a:= .lst ((x ::y ::z ::r).map .str)) (b:= .int 0) rfl rfl (NT.eV (z:=0) rfl)) rfl) (qZ (Tp x (by simp)))) fun _=>(ax (a:=nI (x ::y ::z ::r).length) (b:=nI 3) (len _ rfl) rfl (AS _ _)).trans (by rw[decide_eq_false (by omega)])).trans (by rw[Bool.and_false])))
end K01
end
section
namespace K01
open PySem PySem.Spec PyProof.Rows L2 L3 MT JT TX
structure Pw (P:Nat->Prop) (n:Nat) (w:Str):Prop where
 len:w.length<=n
 ch:∀c∈w.cps.toList,P c
section
variable {P:Nat->Prop} {n m:Nat} {a b:Str}
theorem Pw.mono(h:Pw P n a)(hm:n<=m):Pw P m a:=⟨Nat.le_trans h.len hm,h.ch⟩
theorem Pw.app(h:Pw P n a)(h':Pw P m b):Pw P (n+m) (a++b):=⟨by rw[Str.length_append];have:=h.len;have:=h'.len;omega,fun c hc=>by
 rw[cP] at hc;rcases List.mem_append.mp hc with z | z
 .exact h.ch c z
 .exact h'.ch c z⟩
theorem Pw.slice(h:Pw P n a)(lo hi:Option Int):Pw P n (Txt.slice a lo hi):=⟨Nat.le_trans (Txt.slice_le a lo hi) h.len,fun c hc=>by
 unfold Txt.slice at hc;split at hc
 .exact h.ch c hc
 .rw [List.toList_toArray,List.mem_filterMap] at hc;obtain⟨i,_,e⟩:=hc;exact h.ch c (by have:=Array.mem_of_getElem? e;simpa using this)⟩
theorem uk{x:Array Nat}{c:Nat}:∀(k:Nat) (acc:Array Nat),c∈((List.replicate k x).foldl (·++·) acc).toList->c∈acc.toList\/c∈x.toList
 | 0,acc,h=> .inl h
 | k+1,acc,h=>by
   rw[List.replicate_succ,List.foldl_cons] at h;rcases uk k (acc++x) h with z | z
   .rw [Array.toList_append] at z;exact List.mem_append.mp z
   .exact .inr z
theorem Pw.mul(h:Pw P n a){k:Nat}:Pw P (n*k) (Txt.mul a k):=⟨by
 have:=len_mul a k;rw[if_neg (by simp)] at this
 have h2:(Txt.mul a k).length=a.length*k:=by exact_mod_cast this
 rw[h2];exact Nat.mul_le_mul_right k h.len,fun c hc=>by
 unfold Txt.mul at hc;split at hc
 .cases hc
 .split at hc
  .exact h.ch c hc
  .rcases uk _ _ hc with z | z
   .cases z
   .exact h.ch c z⟩
theorem Pw.at(h:Pw P n a)(hn:n<=1000000){i:Nat}(hi:i < a.length):∃c,P c/\c9 (.str a) (nI i)= .ok (.str ⟨#[c]⟩):=by
 have hz:sizeLine=16777216:=sizeLine_eq;have hl:=h.len;have hi2:i < a.cps.toList.length:=by rw[<-nU];exact hi
 refine⟨a.cps.toList[i],h.ch _ (List.getElem_mem hi2),DN (by omega) ?_⟩
 exact NT.wb (List.getElem?_eq_getElem hi2)
theorem xH{c:Nat}(h:P c):Pw P 1 ⟨#[c]⟩:=⟨Nat.le_refl _,fun d hd=>by
 have:d=c:=by simpa using hd
 rw[this];exact h⟩
theorem zg{d:Nat}:∀{l:List Str},d∈(Str.join (Str.ofString "") l).cps.toList->∃s∈l,d∈s.cps.toList
 | [],h=>by cases h
 | [x],h=>⟨x,List.mem_cons_self,h⟩
 | x ::y ::r,h=>by
   have h:d∈(x++Str.ofString ""++Str.join (Str.ofString "") (y ::r)).cps.toList:=h;rw[cP,cP] at h;rcases List.mem_append.mp h with z | z
   .rcases List.mem_append.mp z with z | z
    .exact⟨x,List.mem_cons_self,z⟩
    .rw [show(Str.ofString "").cps.toList=[] by decide+kernel] at z;cases z
   .obtain⟨s,hs,hd⟩:=zg z;exact⟨s,List.mem_cons_of_mem _ hs,hd⟩
theorem yV:∀{l:List Str},(∀s∈l,s.length<=1)->(Str.join (Str.ofString "") l).length<=l.length
 | [],h=>by show 0<=_;omega
 | [x],h=>h x List.mem_cons_self
 | x ::y ::r,h=>by
   show(x++Str.ofString ""++Str.join (Str.ofString "") (y ::r)).length<=_;have h1:=h x List.mem_cons_self;have h2:=yV (l:=y ::r) fun s hs=>h s (List.mem_cons_of_mem _ hs)
   rw[Str.length_append,Str.length_append,show(Str.ofString "").length=0 by decide+kernel]
   rw[List.length_cons (as:=y ::r)];omega
end
abbrev CW:Str:=Str.ofString "!\"#$&'()*+,-./0123456789:;<=>?@ABCXYZ[]^_`{|}~"
abbrev Ki:Str:=Str.ofString " \n\\DEFGHIJKLMNOPQRSTUVW"
abbrev Kz:Str:=Str.ofString " \n"
def Sg(k:Nat)(c:Nat):Prop:=c < 128/\(k≠1->c≠32/\c≠10)
theorem fj{k:Nat}{w:Str}(h:∀c∈w.cps.toList,33<=c/\c < 128){n:Nat}(hl:w.length<=n):Pw (Sg k) n w:=⟨hl,fun c hc=>⟨(h c hc).2,fun _=>by have:=h c hc;omega⟩⟩
theorem zD(cell:Int)(k:Nat):∃w,e_ [.int cell,nI k]= .ok (.str w)/\Pw (Sg k) 1000 w:=by
 have hz:sizeLine=16777216:=sizeLine_eq;obtain⟨n,hn⟩:∃n,stN cell k=n:=⟨_,rfl⟩;obtain⟨few,mm,efew⟩:∃few,(few=Str.ofString "xyz"\/few=uV)/\c9 (.lst [.str (Str.ofString "xyz"), .str uV]) (nI (n / 8 % 2))= .ok (.str few):=by
  rcases(show n / 8 % 2=0\/n / 8 % 2=1 by omega) with e | e <;> rw[e]
  .exact⟨_, .inl rfl,NT.eV (z:=0) rfl⟩
  .exact⟨_, .inr rfl,NT.eV (z:=1) rfl⟩
 have pfew:Pw (Sg k) 26 few/\0 < few.length:=by
  rcases mm with rfl | rfl
  .exact⟨fj (by decide+kernel) (by decide+kernel),by decide+kernel⟩
  .exact⟨fj (by decide+kernel) (by decide+kernel),by decide+kernel⟩
 obtain⟨pfew,fpos⟩:=pfew;have ch:∀j:Nat,∃c,Sg k c/\c9 (.str few) (nI (stN cell (k+1+j) % few.length))= .ok (.str ⟨#[c]⟩):=fun j=>pfew.at (by omega) (Nat.mod_lt _ fpos)
 obtain⟨q,hq⟩:∃q,n / 16 % 10=q:=⟨_,rfl⟩
 let cs:List Str:=(List.range q).map fun j=>⟨#[Classical.choose (ch j)]⟩
 have csl:cs.length=q:=by show((List.range q).map _).length=q;simp
 have cs1:∀s∈cs,s.length<=1:=fun s hs=>by obtain⟨j,_,rfl⟩:=List.mem_map.mp hs;exact Nat.le_refl _
 obtain⟨w0,SV⟩:∃w0,Str.join (Str.ofString "") cs=w0:=⟨_,rfl⟩;have p0:Pw (Sg k) 10 w0:=by
  rw[<-SV];refine⟨Nat.le_trans (yV cs1) (by omega),fun c hc=>?_⟩
  obtain⟨s,hs,hd⟩:=zg hc;obtain⟨j,_,rfl⟩:=List.mem_map.mp hs;have:c=Classical.choose (ch j):=by simpa using hd
  rw[this];exact(Classical.choose_spec (ch j)).1
 have jo:mJ (.str (Str.ofString "")) [.lst (cs.map .str)]= .ok (.str w0):=by
  rw[<-SV];refine yR ?_;have:=ve (l:=cs.map (·.length)) (m:=1) fun x hx=>by obtain⟨s,hs,rfl⟩:=List.mem_map.mp hx;exact cs1 s hs
  rw[List.length_map] at this;rw[show(Str.ofString "").length=0 by decide+kernel];omega
 let E:Sl->Sl->Sl->Sl->Sl->aq:=fun w a b c d=>[.val (.int cell), .val (nI k), .val (nI n), .val (.str uV), .val (.str few),w,a,b,c,d]
 have md:∀(m:Nat) (δ:aq),0 < m->ag 2 δ= .ok (nI n)->e2 cC (ag 2) (eC (.int m)) δ= .ok (nI (n % m)):=fun m δ hm h=>ax (a:=nI n) (b:=nI m) h rfl (n6 hm)
 have dv:∀(d m:Nat) (δ:aq),0 < m->0 < d->d < 10000->ag 2 δ= .ok (nI n)->e2 cC (e2 eD (ag 2) (eC (.int d))) (eC (.int m)) δ= .ok (nI (n / d % m)):=fun d m δ hm hd hd2 h=>ax (a:=nI (n / d)) (b:=nI m) (ax (a:=nI n) (b:=nI d) h rfl (yT hd (by omega))) rfl (n6 hm)
 have sl:∀(x:Str) (lo hi:Option Int),x.length<=1000->DM (.str x) lo hi= .ok (.str (Txt.slice x lo hi)):=fun x lo hi h=>by unfold DM;exact bD _ (by omega)
 unfold e_ sO;have end4:∀(w:Str) (a b c d:Sl),Pw (Sg k) 25 w->∃w',Pw (Sg k) 1000 w'/\cn (qQ (b2 pP (e2 cC (ag 2) (eC (.int 8))) (eC (.int 4))) (cD 5 (e2 nV (ag 5) (e2 c9 (eNew (e8 (ai (eC (.int 2)) (ai (eC (.int 40)) aJ)))) (e2 cC (e2 eD (ag 2) (eC (.int 160))) (eC (.int 2)))))) kJ) (ja (ag 5)) (E (.val (.str w)) a b c d)= .ok (.rt (.str w')):=fun w a b c d pw=>by
  have pl:=pw.len;have c4:b2 pP (e2 cC (ag 2) (eC (.int 8))) (eC (.int 4)) (E (.val (.str w)) a b c d)= .ok (decide (n % 8=4)):=dS (a:=nI (n % 8)) (b:=nI 4) (md 8 _ (by omega) rfl) rfl (wc _ _)
  by_cases h4:n % 8=4
  .rw [decide_eq_true h4] at c4;obtain⟨r,hr,er⟩:∃r:Nat,r<=40/\c9 (.lst [.int 2, .int 40]) (nI (n / 160 % 2))= .ok (nI r):=by
    rcases(show n / 160 % 2=0\/n / 160 % 2=1 by omega) with e | e <;> rw[e]
    .exact⟨2,by omega,rfl⟩
    .exact⟨40,by omega,rfl⟩
   have hm:w.length*r<=1000:=Nat.le_trans (Nat.mul_le_mul pl hr) (by omega)
   refine⟨Txt.mul w r,(pw.mul (k:=r)).mono (by have:=Nat.mul_le_mul_left 25 hr;omega),aV (n8 c4 (bq (d:= .str (Txt.mul w r)) (ax (a:= .str w) (b:=nI r) rfl (ax (a:= .lst [.int 2, .int 40]) (b:=nI (n / 160 % 2)) (bC (cb (ds:=[.int 2, .int 40]) rfl (by show 2<=sizeLine;omega))) (dv 160 2 _ (by omega) (by omega) (by omega) rfl) er) ?_) (by simp [E]))) (cw rfl)⟩
   show R.aI (decide (-(2 ^ 63)<=(r:Int)/\(r:Int) < 2 ^ 63/\w.length*(r:Int).toNat<=sizeLine)) (R.ok (D.str (Txt.mul w (r:Int))))=_;exact bD _ ⟨by omega,by omega,by rw[Int.toNat_natCast];omega⟩
  .rw [decide_eq_false h4] at c4;exact⟨w,pw.mono (by omega),aV (m8 c4 rfl) (cw rfl)⟩
 have end3:∀(w:Str) (a b c:Sl),Pw (Sg k) 12 w->∃w' b' d',Pw (Sg k) 25 w'/\qQ (b2 pP (e2 cC (ag 2) (eC (.int 8))) (eC (.int 3))) (cn (cD 9 (eC (.str (Str.ofString "!\"#$&'()*+,-./0123456789:;<=>?@ABCXYZ[]^_`{|}~")))) (cn (qQ (b2 pP (ag 1) (eC (.int 1))) (cD 9 (e2 bO (e2 bO (ag 9) (eC (.str (Str.ofString " \n\\DEFGHIJKLMNOPQRSTUVW")))) (e2 nV (eC (.str (Str.ofString " \n"))) (eC (.int 9))))) kJ) (cn (cD 7 (e2 cC (e2 eD (ag 2) (eC (.int 160))) (e2 bO (aM eT (ai (ag 5) aJ)) (eC (.int 1))))) (cD 5 (e2 bO (e2 bO (q8 (ag 5) eB (dF (ag 7))) (e2 c9 (ag 9) (e2 cC (aM bB (ai (ag 0) (ai (e2 bO (ag 1) (eC (.int 11))) aJ))) (aM eT (ai (ag 9) aJ))))) (q8 (ag 5) (dF (ag 7)) eB)))))) kJ (E (.val (.str w)) a b c .un)= .ok (.nx (E (.val (.str w')) a b' c d')):=fun w a b c pw=>by
  have pl:=pw.len;have c3:b2 pP (e2 cC (ag 2) (eC (.int 8))) (eC (.int 3)) (E (.val (.str w)) a b c .un)= .ok (decide (n % 8=3)):=dS (a:=nI (n % 8)) (b:=nI 3) (md 8 _ (by omega) rfl) rfl (wc _ _)
  by_cases h3:n % 8=3
  .rw [decide_eq_true h3] at c3;obtain⟨sg,psg,sV,esg⟩:∃sg,Pw (Sg k) 1000 sg/\0 < sg.length/\qQ (b2 pP (ag 1) (eC (.int 1))) (cD 9 (e2 bO (e2 bO (ag 9) (eC (.str (Str.ofString " \n\\DEFGHIJKLMNOPQRSTUVW")))) (e2 nV (eC (.str (Str.ofString " \n"))) (eC (.int 9))))) kJ (E (.val (.str w)) a b c (.val (.str CW)))= .ok (.nx (E (.val (.str w)) a b c (.val (.str sg)))):=by
    have ck:b2 pP (ag 1) (eC (.int 1)) (E (.val (.str w)) a b c (.val (.str CW)))= .ok (decide (k=1)):=dS (a:=nI k) (b:=nI 1) rfl rfl (wc _ _);have l1:CW.length<=60:=by decide+kernel
    have l0:0 < CW.length:=by decide+kernel
    have l2:Ki.length<=60:=by decide+kernel
    have l3:(Txt.mul Kz 9).length<=60:=by decide+kernel
    by_cases hk:k=1
    .rw [decide_eq_true hk] at ck;have any:∀(x:Str) (m:Nat),(∀c∈x.cps.toList,c < 128)->x.length<=m->Pw (Sg k) m x:=fun x m h hl=>⟨hl,fun c hc=>⟨h c hc,fun h1=>absurd hk h1⟩⟩
     refine⟨CW++Ki++Txt.mul Kz 9,((((any CW 60 (by decide+kernel) l1).app (any Ki 60 (by decide+kernel) l2)).app (any (Txt.mul Kz 9) 60 (by decide+kernel) l3)).mono (by omega)),by rw[Str.length_append,Str.length_append];omega,n8 ck (bq (d:= .str (CW++Ki++Txt.mul Kz 9)) (ax (a:= .str (CW++Ki)) (b:= .str (Txt.mul Kz 9)) (ax (a:= .str CW) (b:= .str Ki) rfl rfl (bu (by omega))) (ax (a:= .str Kz) (b:= .int 9) rfl rfl ?_) (bu (by rw[Str.length_append];omega))) (by simp [E]))⟩
     unfold nV;exact bD _ (by decide+kernel)
    .rw [decide_eq_false hk] at ck;exact⟨CW,(fj (by decide+kernel) l1).mono (by omega),by decide+kernel,m8 ck rfl⟩
   obtain⟨at',hat⟩:∃t,n / 160 % (w.length+1)=t:=⟨_,rfl⟩;obtain⟨sc,psc,esc⟩:=psg.at (by omega) (i:=stN cell (k+11) % sg.length) (Nat.mod_lt _ sV)
   have sgl:=psg.len;have s1:=(pw.slice none (some (at':Int))).len;have s2:=(pw.slice (some (at':Int)) none).len;refine⟨Txt.slice w none (some (at':Int))++⟨#[sc]⟩++Txt.slice w (some (at':Int)) none, .val (nI at'), .val (.str sg),?_,?_⟩
   .exact(((pw.slice none (some (at':Int))).app (xH psc)).app (pw.slice (some (at':Int)) none)).mono (by omega)
   .refine n8 c3 (aV (bq (d:= .str CW) rfl (by simp [E])) (aV esg (aV (bq (d:=nI at') ((ax (a:=nI (n / 160)) (b:=nI (w.length+1)) (ax (a:=nI n) (b:=nI 160) rfl rfl (yT (by omega) (by omega))) (ax (a:=nI w.length) (b:=nI 1) (aC (ds:=[.str w]) rfl (len_str (by omega))) rfl (tV _ _)) (n6 (by omega))).trans (by rw[hat])) (by simp [E])) ?_)))
    exact bq (d:= .str (Txt.slice w none (some (at':Int))++⟨#[sc]⟩++Txt.slice w (some (at':Int)) none)) (ax (a:= .str (Txt.slice w none (some (at':Int))++⟨#[sc]⟩)) (b:= .str (Txt.slice w (some (at':Int)) none)) (ax (a:= .str (Txt.slice w none (some (at':Int)))) (b:= .str ⟨#[sc]⟩) (f6 (d:= .str w) (lo:=none) (hi:=some (at':Int)) rfl rfl (cM rfl) (sl _ _ _ (by omega))) (ax (a:= .str sg) (b:=nI (stN cell (k+11) % sg.length)) rfl (ax (a:=nI (stN cell (k+11))) (b:=nI sg.length) (aC (ds:=[.int cell,nI (k+11)]) (au rfl (au (ax (a:=nI k) (b:=nI 11) rfl rfl (tV _ _)) rfl)) (tZ _ _)) (aC (ds:=[.str sg]) rfl (len_str (by omega))) (n6 sV)) esc) (bu (by show _+1<=_;omega))) (f6 (d:= .str w) (lo:=some (at':Int)) (hi:=none) rfl (cM rfl) rfl (sl _ _ _ (by omega))) (bu (by rw[Str.length_append];show _+1+_<=_;omega))) (by simp [E])
  .rw [decide_eq_false h3] at c3;exact⟨w,b, .un,pw.mono (by omega),m8 c3 rfl⟩
 have bl:∀w∈jW,w.length<=5:=by decide+kernel
 have bc:∀w∈jW,∀c∈w.cps.toList,33<=c/\c < 128:=by decide+kernel
 have end2:∃w' a' b' c',Pw (Sg k) 12 w'/\qQ (b2 Bg (e2 cC (ag 2) (eC (.int 8))) (eC (.int 3))) (cn (cD 6 (eNew (e8 (ai (eC (.str (Str.ofString "in"))) (ai (eC (.str (Str.ofString "gate"))) (ai (eC (.str (Str.ofString "sure"))) (ai (eC (.str (Str.ofString "out"))) (ai (eC (.str (Str.ofString "not"))) (ai (eC (.str (Str.ofString "and"))) (ai (eC (.str (Str.ofString "or"))) (ai (eC (.str (Str.ofString "xor"))) (ai (eC (.str (Str.ofString "vote"))) aJ)))))))))))) (cn (cD 5 (e2 c9 (ag 6) (e2 cC (e2 eD (ag 2) (eC (.int 8))) (eC (.int 9))))) (cn (cD 7 (e2 cC (e2 eD (ag 2) (eC (.int 72))) (e2 bO (aM eT (ai (ag 5) aJ)) (eC (.int 1))))) (cn (cD 8 (e2 c9 (ag 3) (e2 cC (e2 eD (ag 2) (eC (.int 700))) (eC (.int 26))))) (cD 5 (e2 c9 (eNew (e8 (ai (ag 5) (ai (e2 bO (e2 bO (q8 (ag 5) eB (dF (ag 7))) (ag 8)) (q8 (ag 5) (dF (ag 7)) eB)) (ai (e2 bO (q8 (ag 5) eB (dF (ag 7))) (q8 (ag 5) (dF (e2 bO (ag 7) (eC (.int 1)))) eB)) aJ))))) (e2 cC (ag 2) (eC (.int 8))))))))) kJ (E (.val (.str w0)) .un .un .un .un)= .ok (.nx (E (.val (.str w')) a' b' c' .un)):=by
  have c2:b2 Bg (e2 cC (ag 2) (eC (.int 8))) (eC (.int 3)) (E (.val (.str w0)) .un .un .un .un)= .ok (decide (n % 8 < 3)):=dS (a:=nI (n % 8)) (b:=nI 3) (md 8 _ (by omega) rfl) rfl (AS _ _)
  by_cases h2:n % 8 < 3
  .rw [decide_eq_true h2] at c2;obtain⟨w,hw,ew⟩:=Jd (l:=jW) (i:=n / 8 % 9) (by show n / 8 % 9 < 9;omega)
   have wl:=bl w hw;have pw:Pw (Sg k) 5 w:=fj (bc w hw) wl;obtain⟨at',hat⟩:∃t,n / 72 % (w.length+1)=t:=⟨_,rfl⟩;obtain⟨mo,hmo⟩:∃t,F9 (n / 700 % 26)=t:=⟨_,rfl⟩;have pm:Pw (Sg k) 1 mo:=by
    rw[<-hmo];have:=EM (i:=n / 700 % 26) (by omega)
    exact fj (fun c hc=>by have:=this.low c hc;omega) this.len
   have ml:=pm.len;have s1:=(pw.slice none (some (at':Int)));have s2:=(pw.slice (some (at':Int)) none);have s3:=(pw.slice (some ((at'+1:Nat):Int)) none);have t1:=s1.len;have t2:=s2.len;have t3:=s3.len
   let v1:Str:=Txt.slice w none (some (at':Int))++mo++Txt.slice w (some (at':Int)) none
   let v2:Str:=Txt.slice w none (some (at':Int))++Txt.slice w (some ((at'+1:Nat):Int)) none
   obtain⟨w',WB,V2⟩:∃w',Pw (Sg k) 12 w'/\c9 (.lst [.str w, .str v1, .str v2]) (nI (n % 8))= .ok (.str w'):=by
    rcases(show n % 8=0\/n % 8=1\/n % 8=2 by omega) with e | e | e <;> rw[e]
    .exact⟨w,pw.mono (by omega),NT.eV (z:=0) rfl⟩
    .exact⟨v1,((s1.app pm).app s2).mono (by omega),NT.eV (z:=1) rfl⟩
    .exact⟨v2,(s1.app s3).mono (by omega),NT.eV (z:=2) rfl⟩
   refine⟨w', .val (.lst (jW.map .str)), .val (nI at'), .val (.str mo),WB,n8 c2 (aV (bq (d:= .lst (jW.map .str)) (bC (cb (ds:=jW.map .str) rfl (by show 9<=sizeLine;omega))) (by simp [E])) (aV (bq (d:= .str w) (ax (a:= .lst (jW.map .str)) (b:=nI (n / 8 % 9)) rfl (dv 8 9 _ (by omega) (by omega) (by omega) rfl) ew) (by simp [E])) (aV (bq (d:=nI at') ((ax (a:=nI (n / 72)) (b:=nI (w.length+1)) (ax (a:=nI n) (b:=nI 72) rfl rfl (yT (by omega) (by omega))) (ax (a:=nI w.length) (b:=nI 1) (aC (ds:=[.str w]) rfl (len_str (by omega))) rfl (tV _ _)) (n6 (by omega))).trans (by rw[hat])) (by simp [E])) (aV (bq (d:= .str mo) ((ax (a:= .str uV) (b:=nI (n / 700 % 26)) rfl (dv 700 26 _ (by omega) (by omega) (by omega) rfl) (Gf (by omega))).trans (by rw[hmo])) (by simp [E])) ?_))))⟩
   exact bq (d:= .str w') (ax (a:= .lst [.str w, .str v1, .str v2]) (b:=nI (n % 8)) (bC (cb (ds:=[.str w, .str v1, .str v2]) (au rfl (au (ax (a:= .str (Txt.slice w none (some (at':Int))++mo)) (b:= .str (Txt.slice w (some (at':Int)) none)) (ax (a:= .str (Txt.slice w none (some (at':Int)))) (b:= .str mo) (f6 (d:= .str w) (lo:=none) (hi:=some (at':Int)) rfl rfl (cM rfl) (sl _ _ _ (by omega))) rfl (bu (by omega))) (f6 (d:= .str w) (lo:=some (at':Int)) (hi:=none) rfl (cM rfl) rfl (sl _ _ _ (by omega))) (bu (by rw[Str.length_append];omega))) (au (ax (a:= .str (Txt.slice w none (some (at':Int)))) (b:= .str (Txt.slice w (some ((at'+1:Nat):Int)) none)) (f6 (d:= .str w) (lo:=none) (hi:=some (at':Int)) rfl rfl (cM rfl) (sl _ _ _ (by omega))) (f6 (d:= .str w) (lo:=some ((at'+1:Nat):Int)) (hi:=none) rfl (cM (ax (a:=nI at') (b:=nI 1) rfl rfl (tV _ _))) rfl (sl _ _ _ (by omega))) (bu (by omega))) rfl))) (by show 3<=sizeLine;omega))) (md 8 _ (by omega) rfl) V2) (by simp [E])
  .rw [decide_eq_false h2] at c2;exact⟨w0, .un, .un, .un,p0.mono (by omega),m8 c2 rfl⟩
 obtain⟨w1,a1,b1,c1,p1,e1⟩:=end2;obtain⟨w2,QG,d2,p2,pY⟩:=end3 w1 a1 b1 c1 p1;obtain⟨w3,p3,e3⟩:=end4 w2 a1 QG c1 d2 p2;refine⟨w3,?_,p3⟩;refine fS (aV (δ1:=[.val (.int cell), .val (nI k), .val (nI n), .un, .un, .un, .un, .un, .un, .un]) (bq (d:=nI n) (aC (ds:=[.int cell,nI k]) rfl (by rw[tZ,hn])) (by simp [c5,lS])) ?_)
 refine aV (bq (d:= .str uV) rfl (by simp)) ?_
 refine aV (bq (d:= .str few) (ax (a:= .lst [.str (Str.ofString "xyz"), .str uV]) (b:=nI (n / 8 % 2)) (bC (cb (ds:=[.str (Str.ofString "xyz"), .str uV]) rfl (by show 2<=sizeLine;omega))) (dv 8 2 _ (by omega) (by omega) (by omega) rfl) efew) (by simp)) ?_
 refine aV (bq (d:= .str w0) (nL (x:=Str.ofString "") rfl (au (d:= .lst (cs.map .str)) (bC (lN (ds:=(List.range q).map nI) (DI (n:=q) ((dv 16 10 _ (by omega) (by omega) (by omega) rfl).trans (by rw[hq])) (by omega)) (by simp;omega) ?_)) rfl) jo) (by simp)) ?_
 .rw [show cs.map D.str=(List.range q).map fun j=>D.str ⟨#[Classical.choose (ch j)]⟩ from List.map_map]
  refine NT.g6 nI _ fun j _=>⟨[.val (nI j), .val (.int cell), .val (nI k), .val (.str few)],rfl,rfl,?_⟩
  have fl:=pfew.len;exact ax (a:= .str few) (b:=nI (stN cell (k+1+j) % few.length)) rfl (ax (a:=nI (stN cell (k+1+j))) (b:=nI few.length) (aC (ds:=[.int cell,nI (k+1+j)]) (au rfl (au (ax (a:=nI (k+1)) (b:=nI j) (ax (a:=nI k) (b:=nI 1) rfl rfl (tV _ _)) rfl (tV _ _)) rfl)) (tZ _ _)) (aC (ds:=[.str few]) rfl (len_str (by omega))) (n6 fpos)) (Classical.choose_spec (ch j)).2
 exact aV e1 (aV pY e3)
end K01
end
section
namespace K01
open PySem PySem.Spec PyProof.Rows L2 L3 MT JT TX
theorem Pw.tx{k n:Nat}(h:Pw (Sg k) n w)(hn:n<=100000):Tx w:=⟨Nat.le_trans h.len hn,fun c hc=>by have:=(h.ch c hc).1;omega⟩
abbrev GL:List Str:=[Str.ofString "",Str.ofString ":0",Str.ofString ":1",Str.ofString ":2",Str.ofString ":3",Str.ofString ":",Str.ofString ":00",Str.ofString ":a",Str.ofString "::1",Str.ofString ":-1",Str.ofString ":9",Str.ofString ":1:"]
theorem Bn:∀w∈GL,w.length<=10/\∀c∈w.cps.toList,33<=c/\c < 128:=by decide+kernel
theorem xm:∀w∈[Str.ofString ":01",Str.ofString ":12",Str.ofString ":89"],w.length<=10/\∀c∈w.cps.toList,33<=c/\c < 128:=by decide+kernel
theorem Gi(cell:Int)(hn:isNm name=true):∃wi,jI [.int cell, .str name]= .ok (.str wi)/\Pw (Sg 50) 2000 wi:=by
 have hz:sizeLine=16777216:=sizeLine_eq;obtain⟨n,MN⟩:∃n,stN cell 40=n:=⟨_,rfl⟩;have nl:=(de.mp hn).2.1;have pn:Pw (Sg 50) 8 name:=fj (fun c hc=>by have:=(de.mp hn).2.2.2 c hc;omega) nl
 have pb:Pw (Sg 50) 1 (Str.ofString "b"):=fj (by decide+kernel) (by decide+kernel)
 have pc:Pw (Sg 50) 1 (Str.ofString "c"):=fj (by decide+kernel) (by decide+kernel)
 have lb:(Str.ofString "b").length=1:=by decide+kernel
 have lc:(Str.ofString "c").length=1:=by decide+kernel
 obtain⟨ow,MQ,eow⟩:∃ow,Pw (Sg 50) 9 ow/\c9 (.lst [.str name, .str (Str.ofString "b"++name), .str (Str.ofString "c"++name)]) (nI (n / 8 % 3))= .ok (.str ow):=by
  rcases(show n / 8 % 3=0\/n / 8 % 3=1\/n / 8 % 3=2 by omega) with e | e | e <;> rw[e]
  .exact⟨name,pn.mono (by omega),NT.eV (z:=0) rfl⟩
  .exact⟨_,(pb.app pn).mono (by omega),NT.eV (z:=1) rfl⟩
  .exact⟨_,(pc.app pn).mono (by omega),NT.eV (z:=2) rfl⟩
 have owl:=MQ.len;have p1:Pw (Sg 50) 8 (Str.ofString "!+-./:;@"):=fj (by decide+kernel) (by decide+kernel)
 have p2:Pw (Sg 50) 10 Fp:=fj (by decide+kernel) (by decide+kernel)
 have pco:Pw (Sg 50) 1 (Str.ofString ":"):=fj (by decide+kernel) (by decide+kernel)
 have lco:(Str.ofString ":").length=1:=by decide+kernel
 obtain⟨c1,VF,Wf⟩:=p1.at (by omega) (i:=stN cell 41 % 8) (by rw[show(Str.ofString "!+-./:;@").length=8 by decide+kernel];omega)
 obtain⟨c2,Wl,Wu⟩:=p2.at (by omega) (i:=stN cell 42 % 10) (by rw[show Fp.length=10 by decide+kernel];omega)
 let L2':List Str:=[Str.ofString ":01",Str.ofString ":12",Str.ofString ":89",Str.ofString ":"++⟨#[c1]⟩]
 let L3':List Str:=[Str.ofString ":"++⟨#[c2]⟩]
 obtain⟨bh,hbh,ebh⟩:=Jd (l:=GL++L2'++L3') (i:=n / 24 % 17) (by show n / 24 % 17 < 17;omega)
 have pbh:Pw (Sg 50) 10 bh:=by
  rcases List.mem_append.mp hbh with z | z
  .rcases List.mem_append.mp z with z | z
   .exact fj (Bn bh z).2 (Bn bh z).1
   .simp only[L2',List.mem_cons,List.not_mem_nil,or_false] at z;rcases z with z | z | z | z
    .have:=xm bh (by simp [z]);exact fj this.2 this.1
    .have:=xm bh (by simp [z]);exact fj this.2 this.1
    .have:=xm bh (by simp [z]);exact fj this.2 this.1
    .rw [z];exact(pco.app (xH VF)).mono (by omega)
  .rw [List.mem_singleton.mp z];exact(pco.app (xH Wl)).mono (by omega)
 have bhl:=pbh.len;obtain⟨SS,ewd,pwd⟩:=zD cell 50;have wdl:=pwd.len;have dv:∀(d m:Nat) (δ:aq),0 < m->0 < d->d < 10000->ag 2 δ= .ok (nI n)->e2 cC (e2 eD (ag 2) (eC (.int d))) (eC (.int m)) δ= .ok (nI (n / d % m)):=fun d m δ hm hd hd2 h=>ax (a:=nI (n / d)) (b:=nI m) (ax (a:=nI n) (b:=nI d) h rfl (yT hd (by omega))) rfl (n6 hm)
 have p8:=MQ.slice none (some 8);have l8:=p8.len;have stm:∀(m k:Nat) (δ:aq),0 < m->ag 0 δ= .ok (.int cell)->e2 cC (aM bB (ai (ag 0) (ai (eC (.int k)) aJ))) (eC (.int m)) δ= .ok (nI (stN cell k % m)):=fun m k δ hm h=>ax (a:=nI (stN cell k)) (b:=nI m) (aC (ds:=[.int cell,nI k]) (au h rfl) (tZ _ k)) rfl (n6 hm)
 have fin:∀o:Str,Pw (Sg 50) 1000 o->qQ (b2 Bg (e2 cC (ag 2) (eC (.int 8))) (eC (.int 2))) (cD 3 (aM e_ (ai (ag 0) (ai (eC (.int 50)) aJ)))) kJ [.val (.int cell), .val (.str name), .val (nI n), .val (.str (Txt.slice ow none (some 8))), .val (.str bh)]= .ok (.nx [.val (.int cell), .val (.str name), .val (nI n), .val (.str o), .val (.str bh)])->∃wi,jI [.int cell, .str name]= .ok (.str wi)/\Pw (Sg 50) 2000 wi:=fun o po h=>by
  have ol:=po.len;refine⟨o++bh,?_,(po.app pbh).mono (by omega)⟩
  unfold jI su;refine fS (aV (δ1:=[.val (.int cell), .val (.str name), .val (nI n), .un, .un]) (bq (d:=nI n) (aC (ds:=[.int cell,nI 40]) rfl (by rw[tZ,MN])) (by simp [c5,oJ])) ?_)
  refine aV (bq (d:= .str (Txt.slice ow none (some 8))) (f6 (d:= .str ow) (lo:=none) (hi:=some 8) (ax (a:= .lst [.str name, .str (Str.ofString "b"++name), .str (Str.ofString "c"++name)]) (b:=nI (n / 8 % 3)) (bC (cb (ds:=[.str name, .str (Str.ofString "b"++name), .str (Str.ofString "c"++name)]) (au rfl (au (ax (a:= .str (Str.ofString "b")) (b:= .str name) rfl rfl (bu (by omega))) (au (ax (a:= .str (Str.ofString "c")) (b:= .str name) rfl rfl (bu (by omega))) rfl))) (by show 3<=sizeLine;omega))) (dv 8 3 _ (by omega) (by omega) (by omega) rfl) eow) rfl (cM rfl) (by unfold DM;exact bD _ (by omega))) (by simp)) ?_
  refine aV (bq (d:= .lst (GL.map .str)) (bC (cb (ds:=GL.map .str) rfl (by show 12<=sizeLine;omega))) (by simp)) ?_
  refine aV (bq (d:= .lst ((GL++L2').map .str)) (ax (a:= .lst (GL.map .str)) (b:= .lst (L2'.map .str)) rfl (bC (cb (ds:=L2'.map .str) (au rfl (au rfl (au rfl (au (ax (a:= .str (Str.ofString ":")) (b:= .str ⟨#[c1]⟩) rfl (ax (a:= .str (Str.ofString "!+-./:;@")) (b:=nI (stN cell 41 % 8)) rfl (stm 8 41 _ (by omega) rfl) Wf) (bu (by show _+1<=_;omega))) rfl)))) (by show 4<=sizeLine;omega))) ((uW (by show 12+4<=sizeLine;omega)).trans (by rw[List.map_append]))) (by simp)) ?_
  refine aV (bq (d:= .str bh) (ax (a:= .lst ((GL++L2'++L3').map .str)) (b:=nI (n / 24 % 17)) (ax (a:= .lst ((GL++L2').map .str)) (b:= .lst (L3'.map .str)) rfl (bC (cb (ds:=L3'.map .str) (au (ax (a:= .str (Str.ofString ":")) (b:= .str ⟨#[c2]⟩) rfl (ax (a:= .str Fp) (b:=nI (stN cell 42 % 10)) rfl (stm 10 42 _ (by omega) rfl) Wu) (bu (by show _+1<=_;omega))) rfl) (by show 1<=sizeLine;omega))) ((uW (by show 16+1<=sizeLine;omega)).trans (by rw[<-List.map_append]))) (dv 24 17 _ (by omega) (by omega) (by omega) rfl) ebh) (by simp)) ?_
  exact aV h (cw (ax (a:= .str o) (b:= .str bh) rfl rfl (bu (by omega))))
 have c2':b2 Bg (e2 cC (ag 2) (eC (.int 8))) (eC (.int 2)) [.val (.int cell), .val (.str name), .val (nI n), .val (.str (Txt.slice ow none (some 8))), .val (.str bh)]= .ok (decide (n % 8 < 2)):=dS (a:=nI (n % 8)) (b:=nI 2) (ax (a:=nI n) (b:=nI 8) rfl rfl (n6 (by omega))) rfl (AS _ _)
 by_cases h2:n % 8 < 2
 .rw [decide_eq_true h2] at c2';exact fin SS pwd (n8 c2' (bq (d:= .str SS) (aC (ds:=[.int cell,nI 50]) rfl ewd) (by simp)))
 .rw [decide_eq_false h2] at c2';exact fin _ (p8.mono (by omega)) (m8 c2' rfl)
section
variable {n0 n1 n2 wi:Str}
abbrev I3(n0 n1 n2:Str):Ya:=[(n0,1),(n1,2),(n2,3)]
abbrev OO:Str:=Str.ofString "o"
theorem G2:isNm OO=true:=by decide+kernel
theorem Cy(d:Dr)(wi:Str):gZ d [Str.ofString "out",OO,wi]=if dM wi=true then fQ d OO [wi] else .error 3:=by
 unfold gZ;have e1:Bc [Str.ofString "out",OO,wi]=false:=OJ _ _ (by decide+kernel)
 have e2:A_ [Str.ofString "out",OO,wi]=false:=K9 _ _ _;have e3:Ei [Str.ofString "out",OO,wi]=dM wi:=by
  unfold Ei;show((true && ((Str.ofString "out"==Str.ofString "out") && isNm OO)) && (true && (dM wi && true)))=_;rw[G2,show(Str.ofString "out"==Str.ofString "out")=true by decide+kernel]
  cases dM wi <;> rfl
 rw[e1,e2,e3,if_neg (by decide),if_neg (by decide)]
 rfl
theorem AY(hn:[n0,n1,n2].Nodup)(h0:isNm n0=true)(h1:isNm n1=true)(h2:isNm n2=true)(hw:32 ∉ wi.cps.toList):oi [Str.join SP (pC (n0,1)),Str.join SP (pC (n1,2)),Str.join SP (pC (n2,3)),Str.join SP [Str.ofString "out",OO,wi]]=if dM wi=true then(match idx (Be (I3 n0 n1 n2)) wi with | some i=> .ok ⟨I3 n0 n1 n2,[],[(OO,[i])],[n0,n1,n2],Be (I3 n0 n1 n2)⟩ | none=> .error 7) else .error 3:=by
 have hm:∀x∈I3 n0 n1 n2,isNm x.1=true:=fun x hx=>by
  simp only[List.mem_cons,List.not_mem_nil,or_false] at hx;rcases hx with rfl | rfl | rfl <;> assumption
 have hwd:∀x∈I3 n0 n1 n2,1<=x.2/\x.2<=3:=fun x hx=>by
  simp only[List.mem_cons,List.not_mem_nil,or_false] at hx;rcases hx with rfl | rfl | rfl
  .exact⟨(by show 1<=1;omega),(by show 1<=3;omega)⟩
  .exact⟨(by show 1<=2;omega),(by show 2<=3;omega)⟩
  .exact⟨(by show 1<=3;omega),(by show 3<=3;omega)⟩
 have ri:=vH (ins:=I3 n0 n1 n2) hn hm hwd (by show 3<=6;omega) 3 (by show 3<=3;omega)
 have sp:Txt.split (Str.join SP [Str.ofString "out",OO,wi]) SP=[Str.ofString "out",OO,wi]:=by
  rw[zi];refine oB (by simp) fun p hp=>?_
  simp only[List.mem_cons,List.not_mem_nil,or_false] at hp;rcases hp with rfl | rfl | rfl
  .decide+kernel
  .decide+kernel
  .exact hw
 have key:fV d0 [Str.join SP (pC (n0,1)),Str.join SP (pC (n1,2)),Str.join SP (pC (n2,3)),Str.join SP [Str.ofString "out",OO,wi]]=if dM wi=true then fQ ⟨I3 n0 n1 n2,[],[],[n0,n1,n2],Be (I3 n0 n1 n2)⟩ OO [wi] else .error 3:=by
  show fV d0 ([Str.join SP (pC (n0,1)),Str.join SP (pC (n1,2)),Str.join SP (pC (n2,3))]++[Str.join SP [Str.ofString "out",OO,wi]])=_;rw[rL];have ri':fV d0 [Str.join SP (pC (n0,1)),Str.join SP (pC (n1,2)),Str.join SP (pC (n2,3))]= .ok ⟨I3 n0 n1 n2,[],[],[n0,n1,n2],Be (I3 n0 n1 n2)⟩:=ri;rw[ri'];show fV _ [_]=_;unfold fV;rw[sp,Cy];by_cases h:dM wi=true
  .rw [if_pos h];cases fQ ⟨I3 n0 n1 n2,[],[],[n0,n1,n2],Be (I3 n0 n1 n2)⟩ OO [wi] <;> rfl
  .rw [if_neg h]
 unfold oi;rw[if_neg (by show ¬80 < 4;omega)]
 rw[key];by_cases h:dM wi=true
 .rw [if_pos h,if_pos h];unfold fQ;rw[if_neg (by simp [Dr.on]),if_neg (by show ¬6<=0;omega)]
  unfold gY;cases hi:idx (Be (I3 n0 n1 n2)) wi with
  | none=>rfl
  | some i=>rfl
 .rw [if_neg h,if_neg h]
end
end K01
end
section
namespace K01
open PySem PySem.Spec PyProof.Rows L2 L3 MT JT TX
abbrev L4:List Str:=[Str.ofString "a",Str.ofString "in",Str.ofString "vo",Str.ofString "abcdefg",Str.ofString "zz",Str.ofString "not"]
abbrev N0(b:Str):Str:=b++Str.ofString "x"
abbrev N1(b:Str):Str:=Txt.slice (Str.ofString "b"++N0 b) none (some 8)
abbrev N2(b:Str):Str:=Txt.slice (Str.ofString "c"++N0 b) none (some 8)
theorem UW:∀b∈L4,isNm (N0 b)=true/\isNm (N1 b)=true/\isNm (N2 b)=true/\[N0 b,N1 b,N2 b].Nodup/\b.length<=8:=by decide+kernel
theorem Us:∀b∈L4,Str.ofString "in "++N0 b++Str.ofString " 1"=Str.join SP (pC (N0 b,1))/\Str.ofString "in "++N1 b++Str.ofString " 2"=Str.join SP (pC (N1 b,2))/\Str.ofString "in "++N2 b++Str.ofString " 3"=Str.join SP (pC (N2 b,3)):=by decide+kernel
theorem Dp(wi:Str):Str.ofString "out o "++wi=Str.join SP [Str.ofString "out",OO,wi]:=by
 rw[show Str.ofString "out o "=Str.ofString "out"++TX.SP++(OO++TX.SP) by decide+kernel]
 show _=Str.ofString "out"++TX.SP++(OO++TX.SP++wi);exact kH (by simp only[cP,List.append_assoc])
theorem CP{n0 n1 n2:Str}(h1:n1.length<=1000)(h2:n2.length<=1000):[n0,n1++Str.ofString ":0",n1++Str.ofString ":1",n2++Str.ofString ":0",n2++Str.ofString ":1",n2++Str.ofString ":2"]=Be (I3 n0 n1 n2):=by
 show _=[n0]++(pB n1 2++(pB n2 3++[]));rw[<-zA (x:=n1) (w:=2) h1 ⟨by omega,by omega⟩,<-zA (x:=n2) (w:=3) h2 ⟨by omega,by omega⟩]
 rfl
structure R4 (r:Str):Prop where
 len:r.length<=3000
 ch:∀c∈r.cps.toList,c≠10/\c < 128
theorem BH{w:Nat}(h:isNm n=true):R4 (Str.join SP (pC (n,w))):=by
 have:=Eu (ws:=pC (n,w)) (by unfold pC;simp) (BZ h)
 exact⟨by have:=this.len;omega,fun c hc=>by have:=this.cps c hc;omega⟩
theorem IL(p:Pw (Sg 50) 2000 wi):R4 (Str.join SP [Str.ofString "out",OO,wi]):=by
 rw[<-Dp];have pl:=p.len;refine⟨by rw[Str.length_append,show(Str.ofString "out o ").length=6 by decide+kernel];omega,fun c hc=>?_⟩
 rw[cP] at hc;rcases List.mem_append.mp hc with z | z
 .exact(show ∀c∈(Str.ofString "out o ").cps.toList,c≠10/\c < 128 by decide+kernel) c z
 .have:=p.ch c z;exact⟨(this.2 (by omega)).2,this.1⟩
section
variable {l:List Str}
theorem Mg(h:∀r∈l,R4 r)(hl:l.length=4):Rw 1000000 (Str.join NL l):=by
 rw[yZ];have:=vJ (c:=10) (l:=l) (m:=3000) fun s hs=>(h s hs).len
 refine⟨by omega,fun c hc=>?_⟩
 rcases wR hc with z | ⟨s,hs,z⟩
 .omega
 .have:=(h s hs).ch c z;omega
theorem CQ(h:∀r∈l,R4 r)(hl:l.length=4):Txt.split (Str.join NL l) NL=l:=by
 rw[yZ];exact oB (fun e=>by rw[e] at hl;cases hl) fun s hs q=>((h s hs).ch 10 q).1 rfl
theorem EJ(h:∀r∈l,R4 r)(hl:l.length=4):mJ (.str NL) [.lst (l.map .str)]= .ok (.str (Str.join NL l)):=by
 refine yR ?_;have:=ve (l:=l.map (·.length)) (m:=3000) fun x hx=>by obtain⟨s,hs,rfl⟩:=List.mem_map.mp hx;exact(h s hs).len
 rw[List.length_map] at this;rw[show NL.length=1 by decide+kernel];omega
end
theorem Ff(ns:List Int)(cell:Int)(a2 a3 a4 a5 a6 a7 a8 a9:Option V3):W3 (vi [some (.d (.lst (ns.map .int))),some (.d (.int cell)),a2,a3,a4,a5,a6,a7,a8,a9] []) fun o S1=>∃kQ,o= .nx kQ/\(∃a1 a2 a3 a4 a5 a6 a7 a8 a9,kQ=[some (.d (.lst (ns.map .int))),a1,a2,a3,a4,a5,a6,a7,a8,a9])/\S1=[]:=by
 have hz:sizeLine=16777216:=sizeLine_eq;have f0:Flat ([]:aG):=Flat.nil;obtain⟨w,ew,pw⟩:=zD cell 1;have tw:=pw.tx (by omega)
 have wl:=pw.len;obtain⟨b,hb,eb⟩:=Jd (l:=L4) (i:=stN cell 30 % 6) (by show stN cell 30 % 6 < 6;omega)
 obtain⟨h0,h1,h2,hnd,bl⟩:=UW b hb;obtain⟨t1,t2,t3⟩:=Us b hb;obtain⟨n0,Np⟩:∃n0,N0 b=n0:=⟨_,rfl⟩;obtain⟨n1,SQ⟩:∃n1,N1 b=n1:=⟨_,rfl⟩;obtain⟨n2,J3⟩:∃n2,N2 b=n2:=⟨_,rfl⟩;rw[Np] at h0 hnd t1;rw[SQ] at h1 hnd t2;rw[J3] at h2 hnd t3;have l0:=(de.mp h0).2.1;have l1:=(de.mp h1).2.1;have l2:=(de.mp h2).2.1;obtain⟨wi,ewi,pwi⟩:=Gi cell h0;have wil:=pwi.len;have twi:=pwi.tx (by omega)
 have w32:32 ∉ wi.cps.toList:=fun q=>((pwi.ch 32 q).2 (by omega)).1 rfl
 have kn:=CP (n0:=n0) (n1:=n1) (n2:=n2) (by omega) (by omega)
 obtain⟨K,hK⟩:∃K,Be (I3 n0 n1 n2)=K:=⟨_,rfl⟩;rw[hK] at kn;have fr:=AY (wi:=wi) hnd h0 h1 h2 w32;rw[hK] at fr;obtain⟨L,hL⟩:∃L,[Str.join SP (pC (n0,1)),Str.join SP (pC (n1,2)),Str.join SP (pC (n2,3)),Str.join SP [Str.ofString "out",OO,wi]]=L:=⟨_,rfl⟩;have LR:∀r∈L,R4 r:=fun r hr=>by
  rw[<-hL] at hr;simp only[List.mem_cons,List.not_mem_nil,or_false] at hr;rcases hr with rfl | rfl | rfl | rfl
  .exact BH h0
  .exact BH h1
  .exact BH h2
  .exact IL pwi
 have Ll:L.length=4:=by rw[<-hL];rfl
 rw[hL] at fr;have zZ:=CQ LR Ll;have hrw:=Mg LR Ll;have hjo:=EJ LR Ll;have kl:(Str.ofString "in ").length=3/\(Str.ofString " 1").length=2/\(Str.ofString " 2").length=2/\(Str.ofString " 3").length=2/\(Str.ofString "out o ").length=6/\(Str.ofString "x").length=1/\(Str.ofString "b").length=1/\(Str.ofString "c").length=1/\(Str.ofString ":0").length=2/\(Str.ofString ":1").length=2/\(Str.ofString ":2").length=2:=by decide+kernel
 obtain⟨k1,k2,k3,k4,k5,k6,k7,k8,k9,X0,X4⟩:=kl;unfold vi;refine dI <| iS (by simp) <| gU (d:= .str w) (aC (ds:=[.int cell,nI 1]) rfl ew) ⟨_,rfl,?_⟩
 simp only[List.set];refine dI <| iS (by simp) <| gU (d:= .bl (isNm w)) (aC (ds:=[.str w]) rfl (jZ (by omega))) ⟨_,rfl,?_⟩
 simp only[List.set];refine dI <| EG <| z9 (b:=false) ((l7 (a:=false) (b:=false) rfl fun _=>?_).trans rfl) (yu ⟨_,rfl,?_⟩)
 .refine dS (a:= .bl (isNm w)) (b:= .bl (isNm w)) rfl (aC (ds:=[.str w]) rfl (qZ tw)) ?_;cases isNm w <;> rfl
 refine dI <| iS (by simp) <| gU (d:= .str n0) ((ax (a:= .str b) (b:= .str (Str.ofString "x")) (ax (a:= .lst (L4.map .str)) (b:=nI (stN cell 30 % 6)) (bC (cb (ds:=L4.map .str) rfl (by show 6<=sizeLine;omega))) (ax (a:=nI (stN cell 30)) (b:=nI 6) (aC (ds:=[.int cell,nI 30]) rfl (tZ _ 30)) rfl (n6 (by omega))) eb) rfl (bu (by omega))).trans (by rw[<-Np])) ⟨_,rfl,?_⟩
 simp only[List.set];have sl8:∀(x:Str),x.length<=100->DM (.str x) none (some 8)= .ok (.str (Txt.slice x none (some 8))):=fun x h=>by unfold DM;exact bD _ (by omega)
 refine dI <| iS (by simp) <| gU (d:= .lst [.str n0, .str n1, .str n2]) (bC (cb (ds:=[.str n0, .str n1, .str n2]) (au rfl (au (f6 (d:= .str (Str.ofString "b"++n0)) (lo:=none) (hi:=some 8) (ax (a:= .str (Str.ofString "b")) (b:= .str n0) rfl rfl (bu (by omega))) rfl (cM rfl) ((sl8 _ (by rw[Str.length_append];omega)).trans (by rw[<-SQ,<-Np]))) (au (f6 (d:= .str (Str.ofString "c"++n0)) (lo:=none) (hi:=some 8) (ax (a:= .str (Str.ofString "c")) (b:= .str n0) rfl rfl (bu (by omega))) rfl (cM rfl) ((sl8 _ (by rw[Str.length_append];omega)).trans (by rw[<-J3,<-Np]))) rfl))) (by show 3<=sizeLine;omega))) ⟨_,rfl,?_⟩
 simp only[List.set];have iv:∀(δ:aq) (i:Nat) (x:Str),ag 5 δ= .ok (.lst [.str n0, .str n1, .str n2])->[n0,n1,n2][i]? =some x->e2 c9 (ag 5) (eC (.int i)) δ= .ok (.str x):=fun δ i x h hi=>ax (a:= .lst ([n0,n1,n2].map .str)) (b:=nI i) h rfl (NT.eV (by rw[List.getElem?_map,hi];rfl))
 refine dI <| iS (by simp) <| gU (d:= .lst (K.map .str)) ((bC (cb (ds:=[n0,n1++Str.ofString ":0",n1++Str.ofString ":1",n2++Str.ofString ":0",n2++Str.ofString ":1",n2++Str.ofString ":2"].map .str) (au (iv _ 0 n0 rfl rfl) (au (ax (a:= .str n1) (b:= .str (Str.ofString ":0")) (iv _ 1 n1 rfl rfl) rfl (bu (by omega))) (au (ax (a:= .str n1) (b:= .str (Str.ofString ":1")) (iv _ 1 n1 rfl rfl) rfl (bu (by omega))) (au (ax (a:= .str n2) (b:= .str (Str.ofString ":0")) (iv _ 2 n2 rfl rfl) rfl (bu (by omega))) (au (ax (a:= .str n2) (b:= .str (Str.ofString ":1")) (iv _ 2 n2 rfl rfl) rfl (bu (by omega))) (au (ax (a:= .str n2) (b:= .str (Str.ofString ":2")) (iv _ 2 n2 rfl rfl) rfl (bu (by omega))) rfl)))))) (by show 6<=sizeLine;omega))).trans (by rw[kn])) ⟨_,rfl,?_⟩
 simp only[List.set];refine dI <| iS (by simp) <| gU (d:= .str wi) (aC (ds:=[.int cell, .str n0]) rfl ewi) ⟨_,rfl,?_⟩
 simp only[List.set];refine dI <| iS (by simp) <| gU (d:= .lst (L.map .str)) ((bC (cb (ds:=[Str.ofString "in "++n0++Str.ofString " 1",Str.ofString "in "++n1++Str.ofString " 2",Str.ofString "in "++n2++Str.ofString " 3",Str.ofString "out o "++wi].map .str) (au (ax (a:= .str (Str.ofString "in "++n0)) (b:= .str (Str.ofString " 1")) (ax (a:= .str (Str.ofString "in ")) (b:= .str n0) rfl (iv _ 0 n0 rfl rfl) (bu (by omega))) rfl (bu (by rw[Str.length_append];omega))) (au (ax (a:= .str (Str.ofString "in "++n1)) (b:= .str (Str.ofString " 2")) (ax (a:= .str (Str.ofString "in ")) (b:= .str n1) rfl (iv _ 1 n1 rfl rfl) (bu (by omega))) rfl (bu (by rw[Str.length_append];omega))) (au (ax (a:= .str (Str.ofString "in "++n2)) (b:= .str (Str.ofString " 3")) (ax (a:= .str (Str.ofString "in ")) (b:= .str n2) rfl (iv _ 2 n2 rfl rfl) (bu (by omega))) rfl (bu (by rw[Str.length_append];omega))) (au (ax (a:= .str (Str.ofString "out o ")) (b:= .str wi) rfl rfl (bu (by omega))) rfl)))) (by show 4<=sizeLine;omega))).trans (by rw[<-hL,t1,t2,t3,Dp])) ⟨_,rfl,?_⟩
 simp only[List.set];obtain⟨du,hdu⟩:∃du:Nat,(if dM wi then 5 else 1)=du:=⟨_,rfl⟩
 have edu:c9 (.lst [.int 5, .int 1]) (nI (if !dM wi then 1 else 0))= .ok (nI du):=by
  rw[<-hdu];cases dM wi <;> rfl
 refine dI <| iS (by simp) <| gU (d:=nI du) (ax (a:= .lst [.int 5, .int 1]) (b:=nI (if !dM wi then 1 else 0)) (bC (cb (ds:=[.int 5, .int 1]) rfl (by show 2<=sizeLine;omega))) (aC (ds:=[.bl (!dM wi)]) (au ?en rfl) (LX _)) edu) ⟨_,rfl,?_⟩
 case en=>
  have:=aC (g:=jJ) (fs:=ai (ag 7) aJ) (δ:=down [some (.d (.lst (ns.map .int))),some (.d (.int cell)),some (.d (.str w)),some (.d (.bl (isNm w))),some (.d (.str n0)),some (.d (.lst [.str n0, .str n1, .str n2])),some (.d (.lst (K.map .str))),some (.d (.str wi)),some (.d (.lst (L.map .str))),a9]) (ds:=[.str wi]) rfl (F_ twi);unfold Gv;rw[xE this];rfl
 simp only[List.set];have cin:b2 F0 (ag 7) (ag 6) (down [some (.d (.lst (ns.map .int))),some (.d (.int cell)),some (.d (.str w)),some (.d (.bl (isNm w))),some (.d (.str n0)),some (.d (.lst [.str n0, .str n1, .str n2])),some (.d (.lst (K.map .str))),some (.d (.str wi)),some (.d (.lst (L.map .str))),some (.d (nI du))])= .ok (K.contains wi):=dS (a:= .str wi) (b:= .lst (K.map .str)) rfl rfl (HL _ _);refine EG <| z9 (b:=K.contains wi) cin ?_
 have hid:=wD (l:=K) (x:=wi);have tex:∀a9:Option V3,u_ "str" mJ (eC (.str (Str.ofString "\n"))) (ai (ag 8) aJ) (down [some (.d (.lst (ns.map .int))),some (.d (.int cell)),some (.d (.str w)),some (.d (.bl (isNm w))),some (.d (.str n0)),some (.d (.lst [.str n0, .str n1, .str n2])),some (.d (.lst (K.map .str))),some (.d (.str wi)),some (.d (.lst (L.map .str))),a9])= .ok (.str (Str.join NL L)):=fun a9=>nL (x:=NL) rfl (au rfl rfl) hjo
 cases hc:K.contains wi with
 | true=>
   rw[hc] at hid;obtain⟨i,hi⟩:=Option.isSome_iff_exists.mp hid;have wf:dM wi=true:=by
    have:=List.contains_iff_mem.mp hc;rw[<-hK] at this;obtain⟨x,hx,hy⟩:=List.mem_flatMap.mp this;simp only[List.mem_cons,List.not_mem_nil,or_false] at hx;rcases hx with rfl | rfl | rfl
    .exact(xq h0 wi hy).2
    .exact(xq h1 wi hy).2
    .exact(xq h2 wi hy).2
   rw[if_pos wf,hi] at fr;have Kl:K.length=6:=by rw[<-kn];rfl
   have il:i < 6:=by rw[<-Kl];exact(List.findIdx?_eq_some_iff_getElem.mp hi).1
   have mi:sQ (.lst (K.map .str)) [.str wi]= .ok (nI i):=by
    show(match strs? (K.map D.str) with | some ss=>(match ss.findIdx? (·==wi) with | some j=>R.aI (decide (j < 1000000)) (R.ok (D.int (j:Nat))) | none=> .no) | none=> .no)=_
    rw[L2.strs_map];show(match idx K wi with | some j=>R.aI (decide (j < 1000000)) (R.ok (D.int (j:Nat))) | none=> .no)=_
    rw[hi];exact bD _ (by omega)
   refine dI <| iS (by simp) <| gU (d:= .lst [Al (OO,[i])]) (bC (cb (ds:=[.tup [.str OO, .tup [nI i]]]) (au (lR (ds:=[.str OO, .tup [nI i]]) (au rfl (au (lR (ds:=[nI i]) (au (EK (l:=K.map .str) (ds:=[.str wi]) rfl rfl mi) rfl) (by show 1<=sizeLine;omega)) rfl)) (by show 2<=sizeLine;omega)) rfl) (by show 1<=sizeLine;omega))) ⟨_,rfl,?_⟩
   simp only[List.set];have nf:zu (yi (I3 n0 n1 n2) [] [(OO,[i])]) (yi (I3 n0 n1 n2) [] [(OO,[i])])= .ok (.bl false):=by
    have:=FE (ins:=I3 n0 n1 n2) (gs:=[]) (os:=[(OO,[i])]) (fun x hx=>by
     simp only[List.mem_cons,List.not_mem_nil,or_false] at hx;rcases hx with rfl | rfl | rfl <;> assumption) (fun x hx=>by rw[List.mem_singleton.mp hx];exact G2)
    unfold zu yi;rw [i5.eqT this (by omega)];rfl
   refine EG <| CC <| Dg <| um <| bX <| gU (tex _) <| gW <| Rp f0.Oe ?_
   rcases y9 (S:=[]) hrw with⟨v,S1,e,d,hd,_,hv,hS⟩ | ⟨c,S1,e,yC,_⟩
   .rw [zZ,fr] at hd;cases hd;subst hv hS;refine⟨_,_,e,rfl,⟨_,rfl⟩,yi (I3 n0 n1 n2) [] [(OO,[i])],rfl,?_⟩;exact gU (d:=yi (I3 n0 n1 n2) [] [(OO,[i])]) (lR (ds:=[.lst ((I3 n0 n1 n2).map MT.inD), .lst [], .lst [Al (OO,[i])]]) (au (bC (cb (ds:=(I3 n0 n1 n2).map MT.inD) (au (lR (ds:=[.str n0,nI 1]) (au (iv _ 0 n0 rfl rfl) rfl) (by show 2<=sizeLine;omega)) (au (lR (ds:=[.str n1,nI 2]) (au (iv _ 1 n1 rfl rfl) rfl) (by show 2<=sizeLine;omega)) (au (lR (ds:=[.str n2,nI 3]) (au (iv _ 2 n2 rfl rfl) rfl) (by show 2<=sizeLine;omega)) rfl))) (by show 3<=sizeLine;omega))) (au (bC (cb rfl (by show 0<=sizeLine;omega))) (au rfl rfl))) (by show 3<=sizeLine;omega)) ⟨_,_,false,rfl,rfl,nf,yu ⟨_,rfl,⟨_,_,_,_,_,_,_,_,_,rfl⟩,rfl⟩⟩
   .rw [zZ,fr] at yC;cases yC
 | false=>
   rw[hc] at hid;have hin:idx K wi=none:=by cases q:idx K wi with | none=>rfl | some i=>rw [q] at hid;cases hid
   rw[hin] at fr;have ho:(match oi (Txt.split (Str.join NL L) NL) with | .ok _=>some du=none | .error c=>2<=c/\c<=8/\some du=some (c - 2)):=by
    rw[zZ,fr];cases q:dM wi with
    | true=>rw [q] at hdu;rw [if_pos rfl];exact⟨by omega,by omega,by rw[<-hdu];rfl⟩
    | false=>rw [q] at hdu;rw [if_neg (by decide)];exact⟨by omega,by omega,by rw[<-hdu];rfl⟩
   have rf:x9 (some du)= .lst (((List.range 14).map fun k=>decide (du=k)).map .bl):=by unfold x9;rw [List.map_map];rfl
   have cm:∀a:V3,eNew (kB (l_ (eC (.int 14))) (lY 0) wA (e2 pP (ag 0) (ag 1)) [(Str.ofString "k")] [9]) (down [some (.d (.lst (ns.map .int))),some (.d (.int cell)),some (.d (.str w)),some (.d (.bl (isNm w))),some (.d (.str n0)),some (.d (.lst [.str n0, .str n1, .str n2])),some (.d (.lst (K.map .str))),some (.d (.str wi)),some (.d (.lst (L.map .str))),some (.d (nI du))])= .ok (x9 (some du)):=fun _=>by
    refine bC (lN (ds:=(List.range 14).map nI) (DI (n:=14) rfl (by omega)) (by simp;omega) (NT.g6 nI (fun k=> .bl (decide (du=k))) fun k _=>⟨[.val (nI k), .val (nI du)],rfl,rfl,(ax (a:=nI k) (b:=nI du) rfl rfl (wc _ _)).trans ?_⟩))
    congr 2;exact decide_eq_decide.mpr eq_comm
   have ne:zu (x9 (some du)) (x9 (some du))= .ok (.bl false):=by
    rw[rf];have f:i5 1 (.lst (((List.range 14).map fun k=>decide (du=k)).map .bl)):=i5.lst fun d hd=>by obtain⟨g,hg,rfl⟩:=List.mem_map.mp hd;exact i5.bl g
    unfold zu;rw [i5.Tw f (by omega)];rfl
   exact EG <| CC <| Dg <| bX <| gU (tex _) <| gW <| xj hrw ho f0.Oe <| gU (cm (.d .cu)) ⟨_,_,false,rfl,rfl,ne,yu ⟨_,rfl,⟨_,_,_,_,_,_,_,_,_,rfl⟩,rfl⟩⟩
theorem Ct(ns:List Int)(hn:ns.length<=63):yW [.lst (ns.map D.int)]= .ok (.bl true):=by
 have hz:sizeLine=16777216:=sizeLine_eq;have f0:Flat ([]:aG):=Flat.nil;have key:W3 (xh pq sS [.d (.lst (ns.map .int))] []) fun v S1=>v= .d (.bl true)/\S1=[]:=by
  refine Hd f0.Oe (RY rfl ?_);simp only[dm,pq,List.map,List.length,List.replicate,List.cons_append,List.nil_append,Nat.reduceAdd,Nat.reduceSub];unfold sS;have tk:ns.take 63=ns:=List.take_of_length_le hn;refine dI <| G7 <| Dw (ds:=ns.map .int) (qt (f6 (d:= .lst (ns.map .int)) (lo:=none) (hi:=some ((63:Nat):Int)) rfl rfl (cM rfl) (by rw[ED,<-List.map_take,tk]))) <| (uc (fun i δ S=>(∃a1 a2 a3 a4 a5 a6 a7 a8 a9,δ=[some (.d (.lst (ns.map .int))),a1,a2,a3,a4,a5,a6,a7,a8,a9])/\S=[]) ⟨⟨_,_,_,_,_,_,_,_,_,rfl⟩,rfl⟩ ?_).mono ?_
  .rintro i v δ S hv ⟨⟨a1,a2,a3,a4,a5,a6,a7,a8,a9,rfl⟩,rfl⟩;obtain⟨c,hc,rfl⟩:=NT.uq hv;exact⟨[some (.d (.lst (ns.map .int))),some (.d (.int c)),a2,a3,a4,a5,a6,a7,a8,a9],rfl,Ff ns c a2 a3 a4 a5 a6 a7 a8 a9⟩
  rintro o S1 ⟨kQ,rfl,⟨a1,a2,a3,a4,a5,a6,a7,a8,a9,rfl⟩,rfl⟩;exact⟨_,rfl,wF <| gU rfl ⟨_,rfl,rfl,⟨_,rfl⟩,_,rfl,rfl,trivial⟩⟩
 obtain⟨v,S1,e1,pY,e3⟩:=key;unfold yW M8;show(match xh pq sS ([D.lst (ns.map D.int)].map V3.d) [] with | .ok (.d d) []=>R.aI d.atom (R.ok d) | _=> .no)=_
 rw[show [D.lst (ns.map D.int)].map V3.d=[V3.d (.lst (ns.map .int))] from rfl,e1,pY,e3]
 rfl
end K01
end
open PySem PySem.W PyProof.Rows
set_option maxRecDepth 100000 in
set_option maxHeartbeats 0 in
theorem PySem.Challenge.cw_bearfaults_k01_words_known_holds : PySem.Challenge.rw_bearfaults_k01_words_known.Holds := by
 w_on;o_law;k_head;(case hw=>w_witness2)
 k_fill
 refine L2.KQ (l:=PySem.Challenge.rw_bearfaults_k01_words_known) (n:=63) (k:=8) (x:="script") (g:=K01.yW) rfl (by decide) rfl ⟨rfl,by decide,by decide⟩ (fun w h Y=>PySem.W.kIn_of Y) ?F K01.Ct
 case F=>
  intro w mg fa h KX G MD
  have qA:L2.Def (L2.gT KX) mg "is_name" K01.lr:=by
   dsimp only[L2.gT]
   refine' L2.eF KX G ?a ?l ?c ?k
   (case a=>k_is);(case l=>k_is);(case c=>k_is);(case k=>k_is)
  have oU:L2.Def (L2.gT KX) mg "in_wires" K01.jU:=by
   dsimp only[L2.gT]
   refine' L2.eF KX G ?a ?l ?c ?k
   (case a=>k_is);(case l=>k_is);(case c=>k_is);(case k=>k_is)
  have ko:L2.Def (L2.gT KX) mg "is_wire_form" K01.dW:=by
   dsimp only[L2.gT]
   refine' L2.eF KX G ?a ?l ?c ?k
   (case a=>k_is);(case l=>k_is);(case c=>k_is);(case k=>k_is)
  have ik:L2.Def (L2.gT KX) mg "are_wire_forms" K01.c7:=by
   dsimp only[L2.gT]
   refine' L2.eF KX G ?a ?l ?c ?k
   (case a=>k_is);(case l=>k_is);(case c=>k_is);(case k=>k_is)
  have mr:L2.Def (L2.gT KX) mg "is_in_form" K01.gd:=by
   dsimp only[L2.gT]
   refine' L2.eF KX G ?a ?l ?c ?k
   (case a=>k_is);(case l=>k_is);(case c=>k_is);(case k=>k_is)
  have kh:L2.Def (L2.gT KX) mg "is_gate_form" K01.dN:=by
   dsimp only[L2.gT]
   refine' L2.eF KX G ?a ?l ?c ?k
   (case a=>k_is);(case l=>k_is);(case c=>k_is);(case k=>k_is)
  have kT:L2.Def (L2.gT KX) mg "is_out_form" K01.eQ:=by
   dsimp only[L2.gT]
   refine' L2.eF KX G ?a ?l ?c ?k
   (case a=>k_is);(case l=>k_is);(case c=>k_is);(case k=>k_is)
  have o8:L2.Def (L2.gT KX) mg "read_row" K01.j0:=by
   dsimp only[L2.gT]
   refine' L2.eF KX G ?a ?l ?c ?k
   (case a=>k_is);(case l=>k_is);(case c=>k_is);(case k=>k_is)
  have yB:L2.Def (L2.gT KX) mg "read" K01.sd:=by
   dsimp only[L2.gT]
   refine' L2.eF KX G ?a ?l ?c ?k
   (case a=>k_is);(case l=>k_is);(case c=>k_is);(case k=>k_is)
  have o4:L2.Def (L2.gT KX) mg "_law_stir" K01.jQ:=by
   dsimp only[L2.gT]
   refine' L2.eF KX G ?a ?l ?c ?k
   (case a=>k_is);(case l=>k_is);(case c=>k_is);(case k=>k_is)
  have oT:L2.Def (L2.gT KX) mg "_law_word" K01.jN:=by
   dsimp only[L2.gT]
   refine' L2.eF KX G ?a ?l ?c ?k
   (case a=>k_is);(case l=>k_is);(case c=>k_is);(case k=>k_is)
  have oZ:L2.Def (L2.gT KX) mg "_law_good" K01.jH:=by
   dsimp only[L2.gT]
   refine' L2.eF KX G ?a ?l ?c ?k
   (case a=>k_is);(case l=>k_is);(case c=>k_is);(case k=>k_is)
  have oY:L2.Def (L2.gT KX) mg "_law_wire" K01.jX:=by
   dsimp only[L2.gT]
   refine' L2.eF KX G ?a ?l ?c ?k
   (case a=>k_is);(case l=>k_is);(case c=>k_is);(case k=>k_is)
  have oV:L2.Def (L2.gT KX) mg "_law_form" K01.jV:=by
   dsimp only[L2.gT]
   refine' L2.eF KX G ?a ?l ?c ?k
   (case a=>k_is);(case l=>k_is);(case c=>k_is);(case k=>k_is)
  have kP:L2.Def (L2.gT KX) mg "_law_refused" K01.eS:=by
   dsimp only[L2.gT]
   refine' L2.eF KX G ?a ?l ?c ?k
   (case a=>k_is);(case l=>k_is);(case c=>k_is);(case k=>k_is)
  have D_law:L2.Def (L2.gT KX) mg "law" K01.yM:=by
   dsimp only[L2.gT]
   refine' L2.eF KX G ?a ?l ?c ?k
   (case a=>k_is);(case l=>k_is);(case c=>k_is);(case k=>k_is)
  have sY:L2.Glob (L2.gT KX) mg "MOST_LETTERS" K01.dU:=by
   dsimp only[L2.gT]
   refine' L2.lA KX G ?a
   (case a=>k_is)
  have D8:L2.Glob (L2.gT KX) mg "BARRED" K01.m5:=by
   dsimp only[L2.gT]
   refine' L2.wt KX G ["in","gate","sure","out","not","and","or","xor","vote"] ?a ?l ?c ?d ?z ?r
   (case a=>k_is);(case l=>k_is);(case c=>rfl);(case d=>rfl);(case z=>decide);(case r=>exact .cons ⟨_,rfl⟩ (.cons ⟨_,rfl⟩ (.cons ⟨_,rfl⟩ (.cons ⟨_,rfl⟩ (.cons ⟨_,rfl⟩ (.cons ⟨_,rfl⟩ (.cons ⟨_,rfl⟩ (.cons ⟨_,rfl⟩ (.cons ⟨_,rfl⟩ (.nil))))))))))
  have A6:L2.Glob (L2.gT KX) mg "LETTERS" K01.lG:=by
   dsimp only[L2.gT]
   refine' L2.BX KX G ?a
   (case a=>k_is)
  have A2:L2.Glob (L2.gT KX) mg "FIGURES" K01.lq:=by
   dsimp only[L2.gT]
   refine' L2.wt KX G ["0","1","2","3","4","5","6","7","8","9"] ?a ?l ?c ?d ?z ?r
   (case a=>k_is);(case l=>k_is);(case c=>rfl);(case d=>rfl);(case z=>decide);(case r=>exact .cons ⟨_,rfl⟩ (.cons ⟨_,rfl⟩ (.cons ⟨_,rfl⟩ (.cons ⟨_,rfl⟩ (.cons ⟨_,rfl⟩ (.cons ⟨_,rfl⟩ (.cons ⟨_,rfl⟩ (.cons ⟨_,rfl⟩ (.cons ⟨_,rfl⟩ (.cons ⟨_,rfl⟩ (.nil)))))))))))
  have qz:L2.Glob (L2.gT KX) mg "MOST_OUT_WIRES" K01.c_:=by
   dsimp only[L2.gT]
   refine' L2.lA KX G ?a
   (case a=>k_is)
  have yG:L2.Glob (L2.gT KX) mg "MOST_INS" K01.jO:=by
   dsimp only[L2.gT]
   refine' L2.lA KX G ?a
   (case a=>k_is)
  have vr:L2.Glob (L2.gT KX) mg "MOST_GATES" K01.f_:=by
   dsimp only[L2.gT]
   refine' L2.lA KX G ?a
   (case a=>k_is)
  have xc:L2.Glob (L2.gT KX) mg "MOST_OUTS" K01.iY:=by
   dsimp only[L2.gT]
   refine' L2.lA KX G ?a
   (case a=>k_is)
  have w_:L2.Glob (L2.gT KX) mg "MOST_ROWS" K01.iU:=by
   dsimp only[L2.gT]
   refine' L2.lA KX G ?a
   (case a=>k_is)
  have A5:L2.mY PySem.Challenge.rw_bearfaults_k01_words_known.prog w (L2.gT KX) mg "WIDTHS" K01.nT:=by
   dsimp only[L2.gT]
   refine' L2.wY KX G [("1",_,1,_),("2",_,2,_),("3",_,3,_)] ?a ?l ?s ?k ?d ?m ?z
   (case a=>k_is);(case l=>k_is);(case s=>rfl);(case k=>rfl);(case d=>decide);(case m=>rfl);(case z=>decide)
  have tQ:L2.mY PySem.Challenge.rw_bearfaults_k01_words_known.prog w (L2.gT KX) mg "KIND_WIRES" K01.iR:=by
   dsimp only[L2.gT]
   refine' L2.wY KX G [("not",_,1,_),("and",_,2,_),("or",_,2,_),("xor",_,2,_),("vote",_,3,_)] ?a ?l ?s ?k ?d ?m ?z
   (case a=>k_is);(case l=>k_is);(case s=>rfl);(case k=>rfl);(case d=>decide);(case m=>rfl);(case z=>decide)
  obtain⟨cl,CF⟩:∃cl,K01.Cf (L2.gT KX) mg cl:=by
   dsimp only[L2.gT]
   refine' K01.Mh KX G ?QS ?Pf ?P1 ?Qi ?Pb ?QF ?P6 ?yD ?sU ?vw ?sZ ?mv ?o3 ?QI ?Qu ?Qf ?PU ?QE ?O5 ?Qp ?P8 ?Px ?J2 ?J1 ?JX ?Ka ?JY ?Qx ?Qs ?Pl ?P9 ?Po ?P0 ?Qk ?QH ?K9 ?P5 ?Qb ?Qg ?Qa ?QM ?Qy ?Pq ?Qm ?PL ?O8 ?P2 ?Qo ?PQ ?P4 ?O7 ?Pk ?Qd ?Pr ?Qz ?QT ?QC ?Qq ?P7 ?O3 ?Pd ?Pg ?PH ?Pz ?PM ?P_ ?O9 ?Qc ?Py ?Qh ?QL ?O_ ?Pn ?Qr ?Pc ?QQ ?GF ?GC ?kU ?jf ?lj ?j6 ?ig ?jz ?h_ ?tf ?ji ?gC ?jd ?ip ?fN ?gO ?ft ?o5 ?kr ?iC ?kf ?jg ?gM ?ia ?gr ?qB ?jl ?gP ?jx ?iG ?fA ?gu ?fF ?oW ?ij ?fv ?iI ?gy ?eO ?fD ?eJ ?nF ?mw ?j8 ?mf ?kY ?jw ?kc ?jB ?vt ?kq ?iz ?j7 ?jA ?gA ?iA ?gR ?qx ?mh ?ka ?mn ?kR ?je ?ki ?jr ?vq ?js ?gx ?jh ?iH ?fw ?gS ?fM ?oX ?lh ?jt ?kZ ?j_ ?iJ ?jm ?iL ?s_ ?ie ?fH ?iM ?gI ?eI ?fu ?eG ?nG ?iB ?fK ?iK ?gQ ?eK ?fq ?eM ?nJ ?fB ?d9 ?fE ?eL ?dz ?d_ ?dD ?kW ?ju ?gG ?jq ?iE ?fG ?gz ?fJ ?oS ?fL ?d7 ?fI ?eN ?dA ?eg ?dC ?km ?kg ?ku ?dX ?gE ?d8 ?ee ?d6 ?b8 ?cT ?iu ?iO ?ib ?c6 ?eu ?jj ?jy ?jk ?dq ?e7 ?hX ?hZ ?hW ?dc ?iq
   (case QS=>k_is)
   (case Pf=>k_is)
   (case P1=>k_is)
   (case Qi=>k_is)
   (case Pb=>k_is)
   (case QF=>k_is)
   (case P6=>k_is)
   (case yD=>k_is)
   (case sU=>k_is)
   (case vw=>k_is)
   (case sZ=>k_is)
   (case mv=>k_is)
   (case o3=>k_is)
   (case QI=>k_is)
   (case Qu=>k_is)
   (case Qf=>k_is)
   (case PU=>k_is)
   (case QE=>k_is)
   (case O5=>k_is)
   (case Qp=>k_is)
   (case P8=>k_is)
   (case Px=>k_is)
   (case J2=>k_is)
   (case J1=>k_is)
   (case JX=>k_is)
   (case Ka=>k_is)
   (case JY=>k_is)
   (case Qx=>kernel_rfl)
   (case Qs=>k_is)
   (case Pl=>k_is)
   (case P9=>k_is)
   (case Po=>k_is)
   (case P0=>k_is)
   (case Qk=>kernel_rfl)
   (case QH=>kernel_rfl)
   (case K9=>k_is)
   (case P5=>k_is)
   (case Qb=>k_is)
   (case Qg=>k_is)
   (case Qa=>k_is)
   (case QM=>kernel_rfl)
   (case Qy=>kernel_rfl)
   (case Pq=>k_is)
   (case Qm=>k_is)
   (case PL=>k_is)
   (case O8=>k_is)
   (case P2=>k_is)
   (case Qo=>kernel_rfl)
   (case PQ=>kernel_rfl)
   (case P4=>k_is)
   (case O7=>k_is)
   (case Pk=>k_is)
   (case Qd=>k_is)
   (case Pr=>k_is)
   (case Qz=>kernel_rfl)
   (case QT=>kernel_rfl)
   (case QC=>k_is)
   (case Qq=>k_is)
   (case P7=>k_is)
   (case O3=>k_is)
   (case Pd=>k_is)
   (case Pg=>kernel_rfl)
   (case PH=>kernel_rfl)
   (case Pz=>k_is)
   (case PM=>k_is)
   (case P_=>k_is)
   (case O9=>k_is)
   (case Qc=>k_is)
   (case Py=>kernel_rfl)
   (case Qh=>kernel_rfl)
   (case QL=>k_is)
   (case O_=>k_is)
   (case Pn=>k_is)
   (case Qr=>k_is)
   (case Pc=>k_is)
   (case QQ=>kernel_rfl)
   (case GF=>k_is)
   (case GC=>k_is)
   (case kU=>first | kit_is | kernel_rfl)
   (case jf=>first | kit_is | kernel_rfl)
   (case lj=>first | kit_is | kernel_rfl)
   (case j6=>first | kit_is | kernel_rfl)
   (case ig=>first | kit_is | kernel_rfl)
   (case jz=>first | kit_is | kernel_rfl)
   (case h_=>first | kit_is | kernel_rfl)
   (case tf=>first | kit_is | kernel_rfl)
   (case ji=>first | kit_is | kernel_rfl)
   (case gC=>first | kit_is | kernel_rfl)
   (case jd=>first | kit_is | kernel_rfl)
   (case ip=>first | kit_is | kernel_rfl)
   (case fN=>first | kit_is | kernel_rfl)
   (case gO=>first | kit_is | kernel_rfl)
   (case ft=>first | kit_is | kernel_rfl)
   (case o5=>first | kit_is | kernel_rfl)
   (case kr=>first | kit_is | kernel_rfl)
   (case iC=>first | kit_is | kernel_rfl)
   (case kf=>first | kit_is | kernel_rfl)
   (case jg=>first | kit_is | kernel_rfl)
   (case gM=>first | kit_is | kernel_rfl)
   (case ia=>first | kit_is | kernel_rfl)
   (case gr=>first | kit_is | kernel_rfl)
   (case qB=>first | kit_is | kernel_rfl)
   (case jl=>first | kit_is | kernel_rfl)
   (case gP=>first | kit_is | kernel_rfl)
   (case jx=>first | kit_is | kernel_rfl)
   (case iG=>first | kit_is | kernel_rfl)
   (case fA=>first | kit_is | kernel_rfl)
   (case gu=>first | kit_is | kernel_rfl)
   (case fF=>first | kit_is | kernel_rfl)
   (case oW=>first | kit_is | kernel_rfl)
   (case ij=>first | kit_is | kernel_rfl)
   (case fv=>first | kit_is | kernel_rfl)
   (case iI=>first | kit_is | kernel_rfl)
   (case gy=>first | kit_is | kernel_rfl)
   (case eO=>first | kit_is | kernel_rfl)
   (case fD=>first | kit_is | kernel_rfl)
   (case eJ=>first | kit_is | kernel_rfl)
   (case nF=>first | kit_is | kernel_rfl)
   (case mw=>first | kit_is | kernel_rfl)
   (case j8=>first | kit_is | kernel_rfl)
   (case mf=>first | kit_is | kernel_rfl)
   (case kY=>first | kit_is | kernel_rfl)
   (case jw=>first | kit_is | kernel_rfl)
   (case kc=>first | kit_is | kernel_rfl)
   (case jB=>first | kit_is | kernel_rfl)
   (case vt=>first | kit_is | kernel_rfl)
   (case kq=>first | kit_is | kernel_rfl)
   (case iz=>first | kit_is | kernel_rfl)
   (case j7=>first | kit_is | kernel_rfl)
   (case jA=>first | kit_is | kernel_rfl)
   (case gA=>first | kit_is | kernel_rfl)
   (case iA=>first | kit_is | kernel_rfl)
   (case gR=>first | kit_is | kernel_rfl)
   (case qx=>first | kit_is | kernel_rfl)
   (case mh=>first | kit_is | kernel_rfl)
   (case ka=>first | kit_is | kernel_rfl)
   (case mn=>first | kit_is | kernel_rfl)
   (case kR=>first | kit_is | kernel_rfl)
   (case je=>first | kit_is | kernel_rfl)
   (case ki=>first | kit_is | kernel_rfl)
   (case jr=>first | kit_is | kernel_rfl)
   (case vq=>first | kit_is | kernel_rfl)
   (case js=>first | kit_is | kernel_rfl)
   (case gx=>first | kit_is | kernel_rfl)
   (case jh=>first | kit_is | kernel_rfl)
   (case iH=>first | kit_is | kernel_rfl)
   (case fw=>first | kit_is | kernel_rfl)
   (case gS=>first | kit_is | kernel_rfl)
   (case fM=>first | kit_is | kernel_rfl)
   (case oX=>first | kit_is | kernel_rfl)
   (case lh=>first | kit_is | kernel_rfl)
   (case jt=>first | kit_is | kernel_rfl)
   (case kZ=>first | kit_is | kernel_rfl)
   (case j_=>first | kit_is | kernel_rfl)
   (case iJ=>first | kit_is | kernel_rfl)
   (case jm=>first | kit_is | kernel_rfl)
   (case iL=>first | kit_is | kernel_rfl)
   (case s_=>first | kit_is | kernel_rfl)
   (case ie=>first | kit_is | kernel_rfl)
   (case fH=>first | kit_is | kernel_rfl)
   (case iM=>first | kit_is | kernel_rfl)
   (case gI=>first | kit_is | kernel_rfl)
   (case eI=>first | kit_is | kernel_rfl)
   (case fu=>first | kit_is | kernel_rfl)
   (case eG=>first | kit_is | kernel_rfl)
   (case nG=>first | kit_is | kernel_rfl)
   (case iB=>first | kit_is | kernel_rfl)
   (case fK=>first | kit_is | kernel_rfl)
   (case iK=>first | kit_is | kernel_rfl)
   (case gQ=>first | kit_is | kernel_rfl)
   (case eK=>first | kit_is | kernel_rfl)
   (case fq=>first | kit_is | kernel_rfl)
   (case eM=>first | kit_is | kernel_rfl)
   (case nJ=>first | kit_is | kernel_rfl)
   (case fB=>first | kit_is | kernel_rfl)
   (case d9=>first | kit_is | kernel_rfl)
   (case fE=>first | kit_is | kernel_rfl)
   (case eL=>first | kit_is | kernel_rfl)
   (case dz=>first | kit_is | kernel_rfl)
   (case d_=>first | kit_is | kernel_rfl)
   (case dD=>first | kit_is | kernel_rfl)
   (case kW=>first | kit_is | kernel_rfl)
   (case ju=>first | kit_is | kernel_rfl)
   (case gG=>first | kit_is | kernel_rfl)
   (case jq=>first | kit_is | kernel_rfl)
   (case iE=>first | kit_is | kernel_rfl)
   (case fG=>first | kit_is | kernel_rfl)
   (case gz=>first | kit_is | kernel_rfl)
   (case fJ=>first | kit_is | kernel_rfl)
   (case oS=>first | kit_is | kernel_rfl)
   (case fL=>kernel_rfl)
   (case d7=>kernel_rfl)
   (case fI=>kernel_rfl)
   (case eN=>kernel_rfl)
   (case dA=>kernel_rfl)
   (case eg=>kernel_rfl)
   (case dC=>kernel_rfl)
   (case km=>k_is)
   (case kg=>k_is)
   (case ku=>k_is)
   (case dX=>k_is)
   (case gE=>k_is)
   (case d8=>k_is)
   (case ee=>k_is)
   (case d6=>k_is)
   (case b8=>k_is)
   (case cT=>k_is)
   (case iu=>k_is)
   (case iO=>k_is)
   (case ib=>k_is)
   (case c6=>k_is)
   (case eu=>k_is)
   (case jj=>k_is)
   (case jy=>k_is)
   (case jk=>k_is)
   (case dq=>k_is)
   (case e7=>k_is)
   (case hX=>k_is)
   (case hZ=>k_is)
   (case hW=>k_is)
   (case dc=>k_is)
   (case iq=>k_is)
  have ef:=CF.ef
  have b_:=CF.b_
  have dg:=CF.dg
  have dt:=CF.dt
  have df:=CF.df
  have T:K01.Tp PySem.Challenge.rw_bearfaults_k01_words_known.prog w (L2.gT KX) mg cl:=by
   dsimp only[L2.gT]
   refine' ⟨PySem.W.mg_none_of KX G ?z_len,PySem.W.mg_none_of KX G ?z_all,PySem.W.mg_none_of KX G ?z_range,PySem.W.mg_none_of KX G ?z_tuple,PySem.W.mg_none_of KX G ?z_isinstance,PySem.W.mg_none_of KX G ?z_ValueError,PySem.W.mg_none_of KX G ?z_bool,PySem.W.mg_none_of KX G ?z_int,sY,D8,A6,A2,qz,yG,vr,xc,w_,A5,tQ,CF.C_Draft,CF.N_Draft_ins,CF.N_Draft_gates,CF.N_Draft_outs,CF.N_Draft_names,CF.N_Draft_out_names,CF.N_Draft_numbers,CF.M_Draft,CF.M_FaultError,CF.M_TooLong,CF.M_NoForm,CF.M_NoPlace,CF.M_Twice,CF.M_Full,CF.M_NoWire,CF.M_Open,CF.M_NotPlain,CF.M_NotThree,CF.M_NotSound,CF.M_NoFit,CF.M_NoShape,CF.M_NoneYet,CF.X_TooLong,CF.X_NoForm,CF.X_NoPlace,CF.X_Twice,CF.X_Full,CF.X_NoWire,CF.X_Open,CF.I_Open_Twice,CF.I_NoWire_Twice,CF.I_Full_Twice,CF.I_Twice_Twice,CF.I_NoPlace_Twice,CF.I_NoForm_Twice,CF.I_TooLong_Twice,CF.O_Twice,CF.I_Open_NoPlace,CF.I_NoWire_NoPlace,CF.I_Full_NoPlace,CF.I_Twice_NoPlace,CF.I_NoPlace_NoPlace,CF.I_NoForm_NoPlace,CF.I_TooLong_NoPlace,CF.O_NoPlace,CF.I_Open_NoForm,CF.I_NoWire_NoForm,CF.I_Full_NoForm,CF.I_Twice_NoForm,CF.I_NoPlace_NoForm,CF.I_NoForm_NoForm,CF.I_TooLong_NoForm,CF.O_NoForm,CF.I_Open_TooLong,CF.I_NoWire_TooLong,CF.I_Full_TooLong,CF.I_Twice_TooLong,CF.I_NoPlace_TooLong,CF.I_NoForm_TooLong,CF.I_TooLong_TooLong,CF.O_TooLong,CF.I_Open_NotPlain,CF.I_NoWire_NotPlain,CF.I_Full_NotPlain,CF.I_Twice_NotPlain,CF.I_NoPlace_NotPlain,CF.I_NoForm_NotPlain,CF.I_TooLong_NotPlain,CF.O_NotPlain,CF.I_Open_Open,CF.I_NoWire_Open,CF.I_Full_Open,CF.I_Twice_Open,CF.I_NoPlace_Open,CF.I_NoForm_Open,CF.I_TooLong_Open,CF.O_Open,CF.I_Open_NoWire,CF.I_NoWire_NoWire,CF.I_Full_NoWire,CF.I_Twice_NoWire,CF.I_NoPlace_NoWire,CF.I_NoForm_NoWire,CF.I_TooLong_NoWire,CF.O_NoWire,CF.I_Open_Full,CF.I_NoWire_Full,CF.I_Full_Full,CF.I_Twice_Full,CF.I_NoPlace_Full,CF.I_NoForm_Full,CF.I_TooLong_Full,CF.O_Full,CF.I_Open_NoShape,CF.I_NoWire_NoShape,CF.I_Full_NoShape,CF.I_Twice_NoShape,CF.I_NoPlace_NoShape,CF.I_NoForm_NoShape,CF.I_TooLong_NoShape,CF.O_NoShape,CF.I_Open_NoFit,CF.I_NoWire_NoFit,CF.I_Full_NoFit,CF.I_Twice_NoFit,CF.I_NoPlace_NoFit,CF.I_NoForm_NoFit,CF.I_TooLong_NoFit,CF.O_NoFit,CF.I_Open_NotSound,CF.I_NoWire_NotSound,CF.I_Full_NotSound,CF.I_Twice_NotSound,CF.I_NoPlace_NotSound,CF.I_NoForm_NotSound,CF.I_TooLong_NotSound,CF.O_NotSound,CF.I_Open_NotThree,CF.I_NoWire_NotThree,CF.I_Full_NotThree,CF.I_Twice_NotThree,CF.I_NoPlace_NotThree,CF.I_NoForm_NotThree,CF.I_TooLong_NotThree,CF.O_NotThree,CF.I_Open_ValueError,CF.I_NoWire_ValueError,CF.I_Full_ValueError,CF.I_Twice_ValueError,CF.I_NoPlace_ValueError,CF.I_NoForm_ValueError,CF.I_TooLong_ValueError,CF.O_ValueError,CF.I_Open_NoneYet,CF.I_NoWire_NoneYet,CF.I_Full_NoneYet,CF.I_Twice_NoneYet,CF.I_NoPlace_NoneYet,CF.I_NoForm_NoneYet,CF.I_TooLong_NoneYet,CF.O_NoneYet,CF.E_Open_FaultError,CF.E_NoWire_FaultError,CF.E_Full_FaultError,CF.E_Twice_FaultError,CF.E_NoPlace_FaultError,CF.E_NoForm_FaultError,CF.E_TooLong_FaultError⟩
   (case z_len=>k_is);(case z_all=>k_is);(case z_range=>k_is);(case z_tuple=>k_is);(case z_isinstance=>k_is);(case z_ValueError=>k_is);(case z_bool=>k_is);(case z_int=>k_is)
  obtain⟨fl,fd,Fl,hl⟩:=D_law
  have e0:=MD.symm.trans hl
  cases e0
  refine' ⟨fd,?b,fun base kb nb=>K01.JP T qA oU ko ik mr kh kT ef b_ dg dt o8 df yB o4 oT oZ oY oV kP Fl⟩
  obtain⟨_,_,_,_,_,_,_,_,_,e,_,_⟩:=Fl.ex
  subst e
  exact fun s u=> .of_eq rfl
