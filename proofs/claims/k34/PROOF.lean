import PyProof.Rows.All
import Wide.All
import OpenK.AllK
import Wide.FinOn
import Lean
import PyProof.EqAt
import PyProof.EqKinds
import PyProof.TupleCall
import PyProof.Rows.StrJoin2
import PyProof.TupleOfGen
import PyProof.ListRange
import PyProof.Draws
import PyProof.Rows.StrClose3
import KE.KSortedM
import PyProof.Rows.SortWalk
import PyProof.WalkInts
import PyProof.Rows.Range3
import PyProof.ZipIter
import PyProof.ConsumeWalk
import PyProof.Rows.SeqMore
import KE.KRevIter
import KE.KRevSl
import KE.KUnpack
import KE.KDictSum
import KE.KTupSum
import KE.KSortTup
import KE.KDictOf
import OpenK.KRaise
import KE.KTryMore
import PyProof.ExcArgs
import PyProof.ExcBaseAll.ValueError
import PyProof.NsDelKeeps
import PyProof.AttrMissSeq
import PyProof.FString4
import PyProof.StrLawsRepr
import PyProof.Rows.StrSplitAre
import PyProof.Rows.StrNews2
import PyProof.StrLawsChain
import PyProof.StrLawsTight
import PyProof.Rows.StrJoinRep
import PyProof.Rows.StrMul
import PyProof.StrReplace2
import PyProof.StrLawsReplace
import PyProof.Rows.SetFrom
import PyProof.WalksMore
import PySem.Challenge.RW_bearfaults_k34_nets_joined
noncomputable section
set_option bootstrap.genMatcherCode false
section
open PySem
abbrev Th:=List (Addr×Obj)
abbrev Ti:=Value->Shared->Prop
abbrev Tj:=List (Str×Nat)
abbrev Tn:=List (Str×List Nat)
abbrev To:=List (List Nat)
abbrev Tq:=Str->Option Value
abbrev Tr:=Nat->Addr
end
def PySem.W.Fast.tw16988028299801956092:=0
def PySem.W.Fast.tw3940857878200126658:=0
def PySem.W.Fast.tw15393444152986341249:=0
def PySem.W.Fast.tw16184375938570650071:=0
def PySem.W.Fast.tw614587412947732775:=0
def PySem.W.Fast.tw18255488655893383631:=0
def PySem.W.Fast.tw11691348665261972402:=0
def PySem.W.Fast.tw8362481991897758365:=0
def PySem.W.Fast.tw8744030738571252125:=0
def PySem.W.Fast.tw65250095259192957:=0
def PySem.W.Fast.tw8966777135824964080:=0
def PySem.W.Fast.tw18215601102458675633:=0
def PySem.W.Fast.tw7829294422229871973:=0
def PySem.W.Fast.tw10057185676757395401:=0
def PySem.W.Fast.tw8441592354345540872:=0
def PySem.W.Fast.tw6110515613049502837:=0
def PySem.W.Fast.tw3469665354220883273:=0
def PySem.W.Fast.tw1030216279178631191:=0
def PySem.W.Fast.tw2618925991927608847:=0
def PySem.W.Fast.tw6297051081842637221:=0
def PySem.W.Fast.tw5317167445822948531:=0
def PySem.W.Fast.tw12144669862435984658:=0
def PySem.W.Fast.tw4806458959267295086:=0
def PySem.W.Fast.tw6318821196985346450:=0
def PySem.W.Fast.tw17932928728253895397:=0
def PySem.W.Fast.tw3784183653761930171:=0
def PySem.W.Fast.tw2087470578605812516:=0
def PySem.W.Fast.tw3435674892001597227:=0
def PySem.W.Fast.tw12008833109508695783:=0
def PySem.W.Fast.tw14360272827893424087:=0
def PySem.W.Fast.tw4300281711881391977:=0
def PySem.W.Fast.tw11199131278516816575:=0
def PySem.W.Fast.tw18119606385223670754:=0
def PySem.W.Fast.tw2003297349679547584:=0
def PySem.W.Fast.tw17232063634471055724:=0
def PySem.W.Fast.tw742987900229654184:=0
def PySem.W.Fast.tw16790160288483708402:=0
def PySem.W.Fast.tw3747581498361149297:=0
def PySem.W.Fast.tw4525076558290464425:=0
def PySem.W.Fast.tw12796605756911580541:=0
set_option Elab.async false
set_option linter.all false
set_option maxRecDepth 100000
set_option maxHeartbeats 4000000
section
namespace L2
open PySem PySem.Spec PyProof.Rows
abbrev Key:=Sum Int Str
def qy:Key->Value->Bool
 | .inl k,v=>Value.isInt k v
 | .inr x,v=>Value.isStrOf x v
def Lp(w:World):Key->Int
 | .inl k=>hashInt k
 | .inr x=>hashStr w x
theorem cL:∀{k:Key} {v:Value},qy k v=true->(∃i t,k=Sum.inl i/\v=Value.int i t)\/(∃x t,k=Sum.inr x/\v=Value.str x t)
 | .inl i,v,h=>by
   obtain⟨t,e⟩:=Value.isInt_shape (k:=i) (v:=v) h;exact .inl ⟨i,t,rfl,e⟩
 | .inr x,v,h=>by
   obtain⟨t,e⟩:=Value.isStrOf_shape (x:=x) (v:=v) h;exact .inr ⟨x,t,rfl,e⟩
theorem yI(i:Int)(t:Tok):qy (.inl i) (.int i t)=true:=by simp [qy,Value.isInt]
theorem yC(x:Str)(t:Tok):qy (.inr x) (.str x t)=true:=by simp [qy,Value.isStrOf]
theorem G0(a b:Int):decide ((Sum.inl a:Key)=Sum.inl b)=(a==b):=by
 by_cases e:a=b
 .subst e;simp
 .have h:¬(Sum.inl a:Key)=Sum.inl b:=fun q=>e (Sum.inl.inj q)
  rw[decide_eq_false h];exact(beq_eq_false_iff_ne.mpr e).symm
theorem F5(a b:Str):decide ((Sum.inr a:Key)=Sum.inr b)=decide (a=b):=by
 by_cases e:a=b
 .subst e;simp
 .have h:¬(Sum.inr a:Key)=Sum.inr b:=fun q=>e (Sum.inr.inj q)
  rw[decide_eq_false h,decide_eq_false e]
theorem Gd(a:Int)(b:Str):decide ((Sum.inl a:Key)=Sum.inr b)=false:=decide_eq_false (fun q=>nomatch q)
theorem Hw(a:Str)(b:Int):decide ((Sum.inr a:Key)=Sum.inl b)=false:=decide_eq_false (fun q=>nomatch q)
def cj(prog:Program)(w:World):PySem.KeyKind prog w Key where
 is:=qy
 hash:=Lp w
 inj:=fun v a b ha hb=>by
  rcases cL ha with⟨i,t,rfl,rfl⟩ | ⟨x,t,rfl,rfl⟩
  .rcases cL hb with⟨j,u,rfl,e⟩ | ⟨y,u,rfl,e⟩
   .injection e with e1 _;rw [e1]
   .exact nomatch e
  .rcases cL hb with⟨j,u,rfl,e⟩ | ⟨y,u,rfl,e⟩
   .exact nomatch e
   .injection e with e1 _;rw [e1]
 byValue:=fun k v h=>by
  rcases cL h with⟨i,t,rfl,rfl⟩ | ⟨x,t,rfl,rfl⟩ <;> rfl
 pyHash:=fun hv h=>by
  rcases cL hv with⟨i,t,rfl,rfl⟩ | ⟨x,t,rfl,rfl⟩
  .exact wpAny_pyHash_int h
  .exact wpAny_pyHash_str h
 eqBool:=fun hu hv h=>by
  rcases cL hu with⟨i,t,rfl,rfl⟩ | ⟨x,t,rfl,rfl⟩
  .rcases cL hv with⟨j,u,rfl,rfl⟩ | ⟨y,u,rfl,rfl⟩
   .rw [G0] at h;exact wpAny_eqBool_int h
   .rw [Gd] at h;exact SeqAt.EqAt.int_str i t y u _ _ _ _ h
  .rcases cL hv with⟨j,u,rfl,rfl⟩ | ⟨y,u,rfl,rfl⟩
   .rw [Hw] at h;exact SeqAt.EqAt.str_int x t j u _ _ _ _ h
   .rw [F5] at h;exact wpAny_eqBool_str h
 «strs»:=fun k x t v h=>by
  rcases cL h with⟨i,u,rfl,e⟩ | ⟨y,u,rfl,e⟩
  .exact nomatch e
  .injection e with e1 _
   subst e1;cases v <;> rfl
theorem uG(prog:Program)(w:World)(i:Int)(t:Tok):(cj prog w).is (.inl i) (.int i t)=true:=yI i t
theorem ub(prog:Program)(w:World)(x:Str)(t:Tok):(cj prog w).is (.inr x) (.str x t)=true:=yC x t
inductive V where
 | cu | bl (b:Bool) | int (i:Int) | str (x:Str) | byt (b:Array UInt8) | flt (b:UInt64) | ref (a:Addr) | ty (n:String)
 deriving DecidableEq
def RelV:V->Value->Prop
 | .cu,u=>u=Value.none
 | .bl b,u=>u=Value.bool b
 | .int i,u=>∃t,u=Value.int i t
 | .str x,u=>∃t,u=Value.str x t
 | .byt b,u=>∃t,u=Value.bytes b t
 | .flt b,u=>∃t,u=Value.float b t
 | .ref a,u=>u=Value.ref a
 | .ty n,u=>u=Value.type n
abbrev Vals:List V->List Value->Prop:=Paired RelV
theorem Vals.length{xs:List V}{us:List Value}(r:Vals xs us):xs.length=us.length:=Paired.length r
theorem Vals.get:∀{xs:List V} {us:List Value} {i:Nat} {x:V},Vals xs us->xs[i]? =some x->∃u,us[i]? =some u/\RelV x u
 | _,_,_,_, .nil,e=>by simp at e
 | _,_,0,_, .cons r _,e=>by simp at e;subst e;exact⟨_,rfl,r⟩
 | _,_,i+1,x, .cons _ t,e=>by
   obtain⟨u,h1,h2⟩:=Vals.get (i:=i) (x:=x) t (by simpa using e)
   exact⟨u,by simpa using h1,h2⟩
theorem Vals.append:∀{xs ys:List V} {us ws:List Value},Vals xs us->Vals ys ws->Vals (xs++ys) (us++ws)
 | _,_,_,_, .nil,s=>s
 | _,_,_,_, .cons r t,s=> .cons r (Vals.append t s)
theorem Vals.take:∀{xs:List V} {us:List Value} (n:Nat),Vals xs us->Vals (xs.take n) (us.take n)
 | _,_,0,_=> .nil
 | _,_,_+1, .nil=> .nil
 | _,_,n+1, .cons r t=> .cons r (Vals.take n t)
theorem Vals.drop:∀{xs:List V} {us:List Value} (n:Nat),Vals xs us->Vals (xs.drop n) (us.drop n)
 | _,_,0,r=>r
 | _,_,_+1, .nil=> .nil
 | _,_,n+1, .cons _ t=>Vals.drop n t
def mG:Option V->Option Value->Prop
 | some v,some u=>RelV v u
 | none,none=>True
 | _,_=>False
def KV{κ:Type}:List (κ × V)->List (κ × Value)->Prop:=Paired fun(p:κ × V) (q:κ × Value)=>p.1=q.1/\RelV p.2 q.2
def kV:Key->V
 | .inl i=> .int i
 | .inr x=> .str x
inductive HO where
 | lst (xs:List V)
 | tup (xs:List V)
 | dK (kvs:List (Key × V)) | dT (kvs:List (List Key × V))
 | set (S:Int->Bool) (n:Nat)
 | ins (C dx:Addr) (fs:List (Str × V))
 | own (x:Addr)
 | xd (fs:List (Str × V))
 | met (f x:Addr)
 | rng (lo hi:Int)
 | ft (o:Obj) (u:HO)
 | B7 (ps:Array Value)
 | ext (φ:Heap->Prop)
abbrev Hp:=Addr->Option HO
def upd(H:Hp)(a:Addr)(o:HO):Hp:=fun b=>if b=a then some o else H b
theorem aU{a:Addr}{o:HO}:upd H a o a=some o:=by unfold upd;rw [if_pos rfl]
theorem bo{H:Hp}{a b:Addr}{o:HO}(h:b≠a):upd H a o b=H b:=by unfold upd;rw [if_neg h]
theorem C7{a:Addr}{o u:HO}:upd (upd H a o) a u=upd H a u:=by
 funext b;unfold upd;split <;> rfl
theorem Jc{H:Hp}{a b:Addr}{o u:HO}(h:H a=some o)(h':H b=some u)(d:o≠u):a≠b:=by
 intro e;subst e;rw [h] at h';exact d (Option.some.inj h')
theorem bY{H:Hp}{a b:Addr}{o:HO}(h:H a=some o)(h':H b=none):a≠b:=by
 intro e;subst e;rw [h] at h';cases h'
section
variable (P:Program) (w:World)
def cB(H:Hp)(h:Heap)(a:Addr):HO->Prop
 | .lst xs=>xs.length<=sizeLine/\∃(its:List Value) (n:Nat),Vals xs its/\h.get? a=some {cls:= .type "list",data:= .seq its.toArray n}
 | .tup xs=>xs.length<=sizeLine/\∃its:List Value,Vals xs its/\IsTup h a its.toArray
 | .dK kvs=>kvs.length<=sizeLine/\(a==sysModules)=false/\∃vs,KV kvs vs/\h.DictOf (cj P w) a vs
 | .dT kvs=>kvs.length<=sizeLine/\(a==sysModules)=false/\∃xs:List (List Key × Addr × Value),
    Paired (fun(p:List Key × V) (q:List Key × Addr × Value)=>p.1=q.1/\H q.2.1=some (.tup (p.1.map kV))/\RelV p.2 q.2.2) kvs xs/\
    ∃o es ep,h.get? a=some o/\o.ExactDict/\o.data= .dict es ep/\es.toList=xs.map (entryOfKey (tupleKind (cj P w)))/\(xs.map (·.1)).Nodup
 | .set S n=>h.SetOf (intKind P w) a S n
 | .ins C dx fs=>H dx=some (.own a)/\fs.length<=1000/\dx≠a/\h.get? a=some (PySem.W.instObj C dx)/\
    ∃mA,h.Ns1 dx mA/\(∀f,mG (fs.lookup f) (mA f))/\PySem.Within mA (fs.map (·.1))
 | .own _=>∃o,h.get? a=some o
 | .xd fs=>∃mA,h.Ns1 a mA/\∀f,mG (fs.lookup f) (mA f)
 | .rng lo hi=>∃t u v,h.get? a=some {cls:= .type "range",data:= .fields #[.int lo t, .int hi u, .int 1 v]}
 | .ft o u=>h.get? a=some o/\cB H h a u
 | .B7 ps=>h.get? a=some {cls:= .none,data:= .fields ps}
 | .met f x=>h.get? a=some (PySem.W.methodObj (.ref f) (.ref x))
 | .ext φ=>φ h/\(∃o,h.get? a=some o)/\∀h1 h2:Heap,φ h1->(∀o,h1.get? a=some o->h2.get? a=some o)->φ h2
def kE(H:Hp)(h:Heap):Prop:=∀a o,H a=some o->cB P w H h a o
end
section
variable {P:Program} {w:World} {H H':Hp} {h h':Heap} {a:Addr} {o:HO}
theorem cB.lt(x:cB P w H h a o):a < h.objs.size:=by
 cases o with
 | lst xs=>obtain⟨_,_,_,_,e⟩:=x;exact Heap.lt_size e
 | tup xs=>obtain⟨_,_,_,p⟩:=x;exact p.lt
 | dK kvs=>obtain⟨_,_,_,_,o,_,_,e,_⟩:=x;exact Heap.lt_size e
 | dT kvs=>obtain⟨_,_,_,_,o,_,_,e,_⟩:=x;exact Heap.lt_size e
 | set S n=>obtain⟨o,_,_,_,e,_⟩:=x;exact Heap.lt_size e
 | ins C dx fs=>obtain⟨_,_,_,e,_⟩:=x;exact Heap.lt_size e
 | own y=>obtain⟨_,e⟩:=x;exact Heap.lt_size e
 | xd fs=>obtain⟨_,⟨_,_,_,e,_⟩,_⟩:=x;exact Heap.lt_size e
 | rng lo hi=>obtain⟨_,_,_,e⟩:=x;exact Heap.lt_size e
 | ft ob u=>obtain⟨e,_⟩:=x;exact Heap.lt_size e
 | B7 ps=>exact Heap.lt_size (show h.get? a=some _ from x)
 | met f y=>exact Heap.lt_size (show h.get? a=some _ from x)
 | ext φ=>obtain⟨_,⟨_,e⟩,_⟩:=x;exact Heap.lt_size e
theorem Paired.Gx{α β:Type}{F G:α->β->Prop}:∀{JU:List α} {JS:List β},Paired F JU JS->(∀a b,F a b->G a b)->Paired G JU JS
 | _,_, .nil,_=> .nil
 | _,_, .cons r t,f=> .cons (f _ _ r) (Paired.Gx t f)
theorem cB.vo(x:cB P w H h a o)(k:∀b u,(b=a\/H b=some (.own a))->h.get? b=some u->h'.get? b=some u)
 (ho:∀b,H b=some (.own a)->H' b=some (.own a)) (ht:∀b xs,H b=some (.tup xs)->H' b=some (.tup xs)):cB P w H' h' a o:=by
 induction o with
 | lst xs=>obtain⟨z,its,n,r,e⟩:=x;exact⟨z,its,n,r,k _ _ (.inl rfl) e⟩
 | tup xs=>obtain⟨z,its,r,ob,e,c⟩:=x;exact⟨z,its,r,ob,k _ _ (.inl rfl) e,c⟩
 | dK kvs=>obtain⟨z,y,vs,r,ob,es,ep,e,c⟩:=x;exact⟨z,y,vs,r,ob,es,ep,k _ _ (.inl rfl) e,c⟩
 | dT kvs=>
   obtain⟨z,y,xs,r,ob,es,ep,e,c⟩:=x;exact⟨z,y,xs,Paired.Gx r fun p q z=>⟨z.1,ht _ _ z.2.1,z.2.2⟩,ob,es,ep,k _ _ (.inl rfl) e,c⟩
 | set S n=>obtain⟨ob,es,ep,t,e,c⟩:=x;exact⟨ob,es,ep,t,k _ _ (.inl rfl) e,c⟩
 | ins C dx fs=>
   obtain⟨d,z,ne,e,mA,⟨od,es,ep,e2,c⟩,r⟩:=x;exact⟨ho _ d,z,ne,k _ _ (.inl rfl) e,mA,⟨od,es,ep,k _ _ (.inr d) e2,c⟩,r⟩
 | own y=>obtain⟨ob,e⟩:=x;exact⟨ob,k _ _ (.inl rfl) e⟩
 | xd fs=>obtain⟨mA,⟨od,es,ep,e,c⟩,r⟩:=x;exact⟨mA,⟨od,es,ep,k _ _ (.inl rfl) e,c⟩,r⟩
 | rng lo hi=>obtain⟨t,u,v,e⟩:=x;exact⟨t,u,v,k _ _ (.inl rfl) e⟩
 | ft ob u ih=>obtain⟨e,q⟩:=x;exact⟨k _ _ (.inl rfl) e,ih q⟩
 | B7 ps=>
   have e:h.get? a=some {cls:= .none,data:= .fields ps}:=x;show h'.get? a=some {cls:= .none,data:= .fields ps};exact k a _ (.inl rfl) e
 | met f y=>
   have e:h.get? a=some (PySem.W.methodObj (.ref f) (.ref y)):=x;show h'.get? a=some (PySem.W.methodObj (.ref f) (.ref y));exact k a _ (.inl rfl) e
 | ext φ=>obtain⟨p,⟨o,e⟩,st⟩:=x;exact⟨st _ _ p fun o q=>k _ _ (.inl rfl) q,⟨o,k _ _ (.inl rfl) e⟩,st⟩
theorem kE.lt(x:kE P w H h)(e:H a=some o):a < h.objs.size:=(x a o e).lt
theorem kE.fresh(x:kE P w H h)(e:h.objs.size<=a):H a=none:=by
 cases q:H a with
 | none=>rfl
 | some u=>exact absurd (Nat.lt_of_lt_of_le (x.lt q) e) (Nat.lt_irrefl _)
theorem kE.kept(x:kE P w H h)(k:∀b u,h.get? b=some u->h'.get? b=some u):kE P w H h':=fun a o e=>
 (x a o e).vo (fun b u _ q=>k b u q) (fun _ q=>q) fun _ _ q=>q
theorem kE.laid(x:kE P w H h)(k:∀b u,h.get? b=some u->h'.get? b=some u)(hp:h.objs.size<=a)(new:cB P w (upd H a o) h' a o):kE P w (upd H a o) h':=fun b u e=>by
 have hn:=x.fresh hp;by_cases hb:b=a
 .subst hb;rw [aU] at e;cases e;exact new
 .rw [bo hb] at e;exact(x b u e).vo (fun c v _ q=>k c v q) (fun c q=>by rw[bo (bY q hn)];exact q) fun c xs q=>by rw[bo (bY q hn)];exact q
end
def Rd(H:Hp)(a:Addr)(u:HO):Prop:=H a=some u\/∃o,H a=some (.ft o u)
theorem Rd.ok{a:Addr}{u:HO}(r:Rd H a u)(x:kE P w H h):cB P w H h a u:=by
 rcases r with r | ⟨o,r⟩
 .exact x a u r
 .obtain⟨_,q⟩:=x a _ r;exact q
def IG:Option HO->Prop
 | some (.lst _)=>True
 | some (.dK _)=>True
 | some (.dT _)=>True
 | some (.set _ _)=>True
 | some (.ins _ _ _)=>True
 | some (.ext _)=>True
 | _=>False
section
variable {P:Program} {w:World} {H:Hp} {h h':Heap} {x e:Addr} {o':HO}
theorem kE.write(ok:kE P w H h)(mu:IG (H x))(he:e=x\/H e=some (.own x))(k:∀b u,b≠e->h.get? b=some u->h'.get? b=some u)(B8:∃u,h'.get? e=some u)
 (new:cB P w (upd H x o') h' x o'):kE P w (upd H x o') h':=fun b u q=>by
 have nown:∀c y,H c=some (.own y)->c≠x:=fun c y r z=>by subst z;rw [r] at mu;exact mu
 have ntup:∀c xs,H c=some (.tup xs)->c≠x:=fun c xs r z=>by subst z;rw [r] at mu;exact mu
 by_cases hb:b=x
 .subst hb;rw [aU] at q;cases q;exact new
 .rw [bo hb] at q;by_cases hbe:b=e
  .have q':H b=some (.own x):=by
    rcases he with z | z
    .exact absurd (hbe.trans z) hb
    .rw [hbe];exact z
   rw[q] at q';cases q';obtain⟨v,hv⟩:=B8;exact⟨v,by rw[hbe];exact hv⟩
  .refine(ok b u q).vo (fun c v hc r=>k c v ?_ r) (fun c r=>by rw[bo (nown c b r)];exact r) fun c xs r=>by rw[bo (ntup c xs r)];exact r
   rcases hc with rfl | hc
   .exact hbe
   .rintro rfl;rcases he with z | z
    .exact nown c b hc z
    .rw [hc] at z;cases z;exact hb rfl
end
structure Un (fs ex:List Addr) (H H':Hp) (h h':Heap):Prop where
 keep:∀b o,h.get? b=some o->H b=none->b ∉ fs->b ∉ ex->h'.get? b=some o
 slot:∀b o,h.get? b=some o->H b=none->b∈fs->b ∉ ex->∃sl,h'.get? b=some {o with slots:=sl}
 free:∀b o,h.get? b=some o->H b=none->b ∉ ex->H' b=none
 there:∀b o,h.get? b=some o->b ∉ ex->∃o',h'.get? b=some o'
 tups:∀b xs,H b=some (.tup xs)->H' b=some (.tup xs)
 frzs:∀b o u,H b=some (.ft o u)->H' b=some (.ft o u)
 tbls:∀b ps,H b=some (.B7 ps)->∃more,H' b=some (.B7 (ps++more))
section
variable {fs JW ex S9:List Addr} {H H1 H2:Hp} {h h1 h2 h':Heap} {a x e:Addr} {o:HO}
theorem Un.any(u:Un fs ex H H1 h h1){b:Addr}{ob:Obj}(q:h.get? b=some ob)(n:H b=none)(hx:b ∉ ex):∃sl,h1.get? b=some {ob with slots:=sl}:=by
 by_cases hb:b∈fs
 .exact u.slot b ob q n hb hx
 .exact⟨ob.slots,u.keep b ob q n hb hx⟩
theorem Un.kept(k:∀b u,h.get? b=some u->h'.get? b=some u):Un fs ex H H h h':=
 ⟨fun b ob q _ _ _=>k b ob q,fun b ob q _ _ _=>⟨ob.slots,k b ob q⟩,fun _ _ _ n _=>n,fun b ob q _=>⟨ob,k b ob q⟩,fun _ _ q=>q,fun _ _ _ q=>q,fun _ ps q=>⟨#[],by rw[q];simp⟩⟩
theorem Un.refl:Un fs ex H H h h:=Un.kept fun _ _ q=>q
theorem Un.laid(k:∀b u,h.get? b=some u->h'.get? b=some u)(hp:h.objs.size<=a)(hn:H a=none):Un fs ex H (upd H a o) h h' where
 keep:=fun b u q _ _ _=>k b u q
 slot:=fun b u q _ _ _=>⟨u.slots,k b u q⟩
 free:=fun b u q n _=>by rw[bo (Nat.ne_of_lt (Nat.lt_of_lt_of_le (Heap.lt_size q) hp))];exact n
 there:=fun b u q _=>⟨u,k b u q⟩
 tups:=fun b xs q=>by rw[bo (bY q hn)];exact q
 frzs:=fun b u xs q=>by rw[bo (bY q hn)];exact q
 tbls:=fun b ps q=>⟨#[],by rw[bo (bY q hn),q];simp⟩
theorem Un.write(mu:IG (H x))(he:e=x\/H e=some (.own x))(k:∀b u,b≠e->h.get? b=some u->h'.get? b=some u)(B8:∃u,h'.get? e=some u):Un fs ex H (upd H x o) h h':=by
 have hx:∀b,H b=none->b≠x:=fun b n z=>by subst z;rw [n] at mu;exact mu
 have hb:∀b,H b=none->b≠e:=fun b n z=>by
  subst z;rcases he with r | r
  .exact hx b n r
  .rw [n] at r;cases r
 have hm:∀b u,H b=some u->¬IG (some u)->b≠x:=fun b u q nm z=>by subst z;rw [q] at mu;exact nm mu
 refine⟨fun b u q n _ _=>k b u (hb b n) q,fun b u q n _ _=>⟨u.slots,k b u (hb b n) q⟩,fun b u q n _=>by rw[bo (hx b n)];exact n,fun b u q _=>?_,
  fun b xs q=>by rw[bo (hm b _ q fun z=>z)];exact q,fun b u xs q=>by rw[bo (hm b _ q fun z=>z)];exact q,fun b ps q=>⟨#[],by rw[bo (hm b _ q fun z=>z),q];simp⟩⟩
 by_cases hbe:b=e
 .subst hbe;exact B8
 .exact⟨u,k b u hbe q⟩
end
def Ks(h:Heap)(H:Hp):List Addr:=(List.range h.objs.size).filter fun a=>(H a).isSome
def sI(h:Heap)(H:Hp):Heap:=PySem.W.hideAll h (Ks h H)
theorem yL(h:Heap)(H:Hp):(sI h H).objs.size=h.objs.size:=PySem.W.hideAll_size _ _
theorem zI{h:Heap}{H:Hp}{b:Addr}{o:Obj}(e:h.get? b=some o)(n:H b=none):(sI h H).get? b=some o:=
 PySem.W.hideAll_get _ e fun hm=>by
  have q:(H b).isSome=true:=(List.mem_filter.mp hm).2;rw[n] at q;simp at q
theorem C9{h:Heap}{H:Hp}{b:Addr}{o:Obj}(e:(sI h H).get? b=some o):h.get? b=some o/\H b=none:=by
 have e':h.get? b=some o:=PySem.W.of_hideAll (Ks h H) e;refine⟨e',?_⟩;cases q:H b with
 | none=>rfl
 | some x=>
   have hm:b∈Ks h H:=List.mem_filter.mpr ⟨List.mem_range.mpr (Heap.lt_size e'),by simp [q]⟩
   have z:(sI h H).get? b=none:=PySem.W.hideAll_none (Ks h H) hm;rw[z] at e;cases e
def Co(g h:Heap)(L:Addr):Th:=(List.range h.objs.size).filterMap fun a=>if a=L\/(g.get? a).isSome=true then none else(h.get? a).map fun o=>(a,o)
def rest(g h:Heap)(L d:Addr):Th:=(Co g h L).filter fun p=>decide (p.1≠d)
structure Mod (K:W.Frag) (mg:Tq) (base:Heap):Prop where
 kin:K.In base
 glob:base.Ns mainGlobals mg
 blt:∃mb,base.Ns builtinsNs mb/\∀x:Str,x≠"__name__"->mb x=bootBuiltins x
 nolimit:base.NoLimit
structure Cx where
 prog:Program
 w:World
 K:W.Frag
 mg:Tq
 base:Heap
 A:Around
 N:List Str
 s₀:Shared
 H₀:Hp
 env:Env
 outer:List Env
 stack:List Env
 ex:List Addr
 fn:Str->Bool
 calm:Bool
 pn:Th
 xe:Ti
def xu(l:List Env):List Addr:=l.filterMap (·.frame)
abbrev Cx.fs(X:Cx):List Addr:=xu X.outer
def B4(sc:Scope)(x:Str):Prop:=sc.names.lookup x=some .local\/sc.names.lookup x=some .cell\/sc.names.lookup x=some .free
def Loc(sc:Scope)(x:Str):Prop:=sc.names.lookup x=some .local\/sc.names.lookup x=some .cell
def Look(env:Env)(h:Heap)(m:Tq)(x:Str)(u:Value):Prop:=
 (env.kindOf x=some .local/\m x=some u)\/((env.kindOf x=some .cell\/env.kindOf x=some .free)/\∃c,env.cells.lookup x=some c/\h.IsCell c (some u))
structure Cx.Ok (X:Cx):Prop where
 mod:Mod X.K X.mg X.base
 kind:X.env.scope.kind= .function
 glob:X.env.globals=mainGlobals
 blt:X.env.builtins=builtinsNs
 above:X.s₀.heap.objs.size<=X.env.locals
 inj:∀x y c,X.env.cells.lookup x=some c->X.env.cells.lookup y=some c->x=y
 has:∀x,(X.env.kindOf x=some .cell\/X.env.kindOf x=some .free)->∃c,X.env.cells.lookup x=some c
 cab:∀x c,X.fn x=true->X.env.cells.lookup x=some c->X.s₀.heap.objs.size<=c
 hd:X.calm=true->X.A.handled=none
 frames:X.A.frames=some X.stack
 stk:X.stack=X.outer\/(X.stack=X.env ::X.outer/\X.env.frame=some X.env.locals)
 exf:∀b∈X.ex,b≠X.env.locals/\∀x c,X.env.cells.lookup x=some c->c≠b
 bs:∀b o,X.base.get? b=some o->X.s₀.heap.get? b=some o/\X.H₀ b=none
 bsz:X.base.objs.size<=X.s₀.heap.objs.size
 noex:∀b o,X.base.get? b=some o->b ∉ X.ex
 exfs:∀b∈X.ex,b ∉ X.fs
 pL:X.s₀.heap.FunFrames X.base X.outer
 frf:∀b∈X.fs,X.H₀ b=none
structure Inv (X:Cx) (pins:Th) (σ:List (Option V)) (H:Hp) (s:Shared):Prop where
 ok:X.Ok
 os:s.os=X.s₀.os
 bare:AllBare s.gens
 base:Un X.fs X.ex X.H₀ H X.s₀.heap s.heap
 loc:∃m,s.heap.Ns X.env.locals m/\∀(i:Nat) (x:Str) (v:V),X.N[i]? =some x->σ[i]? =some (some v)->B4 X.env.scope x->∃u,RelV v u/\Look X.env s.heap m x u
 cell:∀x c,X.env.cells.lookup x=some c->∃v,s.heap.IsCell c v
 free:H X.env.locals=none
 freeC:∀x c,X.env.cells.lookup x=some c->H c=none
 pin:∀p∈X.pn++pins,s.heap.get? p.1=some p.2/\H p.1=none/\p.1≠X.env.locals/\p.1 ∉ X.fs/\∀v,p.2.data≠ .cell v
 hok:kE X.prog X.w H s.heap
 len:σ.length=X.N.length
section
variable {X:Cx} {pins:Th} {σ:List (Option V)} {H H':Hp} {s:Shared} {h':Heap}
theorem Cx.Ok.Ld(ok:X.Ok){b:Addr}{o:Obj}(e:X.base.get? b=some o):b ∉ X.fs:=fun hb=>by
 have:=(ok.pL.mem hb).1;rw[e] at this;cases this
theorem Inv.bs(I:Inv X pins σ H s):∀b o,X.base.get? b=some o->s.heap.get? b=some o/\H b=none:=fun b o e=>
 ⟨I.base.keep b o (I.ok.bs b o e).1 (I.ok.bs b o e).2 (I.ok.Ld e) (I.ok.noex b o e),I.base.free b o (I.ok.bs b o e).1 (I.ok.bs b o e).2 (I.ok.noex b o e)⟩
theorem Inv.bk(I:Inv X pins σ H s):∀b o,X.base.get? b=some o->s.heap.get? b=some o:=fun b o e=>(I.bs b o e).1
theorem Inv.mod(I:Inv X pins σ H s):Mod X.K X.mg X.base:=I.ok.mod
theorem Inv.qX(I:Inv X pins σ H s):X.K.In s.heap:=I.ok.mod.kin.keeps I.bk
theorem Inv.lt(I:Inv X pins σ H s):X.env.locals < s.heap.objs.size:=let⟨_,hn,_⟩:=I.loc;hn.lt
theorem Inv.sz(I:Inv X pins σ H s):X.s₀.heap.objs.size<=s.heap.objs.size:=Nat.le_trans I.ok.above (Nat.le_of_lt I.lt)
theorem Inv.K_(I:Inv X pins σ H s){a:Addr}(h:s.heap.objs.size<=a):a ∉ X.fs:=fun hb=>by
 obtain⟨_,o,ho,_⟩:=I.ok.pL.mem hb;exact absurd (Nat.lt_of_lt_of_le (Heap.lt_size ho) (Nat.le_trans I.sz h)) (Nat.lt_irrefl _)
theorem Inv.Hf(I:Inv X pins σ H s):∀x c,X.env.cells.lookup x=some c->c≠X.env.locals:=fun x c e z=>by
 obtain⟨v,o,ho,hd⟩:=I.cell x c e;obtain⟨m,⟨o',es,ep,B9,My,_⟩,_⟩:=I.loc;rw[z,B9] at ho;cases ho;rw [My] at hd;cases hd
theorem Inv.pL(I:Inv X pins σ H s):s.heap.FunFrames X.base X.outer:=by
 have all:∀(l:List Env),(∀b∈xu l,b∈X.fs)->X.s₀.heap.FunFrames X.base l->s.heap.FunFrames X.base l:=by
  intro l
  induction l with
  | nil=>intro _ _;trivial
  | cons env r ih=>
    intro hs hl;obtain⟨hk,⟨L,o,hf,hn,ho,hd⟩,hr⟩:=hl;have hL:L∈X.fs:=hs L (by unfold xu;rw [List.filterMap_cons,hf];exact List.mem_cons_self)
    obtain⟨sl,e⟩:=I.base.slot L o ho (I.ok.frf L hL) hL fun z=>I.ok.exfs L z hL
    exact⟨hk,⟨L,_,hf,hn,e,hd⟩,ih (fun b hb=>hs b (by unfold xu;rw [List.filterMap_cons,hf];exact List.mem_cons_of_mem _ hb)) hr⟩
 exact all X.outer (fun _ hb=>hb) I.ok.pL
theorem Inv.stack(I:Inv X pins σ H s):s.heap.FunFrames X.base X.stack:=by
 rcases I.ok.stk with e | ⟨e,hf⟩
 .rw [e];exact I.pL
 .rw [e];obtain⟨m,hn,_⟩:=I.loc;refine .cons (by rw[I.ok.kind];decide) hf hn ?_ I.pL
  exact Heap.get?_none_of_le (Nat.le_trans I.ok.bsz I.ok.above)
theorem Inv.vt(I:Inv X pins σ H s):∀b∈xu X.stack,b∈X.env.locals ::X.fs:=fun b hb=>by
 rcases I.ok.stk with e | ⟨e,hf⟩
 .rw [e] at hb;exact List.mem_cons_of_mem _ hb
 .rw [e] at hb;unfold xu at hb;rw[List.filterMap_cons,hf] at hb;exact hb
theorem Inv.ya(I:Inv X pins σ H s):∀b∈xu X.stack,H b=none:=fun b hb=>by
 rcases List.mem_cons.mp (I.vt b hb) with e | hb
 .rw [e];exact I.free
 .obtain⟨_,o,ho,_⟩:=I.ok.pL.mem hb;exact I.base.free b o ho (I.ok.frf b hb) fun z=>I.ok.exfs b z hb
theorem Inv.step{g':Array GenState}{t':Nat}{d':Drawn}{ch:List Addr}(I:Inv X pins σ H s)
 (Cb:∀b∈ch,(b∈X.ex\/X.s₀.heap.objs.size<=b)/\b≠X.env.locals/\(∀x c,X.env.cells.lookup x=some c->c≠b)/\∀p∈X.pn++pins,p.1≠b)
 (keep:∀b o,b≠X.env.locals->b ∉ X.fs->b ∉ ch->s.heap.get? b=some o->H b=none->h'.get? b=some o)
 (slot:∀b o,b≠X.env.locals->b∈X.fs->b ∉ ch->s.heap.get? b=some o->H b=none->∃sl,h'.get? b=some {o with slots:=sl}) (free:∀b o,b ∉ ch->s.heap.get? b=some o->H b=none->H' b=none)
 (there:∀b o,b ∉ ch->s.heap.get? b=some o->∃o',h'.get? b=some o')
 (tups:∀b xs,H b=some (.tup xs)->H' b=some (.tup xs)) (frzs:∀b o u,H b=some (.ft o u)->H' b=some (.ft o u)) (tbls:∀b ps,H b=some (.B7 ps)->∃more,H' b=some (.B7 (ps++more)))
 (ns:∀m,s.heap.Ns X.env.locals m->h'.Ns X.env.locals m) (hok:kE X.prog X.w H' h') (hg:AllBare g') :
 Inv X pins σ H' {s with heap:=h',gens:=g',drawn:=d',toks:=t'}:=by
 have neL:∀b o,X.s₀.heap.get? b=some o->b≠X.env.locals:=fun b o e=>Nat.ne_of_lt (Nat.lt_of_lt_of_le (Heap.lt_size e) I.ok.above)
 have neC:∀b o,X.s₀.heap.get? b=some o->b ∉ X.ex->b ∉ ch:=fun b o e hx hb=>by
  rcases(Cb b hb).1 with z | z
  .exact hx z
  .exact absurd (Nat.lt_of_lt_of_le (Heap.lt_size e) z) (Nat.lt_irrefl _)
 have cellK:∀x c,X.env.cells.lookup x=some c->∀v,s.heap.IsCell c v->h'.IsCell c v:=fun x c e v ⟨o,ho,hd⟩=>by
  have nch:c ∉ ch:=fun z=>(Cb c z).2.2.1 x c e rfl
  by_cases hc:c∈X.fs
  .obtain⟨sl,q⟩:=slot c o (I.Hf x c e) hc nch ho (I.freeC x c e);exact⟨_,q,hd⟩
  .exact⟨o,keep c o (I.Hf x c e) hc nch ho (I.freeC x c e),hd⟩
 refine⟨I.ok,I.os,hg,⟨fun b o e n hb hx=>?_,fun b o e n hb hx=>?_,fun b o e n hx=>?_,fun b o e hx=>?_,fun b xs e=>tups b xs (I.base.tups b xs e),fun b o xs e=>frzs b o xs (I.base.frzs b o xs e),fun b ps e=>?_⟩,?_,fun x c e=>?_,?_,fun x c e=>?_,fun p hp=>?_,hok,I.len⟩
 .exact keep b o (neL b o e) hb (neC b o e hx) (I.base.keep b o e n hb hx) (I.base.free b o e n hx)
 .obtain⟨sl,e1⟩:=I.base.slot b o e n hb hx;obtain⟨Rj,e2⟩:=slot b _ (neL b o e) hb (neC b o e hx) e1 (I.base.free b o e n hx);exact⟨Rj,e2⟩
 .obtain⟨o',e1⟩:=I.base.there b o e hx;exact free b o' (neC b o e hx) e1 (I.base.free b o e n hx)
 .obtain⟨o',e1⟩:=I.base.there b o e hx;exact there b o' (neC b o e hx) e1
 .obtain⟨m1,e1⟩:=I.base.tbls b ps e;obtain⟨m2,e2⟩:=tbls b _ e1;exact⟨m1++m2,by rw[e2,Array.append_assoc]⟩
 .obtain⟨m,hn,hl⟩:=I.loc;refine⟨m,ns m hn,fun i x v e1 e2 e3=>?_⟩
  obtain⟨u,r,l⟩:=hl i x v e1 e2 e3;refine⟨u,r,?_⟩;rcases l with l | ⟨k,c,e,z⟩
  .exact .inl l
  .exact .inr ⟨k,c,e,cellK x c e _ z⟩
 .obtain⟨v,z⟩:=I.cell x c e;exact⟨v,cellK x c e v z⟩
 .obtain⟨m,⟨o,_,_,ho,_⟩,_⟩:=I.loc;exact free _ o (fun z=>(Cb _ z).2.1 rfl) ho I.free
 .obtain⟨v,o,ho,hd⟩:=I.cell x c e;exact free c o (fun z=>(Cb c z).2.2.1 x c e rfl) ho (I.freeC x c e)
 .obtain⟨e,n,ne,nf,d⟩:=I.pin p hp;have nch:p.1 ∉ ch:=fun z=>(Cb p.1 z).2.2.2 p hp rfl
  exact⟨keep p.1 p.2 ne nf nch e n,free p.1 p.2 nch e n,ne,nf,d⟩
theorem Inv.un{t':Nat}(I:Inv X pins σ H s)(u:Un X.fs [] H H' s.heap h')(hok:kE X.prog X.w H' h'):Inv X pins σ H' {s with heap:=h',toks:=t'}:=by
 obtain⟨m,⟨o,es,ep,ho,r⟩,_⟩:=id I.loc;obtain⟨sl,hL⟩:=u.any ho I.free (by simp)
 exact I.step (g':=s.gens) (d':=s.drawn) (ch:=[]) (fun _ z=>nomatch z) (fun b o _ hb _ e n=>u.keep b o e n hb (by simp)) (fun b o _ hb _ e n=>u.slot b o e n hb (by simp)) (fun b o _ e n=>u.free b o e n (by simp)) (fun b o _ e=>u.there b o e (by simp)) u.tups u.frzs u.tbls (fun m' hm=>by
  obtain⟨o',Mm,Mr,B9,r'⟩:=hm;rw[ho] at B9;cases B9;exact⟨_,Mm,Mr,hL,r'⟩) hok I.bare
theorem Inv.call{g':Array GenState}{t':Nat}{d':Drawn}{ch:List Addr}(I:Inv X pins σ H s)(u:Un (xu X.stack) ch H H' s.heap h')(hok:kE X.prog X.w H' h')(hg:AllBare g')
 (Cb:∀b∈ch,(b∈X.ex\/X.s₀.heap.objs.size<=b)/\b≠X.env.locals/\(∀x c,X.env.cells.lookup x=some c->c≠b)/\∀p∈X.pn++pins,p.1≠b) :
 Inv X pins σ H' {s with heap:=h',gens:=g',drawn:=d',toks:=t'}:=by
 obtain⟨m,⟨o,es,ep,ho,r⟩,_⟩:=id I.loc;obtain⟨sl,hL⟩:=u.any ho I.free fun z=>(Cb _ z).2.1 rfl
 exact I.step (ch:=ch) Cb (fun b o hL hb hc e n=>u.keep b o e n (fun z=>(List.mem_cons.mp (I.vt b z)).elim hL hb) hc) (fun b o _ _ hc e n=>u.any e n hc) (fun b o hc e n=>u.free b o e n hc) (fun b o hc e=>u.there b o e hc) u.tups u.frzs u.tbls (fun m' hm=>by
  obtain⟨o',Mm,Mr,B9,r'⟩:=hm;rw[ho] at B9;cases B9;exact⟨_,Mm,Mr,hL,r'⟩) hok hg
theorem Inv.turned{t':Nat}{it:Addr}(I:Inv X pins σ H s)(k:∀b o,b≠it->s.heap.get? b=some o->h'.get? b=some o)(hn:H it=none)(hL:it≠X.env.locals)
 (h1:it∈X.ex\/X.s₀.heap.objs.size<=it) (h2:∀x c,X.env.cells.lookup x=some c->c≠it) (h3:∀p∈X.pn++pins,p.1≠it):Inv X pins σ H {s with heap:=h',toks:=t'}:=by
 have nit:∀b u,H b=some u->b≠it:=fun b u e z=>by rw[z,hn] at e;cases e
 refine I.step (g':=s.gens) (d':=s.drawn) (ch:=[it]) (fun b hb=>?_) (fun b o _ _ hc e _=>k b o (fun z=>hc (by simp [z])) e) (fun b o _ _ hc e _=>⟨o.slots,k b o (fun z=>hc (by simp [z])) e⟩) (fun _ _ _ _ n=>n)
  (fun b o hc e=>⟨o,k b o (fun z=>hc (by simp [z])) e⟩) (fun _ _ e=>e) (fun _ _ _ e=>e) (fun b ps e=>⟨#[],by rw[e];simp⟩) (fun m hm=>?_) (fun b u e=>?_) I.bare
 .have e:b=it:=by simpa using hb
  subst e;exact⟨h1,hL,h2,h3⟩
 .obtain⟨o,es,ep,ho,r⟩:=hm;exact⟨o,es,ep,k _ o (Ne.symm hL) ho,r⟩
 .refine(I.hok b u e).vo (fun c v hc q=>k c v ?_ q) (fun _ q=>q) fun _ _ q=>q
  rcases hc with z | z
  .rw [z];exact nit b u e
  .exact nit c _ z
theorem Inv.tok(I:Inv X pins σ H s)(t:Nat):Inv X pins σ H {s with toks:=t}:=I.un (h':=s.heap) (t':=t) Un.refl I.hok
theorem Inv.kept{t':Nat}(I:Inv X pins σ H s)(k:∀b u,s.heap.get? b=some u->h'.get? b=some u):Inv X pins σ H {s with heap:=h',toks:=t'}:=I.un (Un.kept k) (I.hok.kept k)
theorem Inv.laid{a:Addr}{o:HO}{t':Nat}(I:Inv X pins σ H s)(k:∀b u,s.heap.get? b=some u->h'.get? b=some u)(hp:s.heap.objs.size<=a)(new:cB X.prog X.w (upd H a o) h' a o) :
 Inv X pins σ (upd H a o) {s with heap:=h',toks:=t'}:=I.un (Un.laid k hp (I.hok.fresh hp)) (I.hok.laid k hp new)
theorem Inv.write{x e:Addr}{o:HO}{t':Nat}(I:Inv X pins σ H s)(mu:IG (H x))(he:e=x\/H e=some (.own x))(k:∀b u,b≠e->s.heap.get? b=some u->h'.get? b=some u)(B8:∃u,h'.get? e=some u)
 (new:cB X.prog X.w (upd H x o) h' x o):Inv X pins σ (upd H x o) {s with heap:=h',toks:=t'}:=I.un (Un.write mu he k B8) (I.hok.write mu he k B8 new)
theorem Inv.wD{BW:Th}(I:Inv X pins σ H s)(h:∀p∈BW,s.heap.get? p.1=some p.2/\H p.1=none/\p.1≠X.env.locals/\p.1 ∉ X.fs/\∀v,p.2.data≠ .cell v):Inv X BW σ H s:=
 ⟨I.ok,I.os,I.bare,I.base,I.loc,I.cell,I.free,I.freeC,fun p hp=>(List.mem_append.mp hp).elim (fun z=>I.pin p (List.mem_append_left _ z)) (h p),I.hok,I.len⟩
theorem uD{N:List Str}(hN:N.Nodup){i j:Nat}(a:N[i]? =some x)(b:N[j]? =some x):i=j:=by
 obtain⟨h1,e1⟩:=List.getElem?_eq_some_iff.mp a;obtain⟨h2,e2⟩:=List.getElem?_eq_some_iff.mp b;exact(List.getElem_inj hN).mp (e1.trans e2.symm)
theorem qZ{M:Model}{A:Around}{E:Ti}{i:Nat}{x:Str}{v:V}{u:Value}{Q:Unit->Shared->Prop}(I:Inv X pins σ H s)(hN:X.N.Nodup)(hi:X.N[i]? =some x)(hx:Loc X.env.scope x)(r:RelV v u)
 (h:∀s',Inv X pins (σ.set i (some v)) H s'->(∃a,Heap.SameBut a s.heap s'.heap/\(a=X.env.locals\/X.env.cells.lookup x=some a))->Q () s') (hf:X.fn x=true\/X.env.scope.names.lookup x=some .local:=by first | exact .inl rfl | exact .inr rfl | assumption):wpAny M A (storeName X.env x u) Q E s:=by
 obtain⟨m,hn,hl⟩:=id I.loc;have hcls:(X.env.scope.kind== .class || (X.env.scope.kind== .module && X.env.locals !=X.env.globals))=false:=by rw[I.ok.kind];rfl
 have hiσ:i < σ.length:=by rw[I.len];exact(List.getElem?_eq_some_iff.mp hi).1
 have Hf:=I.Hf;have tracked:∀{a:Addr} {h':Heap},(∃o,s.heap.get? a=some o/\H a=none)->Heap.SameBut a s.heap h'->kE X.prog X.w H h':=fun {a h'} ha hs b ob e=>by
  obtain⟨_,_,hfree⟩:=ha;refine(I.hok b ob e).vo (fun c w' hc q=>(hs.2 c ?_).trans q) (fun _ q=>q) fun _ _ q=>q
  rintro rfl;rcases hc with rfl | hc
  .rw [hfree] at e;cases e
  .rw [hfree] at hc;cases hc
 rcases hx with hk | hk
 .refine wpAny_storeName_local hk hn (fun h' Ru hs=>?_) hcls
  obtain⟨oL,_,_,hoL,_⟩:=id hn;refine h _ ⟨I.ok,I.os,I.bare,⟨fun b o e n hb hx=>?_,fun b o e n hb hx=>?_,I.base.free,fun b o e hx=>?_,I.base.tups,I.base.frzs,I.base.tbls⟩,⟨_,Ru,fun j y v' e1 e2 e3=>?_⟩,fun y c e=>?_,I.free,I.freeC,fun p hp=>?_,tracked ⟨oL,hoL,I.free⟩ hs,by simpa using I.len⟩ ⟨_,hs, .inl rfl⟩
  .exact(hs.2 b (Nat.ne_of_lt (Nat.lt_of_lt_of_le (Heap.lt_size e) I.ok.above))).trans (I.base.keep b o e n hb hx)
  .obtain⟨sl,e1⟩:=I.base.slot b o e n hb hx;exact⟨sl,(hs.2 b (Nat.ne_of_lt (Nat.lt_of_lt_of_le (Heap.lt_size e) I.ok.above))).trans e1⟩
  .obtain⟨o',e1⟩:=I.base.there b o e hx;exact⟨o',(hs.2 b (Nat.ne_of_lt (Nat.lt_of_lt_of_le (Heap.lt_size e) I.ok.above))).trans e1⟩
  .by_cases hj:j=i
   .subst hj;rw[hi] at e1;cases e1;rw[List.getElem?_set_self hiσ] at e2;cases e2;exact⟨u,r, .inl ⟨hk,by simp⟩⟩
   .rw [List.getElem?_set_ne (Ne.symm hj)] at e2;obtain⟨u',r',q⟩:=hl j y v' e1 e2 e3;refine⟨u',r',?_⟩;rcases q with⟨k,e⟩ | ⟨k,c,e,z⟩
    .refine .inl ⟨k,?_⟩;have:y≠x:=fun e=>hj (uD hN e1 (e▸hi))
     simp [this,e]
    .exact .inr ⟨k,c,e,z.sameBut hs (Hf y c e)⟩
  .obtain⟨w',z⟩:=I.cell y c e;exact⟨w',z.sameBut hs (Hf y c e)⟩
  .obtain⟨e,n,ne,nf,d⟩:=I.pin p hp;exact⟨(hs.2 p.1 ne).trans e,n,ne,nf,d⟩
 .have hfn:X.fn x=true:=by
   rcases hf with z | z
   .exact z
   .rw [z] at hk;cases hk
  obtain⟨c,hc⟩:=I.ok.has x (.inl hk);obtain⟨w',z⟩:=I.cell x c hc;refine wpAny_storeName_cell I.ok.kind hk hc z (fun h' zu hs=>?_)
  obtain⟨oc,hoc,hocd⟩:=id z;refine h {s with heap:=h'} ⟨I.ok,I.os,I.bare,⟨fun b o e n hb hx=>?_,fun b o e n hb hx=>?_,I.base.free,fun b o e hx=>?_,I.base.tups,I.base.frzs,I.base.tbls⟩,⟨m,hn.sameBut hs (Ne.symm (Hf x c hc)),fun j y v' e1 e2 e3=>?_⟩,fun y c' e=>?_,I.free,I.freeC,fun p hp=>?_,tracked ⟨oc,hoc,I.freeC x c hc⟩ hs,by simpa using I.len⟩ ⟨c,hs, .inr hc⟩
  .exact(hs.2 b (Nat.ne_of_lt (Nat.lt_of_lt_of_le (Heap.lt_size e) (I.ok.cab x c hfn hc)))).trans (I.base.keep b o e n hb hx)
  .obtain⟨sl,e1⟩:=I.base.slot b o e n hb hx;exact⟨sl,(hs.2 b (Nat.ne_of_lt (Nat.lt_of_lt_of_le (Heap.lt_size e) (I.ok.cab x c hfn hc)))).trans e1⟩
  .obtain⟨o',e1⟩:=I.base.there b o e hx;exact⟨o',(hs.2 b (Nat.ne_of_lt (Nat.lt_of_lt_of_le (Heap.lt_size e) (I.ok.cab x c hfn hc)))).trans e1⟩
  .by_cases hj:j=i
   .subst hj;rw[hi] at e1;cases e1;rw[List.getElem?_set_self hiσ] at e2;cases e2;exact⟨u,r, .inr ⟨.inl hk,c,hc,zu⟩⟩
   .rw [List.getElem?_set_ne (Ne.symm hj)] at e2;obtain⟨u',r',q⟩:=hl j y v' e1 e2 e3;refine⟨u',r',?_⟩;rcases q with q | ⟨k,c',e,z'⟩
    .exact .inl q
    .refine .inr ⟨k,c',e,z'.sameBut hs ?_⟩;rintro rfl;exact hj (uD hN e1 (I.ok.inj _ _ _ e hc▸hi))
  .by_cases hcc:c'=c
   .subst hcc;exact⟨_,zu⟩
   .obtain⟨w2,z2⟩:=I.cell y c' e;exact⟨w2,z2.sameBut hs hcc⟩
  .obtain⟨e,n,ne,nf,d⟩:=I.pin p hp;refine⟨(hs.2 p.1 ?_).trans e,n,ne,nf,d⟩;intro q;rw[q,hoc] at e;have q':oc=p.2:=Option.some.inj e;exact d w' (by rw[<-q'];exact hocd)
theorem uu{M:Model}{A:Around}{E:Ti}{i:Nat}{x:Str}{v:V}{u:Value}{Q:Unit->Shared->Prop}(I:Inv X pins σ H s)(hN:X.N.Nodup)(hi:X.N[i]? =some x)(hx:Loc X.env.scope x)(r:RelV v u)
 (h:∀s',Inv X pins (σ.set i (some v)) H s'->Q () s') (hf:X.fn x=true\/X.env.scope.names.lookup x=some .local:=by first | exact .inl rfl | exact .inr rfl | assumption):wpAny M A (storeName X.env x u) Q E s:=
 qZ I hN hi hx r (fun s' I' _=>h s' I') hf
theorem Inv.Jo{s':Shared}{ch:List Addr}(I:Inv X pins σ H s)(ho:s'.os=s.os)(u:Un (xu X.stack) ch H H' s.heap s'.heap)(hok:kE X.prog X.w H' s'.heap)(hg:AllBare s'.gens)
 (Cb:∀b∈ch,(b∈X.ex\/X.s₀.heap.objs.size<=b)/\b≠X.env.locals/\(∀x c,X.env.cells.lookup x=some c->c≠b)/\∀p∈X.pn++pins,p.1≠b):Inv X pins σ H' s':=by
 obtain⟨h',g',d',t',o'⟩:=s';have e:o'=s.os:=ho;subst e;exact I.call (g':=g') (t':=t') (d':=d') u hok hg Cb
end
abbrev XK:=Value->Option Addr->Hp->Prop
abbrev St:=List (Option V)
abbrev VK:=V->Hp->Prop
abbrev TE:=St->Hp->VK->Prop
abbrev TT:=St->Hp->(Bool->Hp->Prop)->Prop
abbrev TA:=St->Hp->(List V->Hp->Prop)->Prop
structure Ends where
 nx:St->Hp->Prop
 rt:VK
 bk:St->Hp->Prop:=fun _ _=>False
 ct:St->Hp->Prop:=fun _ _=>False
abbrev TS:=Ends->St->Hp->Prop
def EP(X:Cx)(pins:Th)(σ:St)(Q:VK)(u:Value)(s':Shared):Prop:=∃v H',Inv X pins σ H' s'/\RelV v u/\Q v H'
def TP(X:Cx)(pins:Th)(σ:St)(Q:Bool->Hp->Prop)(b:Bool)(s':Shared):Prop:=∃H',Inv X pins σ H' s'/\Q b H'
def AP(X:Cx)(pins:Th)(σ:St)(Q:List V->Hp->Prop)(us:List Value)(s':Shared):Prop:=∃vs H',Inv X pins σ H' s'/\Vals vs us/\Q vs H'
def SP(X:Cx)(pins:Th)(D:Ends)(f:Flow)(s':Shared):Prop:=
 match f with
 | .next=>∃cG H',Inv X pins cG H' s'/\D.nx cG H'
 | .brk=>∃cG H',Inv X pins cG H' s'/\D.bk cG H'
 | .cont=>∃cG H',Inv X pins cG H' s'/\D.ct cG H'
 | .ret u=>∃v cG H',Inv X pins cG H' s'/\RelV v u/\D.rt v H'
def PE(X:Cx)(e:Expr)(t:TE):Prop:=
 ∀(pins:Th) (s:Shared) (σ:St) (H:Hp) (Q:VK),Inv X pins σ H s->t σ H Q->wpAny (model X.prog X.w) X.A (eval e X.env) (EP X pins σ Q) X.xe s
def PT(X:Cx)(e:Expr)(t:TT):Prop:=
 ∀(pins:Th) (s:Shared) (σ:St) (H:Hp) (Q:Bool->Hp->Prop),Inv X pins σ H s->t σ H Q->wpAny (model X.prog X.w) X.A (isTrue e X.env (eval e X.env)) (TP X pins σ Q) X.xe s
def PW(X:Cx)(e:Expr)(t:TT):Prop:=
 ∀(whole:Sem Value) (pins:Th) (s:Shared) (σ:St) (H:Hp) (Q:Bool->Hp->Prop),Inv X pins σ H s->t σ H Q->wpAny (model X.prog X.w) X.A (isTrue e X.env whole) (TP X pins σ Q) X.xe s
theorem PW.pt{X:Cx}{t:TT}(h:PW X e t):PT X e t:=h _
def PA(X:Cx)(es:List Expr)(t:TA):Prop:=
 ∀(pos:Pos) (pins:Th) (s:Shared) (σ:St) (H:Hp) (Q:List V->Hp->Prop),Inv X pins σ H s->t σ H Q->wpAny (model X.prog X.w) X.A (spliced (backTo pos (starEach es X.env))) (AP X pins σ Q) X.xe s
def PS(X:Cx)(st:Stmt)(t:TS):Prop:=
 ∀(pins:Th) (s:Shared) (σ:St) (H:Hp) (D:Ends),Inv X pins σ H s->t D σ H->wpAny (model X.prog X.w) X.A (exec st X.env) (SP X pins D) X.xe s
def r6(X:Cx)(st:List Stmt)(t:TS):Prop:=
 ∀(pins:Th) (s:Shared) (σ:St) (H:Hp) (D:Ends),Inv X pins σ H s->t D σ H->wpAny (model X.prog X.w) X.A (execs st X.env) (SP X pins D) X.xe s
theorem dc{α:Type}{t:Sem α}{Q Q':α->Shared->Prop}{M:Model}{E:Ti}{s:Shared}(h:wpAny M A t Q E s)(hQ:∀a s,Q a s->Q' a s):wpAny M A t Q' E s:=wpAny_mono h hQ fun _ _ x=>x
section
variable {X:Cx}
def Mj(i:Nat):TE:=fun σ H Q=>∃v,σ[i]? =some (some v)/\Q v H
def tC(v:V):TE:=fun _ H Q=>Q v H
theorem m3{i:Nat}{pos:Pos}(hN:X.N[i]? =some x)(hv:B4 X.env.scope x)(hd:(x==("__debug__":Str))=false:=by decide)(nR:(x==("__classdict__":Str))=false:=by decide):PE X (.Name x pos) (Mj i):=by
 intro pins s σ H Q I h;obtain⟨v,e,h⟩:=h;obtain⟨m,hn,hl⟩:=I.loc;obtain⟨u,r,l⟩:=hl i x v hN e hv;have fin:EP X pins σ Q u s:=⟨v,H,I,r,h⟩;rcases l with⟨hk,hm⟩ | ⟨hk,c,hc,hcell⟩
 .exact wpAny_Name (wpAny_loadName_local I.ok.kind hk hn hm fin) hd
 .rcases hk with hk | hk
  .exact wpAny_Name (wpAny_loadName_cell I.ok.kind hk hc hcell fin) hd
  .exact wpAny_Name (wpAny_loadName_free I.ok.kind hk hc hcell fin nR) hd
theorem pC{i j pos}:PE X (.Constant (.int i) j pos) (tC (.int i)):=fun _ _ _ H _ I h=>wpAny_Constant_int ⟨.int i,H,I.tok _,⟨_,rfl⟩,h⟩
theorem Jl{b j pos}:PE X (.Constant (.bool b) j pos) (tC (.bl b)):=fun _ _ _ H _ I h=>Constant_bool ⟨.bl b,H,I,rfl,h⟩
theorem pQ{x j pos}:PE X (.Constant (.str x) j pos) (tC (.str x)):=fun _ _ _ H _ I h=>Calls.Constant_str ⟨.str x,H,I.tok _,⟨_,rfl⟩,h⟩
def Gl(X:Cx)(x:Str):Prop:=X.env.kindOf x=some .globalImplicit
theorem xD{E:Ti}{pins:Th}{s:Shared}{σ:St}{H:Hp}{x:Str}{u:Value}{pos:Pos}{Q:Ti}(I:Inv X pins σ H s)(hg:Gl X x)(hm:X.mg x=some u)(h:Q u s)
 (hd:(x==("__debug__":Str))=false:=by decide):wpAny (model X.prog X.w) X.A (eval (.Name x pos) X.env) Q E s:=
 Calls.Name_function_global I.ok.kind hg (Calls.loadGlobal_global (by rw[I.ok.glob];exact I.mod.glob.keeps I.bk) hm h) hd
theorem fQ{E:Ti}{pins:Th}{s:Shared}{σ:St}{H:Hp}{x:Str}{u:Value}{pos:Pos}{Q:Ti}(I:Inv X pins σ H s)(hg:Gl X x)(hm:X.mg x=none)(hv:bootBuiltins x=some u)(h:Q u s)
 (hn:x≠"__name__":=by decide) (hd:(x==("__debug__":Str))=false:=by decide):wpAny (model X.prog X.w) X.A (eval (.Name x pos) X.env) Q E s:=by
 obtain⟨mb,h1,h2⟩:=I.mod.blt;exact Calls.Name_function_global I.ok.kind hg (Calls.loadGlobal_builtin (by rw[I.ok.glob];exact I.mod.glob.keeps I.bk) hm (by rw[I.ok.blt];exact h1.keeps I.bk) ((h2 x hn).trans hv) h) hd
theorem D4{v:V}{u:Value}{pos:Pos}(hg:Gl X x)(hm:X.mg x=some u)(r:RelV v u)(hd:(x==("__debug__":Str))=false:=by decide):PE X (.Name x pos) (tC v):=
 fun _ _ _ H _ I h=>xD I hg hm ⟨v,H,I,r,h⟩ hd
theorem C6{v:V}{u:Value}{pos:Pos}(hg:Gl X x)(hm:X.mg x=none)(hv:bootBuiltins x=some u)(r:RelV v u)(hn:x≠"__name__":=by decide)(hd:(x==("__debug__":Str))=false:=by decide):PE X (.Name x pos) (tC v):=
 fun _ _ _ H _ I h=>fQ I hg hm hv ⟨v,H,I,r,h⟩ hn hd
def Kn(ta tb:TE)(k:Int->Int->Hp->Prop):St->Hp->Prop:=fun σ H=>ta σ H fun x H1=>tb σ H1 fun y H2=>∃i j,x= .int i/\y= .int j/\k i j H2
def QZ(ta tb:TE):TE:=fun σ H Q=>Kn ta tb (fun i j H2=>Q (.int (i+j)) H2) σ H
def P9(ta tb:TE):TE:=fun σ H Q=>Kn ta tb (fun i j H2=>Q (.int (i - j)) H2) σ H
def OF(ta tb:TE):TE:=fun σ H Q=>Kn ta tb (fun i j H2=>(-(2 ^ 64) < i/\i < 2 ^ 64)/\Q (.int (i*j)) H2) σ H
variable {a b:Expr} {ta tb:TE} {pos:Pos}
def PC(X:Cx)(op:CmpOp)(a b:Expr)(t:TE):Prop:=
 ∀(pins:Th) (s:Shared) (σ:St) (H:Hp) (Q:VK),Inv X pins σ H s->t σ H Q->
  wpAny (model X.prog X.w) X.A (eval a X.env) (fun v s₁=>wpAny (model X.prog X.w) X.A (eval b X.env) (fun u vb=>wpAny (model X.prog X.w) X.A (compareOp op v u) (EP X pins σ Q) X.xe vb) X.xe s₁) X.xe s
def yr(p:Int->Int->Bool)(ta tb:TE):TE:=fun σ H Q=>Kn ta tb (fun i j H2=>Q (.bl (p i j)) H2) σ H
abbrev Sf:TE->TE->TE:=yr fun i j=>decide (i < j)
abbrev SJ:TE->TE->TE:=yr fun i j=>decide (i<=j)
abbrev SX:TE->TE->TE:=yr fun i j=>decide (j < i)
abbrev R0:TE->TE->TE:=yr fun i j=>decide (j<=i)
abbrev QX:TE->TE->TE:=yr fun i j=>decide (i=j)
abbrev O6:TE->TE->TE:=yr fun i j=>!decide (i=j)
def Pb(ta:TE):TE:=fun σ H Q=>ta σ H fun x H1=>Q (.bl (decide (x= .cu))) H1
def Ng(ta:TE):TE:=fun σ H Q=>ta σ H fun x H1=>Q (.bl (!decide (x= .cu))) H1
def tB(t:TE):TT:=fun σ H Q=>t σ H fun x H1=>∃c,x= .bl c/\Q c H1
variable {tA KA:TT} {rest:List Expr}
def KR(t u:TT):TT:=fun σ H Q=>t σ H fun c H1=>if c=true then u σ H1 Q else Q false H1
def Q2(t u:TT):TT:=fun σ H Q=>t σ H fun c H1=>if c=true then Q true H1 else u σ H1 Q
def Lg(t:TT):TT:=fun σ H Q=>t σ H fun c H1=>Q (!c) H1
theorem DV(ha:PT X a tA):PW X (.BoolOp .And [a] pos) tA:=by
 intro wh pins s σ H Q I h;refine isTrue_and (dc (ha pins s σ H Q I h) fun c s1 e=>?_)
 cases c with
 | true=>exact isTrue_and_nil e
 | false=>exact e
theorem AG(ha:PT X a tA):PW X (.BoolOp .Or [a] pos) tA:=by
 intro wh pins s σ H Q I h;refine isTrue_or (dc (ha pins s σ H Q I h) fun c s1 e=>?_)
 cases c with
 | false=>exact isTrue_or_nil e
 | true=>exact e
theorem Gu(ha:PT X a tA)(hb:PW X (.BoolOp .And (b ::rest) pos) KA):PW X (.BoolOp .And (a ::b ::rest) pos) (KR tA KA):=by
 intro wh pins s σ H Q I h;refine isTrue_and (dc (ha pins s σ H _ I h) fun c s1 ⟨H1,I1,q1⟩=>?_)
 cases c with
 | true=>exact hb wh pins s1 σ H1 Q I1 q1
 | false=>exact⟨H1,I1,q1⟩
theorem Eo(ha:PT X a tA)(hb:PW X (.BoolOp .Or (b ::rest) pos) KA):PW X (.BoolOp .Or (a ::b ::rest) pos) (Q2 tA KA):=by
 intro wh pins s σ H Q I h;refine isTrue_or (dc (ha pins s σ H _ I h) fun c s1 ⟨H1,I1,q1⟩=>?_)
 cases c with
 | true=>exact⟨H1,I1,q1⟩
 | false=>exact hb wh pins s1 σ H1 Q I1 q1
theorem Gw(ha:PT X a tA):PT X (.UnaryOp .Not a pos) (Lg tA):=by
 intro pins s σ H Q I h;exact isTrue_not (ha pins s σ H (fun c H1=>Q (!c) H1) I h)
def M7(ta tb:TE):TE:=fun σ H Q=>ta σ H fun x H1=>∃c,x= .bl c/\if c=true then tb σ H1 Q else Q (.bl false) H1
def O8(ta tb:TE):TE:=fun σ H Q=>ta σ H fun x H1=>∃c,x= .bl c/\if c=true then Q (.bl true) H1 else tb σ H1 Q
def Nt(ta:TE):TE:=fun σ H Q=>ta σ H fun x H1=>∃c,x= .bl c/\Q (.bl (!c)) H1
def Sz(t:TT)(ta tb:TE):TE:=fun σ H Q=>t σ H fun c H1=>if c=true then ta σ H1 Q else tb σ H1 Q
end
def lD(K:W.Frag)(H:Hp)(a:Addr)(xs:List V):Prop:=
 Rd H a (.lst xs)\/
  ∃(o:Obj) (its:Array Value) (n:Nat),K.lookup a=some o/\o.cls= .type "list"/\o.dict=none/\o.data= .seq its n/\its.size<=sizeLine/\Vals xs its.toList
def l6(K:W.Frag)(H:Hp)(a:Addr)(xs:List V):Prop:=
 Rd H a (.tup xs)\/
  ∃(o:Obj) (its:Array Value) (n:Nat),K.lookup a=some o/\o.cls= .type "tuple"/\o.data= .seq its n/\its.size<=sizeLine/\Vals xs its.toList
def Lf:Value->Option V
 | .none=>some .cu
 | .bool b=>some (.bl b)
 | .int i _=>some (.int i)
 | .str x _=>some (.str x)
 | .bytes b _=>some (.byt b)
 | .float b _=>some (.flt b)
 | .ref a=>some (.ref a)
 | .type n=>some (.ty n)
 | _=>none
theorem RelV.abs{x:V}{u:Value}(r:RelV x u):Lf u=some x:=by
 cases x with
 | cu=>cases r;rfl
 | bl _=>cases r;rfl
 | int _=>obtain⟨t,rfl⟩:=r;rfl
 | str _=>obtain⟨t,rfl⟩:=r;rfl
 | byt _=>obtain⟨t,rfl⟩:=r;rfl
 | flt _=>obtain⟨t,rfl⟩:=r;rfl
 | ref _=>cases r;rfl
 | ty _=>cases r;rfl
theorem RelV.inj{x y:V}{u:Value}(r:RelV x u)(q:RelV y u):x=y:=Option.some.inj (r.abs.symm.trans q.abs)
theorem Vals.inj:∀{xs ys:List V} {us:List Value},Vals xs us->Vals ys us->xs=ys
 | _,_,_, .nil, .nil=>rfl
 | _,_,_, .cons r t, .cons r' t'=>by rw[r.inj r',Vals.inj t t']
section
variable {X:Cx} {pins:Th} {σ:St} {H:Hp} {s:Shared} {a:Addr} {xs ys:List V}
theorem lD.of{K:W.Frag}(h:H a=some (.lst xs)):lD K H a xs:= .inl (.inl h)
theorem Inv.list(I:Inv X pins σ H s)(h:lD X.K H a xs):∃its:List Value,Vals xs its/\PlainL s.heap a its.toArray/\xs.length<=sizeLine:=by
 rcases h with h | ⟨o,its,n,hk,hc,hd,hs,hz,r⟩
 .obtain⟨z,its,n,r,e⟩:=h.ok I.hok;exact⟨its,r,⟨_,n,e,rfl,rfl,rfl⟩,z⟩
 .refine⟨its.toList,r,⟨o,n,I.qX a o hk,hc,hd,by simpa using hs⟩,?_⟩
  have e:=r.length;simp only[Array.length_toList] at e;omega
theorem Inv.tuple(I:Inv X pins σ H s)(h:l6 X.K H a xs):∃its:List Value,Vals xs its/\IsTup s.heap a its.toArray/\xs.length<=sizeLine:=by
 rcases h with h | ⟨o,its,n,hk,hc,hs,hz,r⟩
 .obtain⟨z,its,r,p⟩:=h.ok I.hok;exact⟨its,r,p,z⟩
 .refine⟨its.toList,r,⟨o,I.qX a o hk,hc,n,by simpa using hs⟩,?_⟩
  have e:=r.length;simp only[Array.length_toList] at e;omega
theorem Inv.s_(I:Inv X pins σ H s)(h:lD X.K H a xs)(h':lD X.K H a ys):xs=ys:=by
 obtain⟨its,r,⟨o,n,e,_,_,d⟩,_⟩:=I.list h;obtain⟨its',r',⟨o',n',e',_,_,d'⟩,_⟩:=I.list h';rw[e] at e';cases e';rw[d] at d';injection d' with d1 _
 have:its=its':=by simpa using congrArg Array.toList d1
 subst this;exact r.inj r'
theorem Inv.qO(I:Inv X pins σ H s)(h:l6 X.K H a xs)(h':l6 X.K H a ys):xs=ys:=by
 obtain⟨its,r,⟨o,e,_,n,d⟩,_⟩:=I.tuple h;obtain⟨its',r',⟨o',e',_,n',d'⟩,_⟩:=I.tuple h';rw[e] at e';cases e';rw[d] at d';injection d' with d1 _
 have:its=its':=by simpa using congrArg Array.toList d1
 subst this;exact r.inj r'
end
abbrev Cx.ql(X:Cx)(E:Ti):Cx:={X with xe:=E}
abbrev Cx.By(X:Cx):Cx:=X.ql fun _ _=>False
theorem Cx.Ok.ql{X:Cx}(ok:X.Ok)(E:Ti):(X.ql E).Ok:=
 ⟨ok.mod,ok.kind,ok.glob,ok.blt,ok.above,ok.inj,ok.has,ok.cab,ok.hd,ok.frames,ok.stk,ok.exf,ok.bs,ok.bsz,ok.noex,ok.exfs,ok.pL,ok.frf⟩
theorem Cx.Ok.jJ{X:Cx}{E:Ti}(ok:(X.ql E).Ok):X.Ok:=
 ⟨ok.mod,ok.kind,ok.glob,ok.blt,ok.above,ok.inj,ok.has,ok.cab,ok.hd,ok.frames,ok.stk,ok.exf,ok.bs,ok.bsz,ok.noex,ok.exfs,ok.pL,ok.frf⟩
section
variable {X:Cx} {pins:Th} {σ:St} {H:Hp} {s:Shared} {E:Ti}
theorem Inv.ql(I:Inv X pins σ H s)(E:Ti):Inv (X.ql E) pins σ H s:=⟨I.ok.ql E,I.os,I.bare,I.base,I.loc,I.cell,I.free,I.freeC,I.pin,I.hok,I.len⟩
theorem Inv.jJ(I:Inv (X.ql E) pins σ H s):Inv X pins σ H s:=⟨I.ok.jJ,I.os,I.bare,I.base,I.loc,I.cell,I.free,I.freeC,I.pin,I.hok,I.len⟩
theorem SP.jJ{D:Ends}{f:Flow}{s':Shared}(h:SP (X.ql E) pins D f s'):SP X pins D f s':=by
 cases f with
 | next=>obtain⟨cG,H',I,q⟩:=h;exact⟨cG,H',I.jJ,q⟩
 | brk=>obtain⟨cG,H',I,q⟩:=h;exact⟨cG,H',I.jJ,q⟩
 | cont=>obtain⟨cG,H',I,q⟩:=h;exact⟨cG,H',I.jJ,q⟩
 | ret u=>obtain⟨v,cG,H',I,r,q⟩:=h;exact⟨v,cG,H',I.jJ,r,q⟩
theorem r6.By{st:List Stmt}{t:TS}(h:r6 X.By st t):r6 X st t:=fun pins s σ H D I hw=>
 wpAny_mono (h pins s σ H D (I.ql _) hw) (fun _ _ q=>q.jJ) fun _ _ z=>False.elim z
end
section
variable {X:Cx} {st:Stmt} {rest:List Stmt} {t u:TS} {e:Expr} {te:TE} {pos:Pos}
def JD:TS:=fun D σ H=>D.nx σ H
def IP(t u:TS):TS:=fun D σ H=>t {D with nx:=u D} σ H
theorem xf:r6 X [] JD:=fun _ _ σ H _ I h=>wpAny_execs_nil ⟨σ,H,I,h⟩
theorem t6(h1:PS X st t)(h2:r6 X rest u):r6 X (st ::rest) (IP t u):=by
 intro pins s σ H D I h;refine wpAny_execs_cons (dc (h1 pins s σ H {D with nx:=u D} I h) fun f s1 q=>?_)
 cases f with
 | next=>
   obtain⟨cG,H',I',q⟩:=q;exact h2 pins s1 cG H' D I' q
 | ret v=>exact q
 | brk=>exact q
 | cont=>exact q
theorem wz(h1:PS X st t):r6 X [st] t:=by
 intro pins s σ H D I h;refine wpAny_execs_cons (dc (h1 pins s σ H D I h) fun f s1 q=>?_)
 cases f with
 | next=>exact wpAny_execs_nil q
 | ret v=>exact q
 | brk=>exact q
 | cont=>exact q
def Mc:TS:=fun D σ H=>D.bk σ H
def NV:TS:=fun D σ H=>D.ct σ H
theorem Inv.quiet{pins:Th}{s:Shared}(I:Inv X pins σ H s):interactive X.env=false:=by simp [interactive,I.ok.kind]
def Jv(te:TE):TS:=fun D σ H=>te σ H fun _ H1=>D.nx σ H1
theorem nX(he:PE X e te)(hs:swapsWith e none pos.line X.env=pure false:=by rfl):PS X (.Expr e pos) (Jv te):=by
 intro pins s σ H D I h;exact wpAny_Expr_any (dc (he pins s σ H _ I h) fun v s1 ⟨x,H1,I1,r1,q1⟩=>⟨σ,H1,I1,q1⟩) I.quiet hs
def La(te:TE):TS:=fun D σ H=>te σ H D.rt
theorem Bd(he:PE X e te):PS X (.Return (some e) pos) (La te):=by
 intro pins s σ H D I h;exact wpAny_Return_some (dc (he pins s σ H _ I h) fun v s1 ⟨x,H1,I1,r1,q1⟩=>⟨x,σ,H1,I1,r1,q1⟩)
def MZ:TS:=fun D _ H=>D.rt .cu H
def Ln(c:TT)(t u:TS):TS:=fun D σ H=>c σ H fun b H1=>if b=true then t D σ H1 else u D σ H1
theorem EI{tc:TT}(hc:PT X c tc)(ha:r6 X a t)(hb:r6 X b u):PS X (.If c a b pos) (Ln tc t u):=by
 intro pins s σ H D I h;refine wpAny_If (dc (hc pins s σ H _ I h) fun d s1 ⟨H1,I1,q1⟩=>?_)
 cases d with
 | true=>exact ha pins s1 σ H1 D I1 q1
 | false=>exact hb pins s1 σ H1 D I1 q1
def LS:TS:=fun _ _ _=>False
end
abbrev TG:=V->St->Hp->(St->Hp->Prop)->Prop
abbrev Ay:=List V->St->Hp->(St->Hp->Prop)->Prop
def PG(X:Cx)(target:Expr)(t:TG):Prop:=
 ∀(pins:Th) (s:Shared) (σ:St) (H:Hp) (v:V) (u:Value) (Q:St->Hp->Prop),Inv X pins σ H s->RelV v u->t v σ H Q->
  wpAny (model X.prog X.w) X.A (assign target X.env u) (fun _ s'=>∃cG H',Inv X pins cG H' s'/\Q cG H') X.xe s
def D7(X:Cx)(ts:List Expr)(t:Ay):Prop:=
 ∀(pins:Th) (s:Shared) (σ:St) (H:Hp) (vs:List V) (us:List Value) (Q:St->Hp->Prop),Inv X pins σ H s->Vals vs us->t vs σ H Q->
  wpAny (model X.prog X.w) X.A (assignInOrder ((assignEach ts X.env).map (·.2)) us) (fun _ s'=>∃cG H',Inv X pins cG H' s'/\Q cG H') X.xe s
abbrev GH:=V->V->V->Hp->(Hp->Prop)->Prop
def Q3(X:Cx)(t:GH):Prop:=
 ∀(pins:Th) (s:Shared) (σ:St) (H:Hp) (o i v:V) (ov iv u:Value) (Q:Hp->Prop),Inv X pins σ H s->RelV o ov->RelV i iv->RelV v u->t o i v H Q->
  wpAny (model X.prog X.w) X.A (setItem ov iv u) (fun _ s'=>∃H',Inv X pins σ H' s'/\Q H') X.xe s
abbrev Kk:=V->V->Hp->VK->Prop
def SU(X:Cx)(op:Operator)(t:Kk):Prop:=
 ∀(pins:Th) (s:Shared) (σ:St) (H:Hp) (x y:V) (v u:Value) (Q:VK),Inv X pins σ H s->RelV x v->RelV y u->t x y H Q->
  wpAny (model X.prog X.w) X.A (inplaceOp op v u) (EP X pins σ Q) X.xe s
section
variable {X:Cx} {pos:Pos}
def oS(i:Nat):TG:=fun v σ H Q=>Q (σ.set i (some v)) H
theorem xB{i:Nat}(hN:X.N.Nodup)(hi:X.N[i]? =some x)(hx:Loc X.env.scope x)(hf:X.fn x=true\/X.env.scope.names.lookup x=some .local:=by first | exact .inl rfl | exact .inr rfl | assumption):PG X (.Name x pos) (oS i):=by
 intro pins s σ H v u Q I r h;exact wpAny_assign_Name (uu I hN hi hx r (fun s' I'=>⟨_,H,I',h⟩) hf)
def L9:Ay:=fun vs σ H Q=>vs=[]/\Q σ H
def Jg(t:TG)(u:Ay):Ay:=fun vs σ H Q=>∃v r,vs=v ::r/\t v σ H fun cG H'=>u r cG H' Q
theorem wI:D7 X [] L9:=by
 intro pins s σ H vs us Q I r h;obtain⟨e,h⟩:=h;subst e;cases r;exact assignInOrder_nil ⟨σ,H,I,h⟩
theorem tQ{e:Expr}{es:List Expr}{t:TG}{u:Ay}(h1:PG X e t)(h2:D7 X es u)
 (hs:(assignEach (e ::es) X.env).map (·.2)=assign e X.env ::(assignEach es X.env).map (·.2):=by rfl):D7 X (e ::es) (Jg t u):=by
 intro pins s σ H vs us Q I r h;obtain⟨v,vr,e1,h⟩:=h;subst e1;cases r with
 | cons r rr=>
   rw[hs];refine assignInOrder_cons (dc (h1 pins s σ H _ _ _ I r h) fun _ s1 ⟨JQ,H1,I1,q1⟩=>?_)
   exact h2 pins s1 JQ H1 _ _ Q I1 rr q1
def K6(K:W.Frag)(n:Nat)(t:Ay):TG:=fun v σ H Q=>∃a xs,v= .ref a/\l6 K H a xs/\xs.length=n/\t xs σ H Q
theorem zL{es:List Expr}{k:Nat}{t:Ay}{n:Nat}(hc:X.calm=true)(h:D7 X es t)
 (hn:(assignEach es X.env).length=n:=by rfl) (Ed:(assignEach es X.env).findIdx? (·.1)=none:=by rfl):PG X (.Tuple es k pos) (K6 X.K n t):=by
 intro pins s σ H v u Q I r hw;obtain⟨a,xs,e1,hq,hl,hw⟩:=hw;subst e1;cases r;obtain⟨its,rv,ht,hz⟩:=I.tuple hq;refine assign_Tuple_tuple (I.ok.hd hc) ht (by simp [hn,<-hl,rv.length]) Ed fun h' hx=>?_
 have I1:Inv X pins σ H {s with heap:=h'}:=I.kept (t':=s.toks) fun b o e=>hx b o (Nat.ne_of_lt (Heap.lt_size e)) e
 exact h pins _ σ H xs _ Q I1 (by simpa using rv) hw
def OL(to ti:TE)(t:GH):TG:=fun v σ H Q=>to σ H fun o H1=>ti σ H1 fun i H2=>t o i v H2 fun H3=>Q σ H3
def yi(te:TE)(g:TG):TS:=fun D σ H=>te σ H fun x H1=>g x σ H1 D.nx
theorem GR{tg e:Expr}{te:TE}{g:TG}(he:PE X e te)(hg:PG X tg g)(hs:swapsWithSole [tg] e pos.line X.env=pure false:=by rfl)(hw:swappedStores [tg] e X.env=pure none:=by rfl)
 (h1:(assignEach [tg] X.env).map (·.2)=[assign tg X.env]:=by rfl):PS X (.Assign [tg] e pos) (yi te g):=by
 intro pins s σ H D I h;refine wpAny_Assign_stores (dc (he pins s σ H _ I h) fun v s1 ⟨x,H1,I1,r1,q1⟩=>?_) hs hw
 rw[h1];exact dc (hg pins s1 σ H1 x v _ I1 r1 q1) fun _ s2 q=>q
theorem vF{i:Nat}{te:TE}(hN:X.N.Nodup)(hi:X.N[i]? =some x)(hx:Loc X.env.scope x)(he:PE X e te)(hs:swapsWith e (some (.Name x pos')) pos.line X.env=pure false:=by rfl)(hf:X.fn x=true\/X.env.scope.names.lookup x=some .local:=by first | exact .inl rfl | exact .inr rfl | assumption) :
 PS X (.Assign [.Name x pos'] e pos) (yi te (oS i)):=by
 intro pins s σ H D I h;refine wpAny_Assign_Name (dc (he pins s σ H _ I h) fun v s1 ⟨y,H1,I1,r1,q1⟩=>?_) hs
 exact uu I1 hN hi hx r1 (fun s2 I2=>⟨_,H1,I2,q1⟩) hf
def QR(i j:Nat)(ta:TA):TS:=fun D σ H=>ta σ H fun vs H1=>∃v w,vs=[v,w]/\D.nx ((σ.set i (some v)).set j (some w)) H1
def O9(i:Nat)(te:TE)(ti:Kk):TS:=fun D σ H=>∃x,σ[i]? =some (some x)/\te σ H fun y H1=>ti x y H1 fun z H2=>D.nx (σ.set i (some z)) H2
def Nb(to ti te:TE)(ME:V->V->Hp->VK->Prop)(RG:Kk)(Mt:GH):TS:=fun D σ H=>to σ H fun o H1=>ti σ H1 fun i H2=>ME o i H2 fun x H3=>te σ H3 fun y H4=>RG x y H4 fun z H5=>Mt o i z H5 fun H6=>D.nx σ H6
def PU(X:Cx)(t:V->V->Hp->VK->Prop):Prop:=
 ∀(pins:Th) (s:Shared) (σ:St) (H:Hp) (o i:V) (ov iv:Value) (Q:VK),Inv X pins σ H s->RelV o ov->RelV i iv->t o i H Q->
  wpAny (model X.prog X.w) X.A (getItem ov iv) (EP X pins σ Q) X.xe s
def Sy(f:Int->Int->Int):Kk:=fun x y H Q=>∃i j,x= .int i/\y= .int j/\Q (.int (f i j)) H
end
section
variable {X:Cx} {pos:Pos}
def Md(c:TT)(tb:TS):TS:=fun D σ H=>∃W:Nat->St->Hp->Prop,(∃m,W m σ H)/\∀m σ H,W m σ H->
 c σ H fun b H1=>if b=true then ∃N:St->Hp->Prop,(∀cG H',N cG H'->∃m',m' < m/\W m' cG H')/\tb {D with nx:=N,ct:=N,bk:=D.nx} σ H1 else D.nx σ H1
end
structure It where
 go:Nat->Hp->Prop
 yld:Nat->Hp->V->Hp->Prop
 stop:Nat->Hp->Prop
def nJ(X:Cx)(pins:Th)(H:Hp)(b:Addr):Prop:=
 H b=none/\b≠X.env.locals/\b ∉ X.fs/\(b∈X.ex\/X.s₀.heap.objs.size<=b)/\(∀x c,X.env.cells.lookup x=some c->c≠b)/\∀p∈X.pn++pins,p.1≠b
theorem Inv.uV{X:Cx}{pins:Th}{H H':Hp}{s:Shared}{b:Addr}(I:Inv X pins σ H s)(hb:s.heap.objs.size<=b)(hn:H' b=none):nJ X pins H' b:=by
 refine⟨hn,Nat.ne_of_gt (Nat.lt_of_lt_of_le I.lt hb),I.K_ hb, .inr (Nat.le_trans I.sz hb),fun x c e z=>?_,fun p hp z=>?_⟩
 .obtain⟨v,q⟩:=I.cell x c e;exact absurd (Nat.lt_of_lt_of_le q.lt (by rw[z];exact hb)) (Nat.lt_irrefl _)
 .exact absurd (Nat.lt_of_lt_of_le (Heap.lt_size (I.pin p hp).1) (by rw[z];exact hb)) (Nat.lt_irrefl _)
structure Turn (P:Program) (w:World) (K:W.Frag) (tg:Expr) (J:It) (fp:List Addr) (it:Addr) (tn:Nat->Heap->Prop):Prop where
 mem:it∈fp
 obj:∀i h,tn i h->∀b∈fp,∃o,h.get? b=some o/\∀v,o.data≠ .cell v
 keep:∀i h h',tn i h->(∀b∈fp,∀o,h.get? b=some o->h'.get? b=some o)->tn i h'
 item:∀(X:Cx),X.prog=P->X.w=w->X.K=K->X.calm=true->∀(i:Nat) (pins:Th) (s:Shared) (σ:St) (H:Hp) (E:Ti),Inv X pins σ H s->(∀b∈fp,nJ X pins H b)->tn i s.heap->J.go i H->
  wpAny (model P w) X.A (pyNext (.ref it)) (fun r s1=>∃u,r=some u/\
   wpAny (model P w) X.A (letOwnedTupleGo tg (.ref it) u) (fun _ s2=>∃x H',Inv X pins σ H' s2/\RelV x u/\J.yld i H x H'/\tn (i+1) s2.heap/\∀b∈fp,H' b=none) E s1) E s
 done:∀(X:Cx),X.prog=P->X.w=w->X.K=K->X.calm=true->∀(i:Nat) (pins:Th) (s:Shared) (σ:St) (H:Hp) (E:Ti),Inv X pins σ H s->(∀b∈fp,nJ X pins H b)->tn i s.heap->J.stop i H->
  wpAny (model P w) X.A (pyNext (.ref it)) (fun r s1=>r=none/\Inv X pins σ H s1) E s
 self:∀(A:Around) (i:Nat) (s:Shared) (Q:Ti) (E:Ti),tn i s.heap->Q (.ref it) s->wpAny (model P w) A (pyIter (.ref it)) Q E s
abbrev TI:=St->Hp->(It->Hp->Prop)->Prop
def M5(X:Cx)(pins:Th)(σ:St)(tg:Expr)(R:It->Hp->Prop)(KC:Value)(s2:Shared):Prop:=
 ∃(it:Addr) (fp:List Addr) (tn:Nat->Heap->Prop) (J:It) (H':Hp),KC= .ref it/\Inv X pins σ H' s2/\Turn X.prog X.w X.K tg J fp it tn/\tn 0 s2.heap/\(∀b∈fp,nJ X pins H' b)/\R J H'
def PI(X:Cx)(tg iter:Expr)(wi:TI):Prop:=
 ∀(pins:Th) (s:Shared) (σ:St) (H:Hp) (R:It->Hp->Prop),Inv X pins σ H s->wi σ H R->
  wpAny (model X.prog X.w) X.A (eval iter X.env) (fun v s1=>wpAny (model X.prog X.w) X.A (pyIter v) (M5 X pins σ tg R) X.xe s1) X.xe s
theorem zD{M:Model}{A:Around}{E:Ti}{s:Shared}{tg:Expr}{it:Addr}{u:Value}{o:Obj}{n:String}{vs:Array Value}{Q:Unit->Shared->Prop}(ho:s.heap.get? it=some o)(hc:o.cls= .type n)(hd:o.data= .fields vs)
 (hn:["enumerate","zip","dict_itemiterator","dict_reverseitemiterator","odict_iterator","itertools.zip_longest","itertools.pairwise"].contains n=false) (hQ:Q () s):wpAny M A (letOwnedTupleGo tg (.ref it) u) Q E s:=by
 unfold letOwnedTupleGo;cases tg <;> first
  | exact wpAny_pure hQ
  | (cases u <;> first
      | exact wpAny_pure hQ
      | (refine wpAny_bind (wpAny_load ho ?_)
         rw[hc,hd];show wpAny M A (if(["enumerate","zip","dict_itemiterator","dict_reverseitemiterator","odict_iterator","itertools.zip_longest","itertools.pairwise"].contains n && vs[0]? ==some (rawInt _))=true then _ else _) Q E s
         rw[if_neg (by intro h;rw [hn,Bool.false_and] at h;cases h)]
         exact wpAny_pure hQ))
def MQ(K:W.Frag)(a:Addr):It:=
 ⟨fun i H=>∃xs x,lD K H a xs/\xs[i]? =some x,fun i H x H'=>H'=H/\∀xs,lD K H a xs->xs[i]? =some x,fun i H=>∃xs,lD K H a xs/\xs.length<=i⟩
def Ni(K:W.Frag)(a:Addr):It:=
 ⟨fun i H=>∃xs x,l6 K H a xs/\xs[i]? =some x,fun i H x H'=>H'=H/\∀xs,l6 K H a xs->xs[i]? =some x,fun i H=>∃xs,l6 K H a xs/\xs.length<=i⟩
def Jd(lo:Int)(n:Nat):It:=⟨fun i _=>i < n,fun i H x H'=>H'=H/\x= .int (lo+i),fun i _=>n<=i⟩
theorem za{K:W.Frag}(a it:Addr):Turn P w K tg (MQ K a) [it] it (fun i h=>h.IsListIter it a i) where
 mem:=by simp
 obj:=fun i h st b hb=>by
  have e:b=it:=by simpa using hb
  subst e;obtain⟨o,e,c,d⟩:=st;exact⟨o,e,fun v z=>by rw[d] at z;cases z⟩
 keep:=fun i h h' st k=>st.at fun o e=>k it (by simp) o e
 item:=by
  intro X hP hw hK hc i pins s σ H E I hf st hg;subst hP hw hK;obtain⟨xs,x,hq,hx⟩:=hg;obtain⟨its,rv,p,hz⟩:=I.list hq;obtain⟨u,hu,ru⟩:=rv.get hx;obtain⟨f0,f1,f2,f3,f4,f5⟩:=hf it (by simp)
  refine wpAny_pyNext_list_item st p.isList (x:=u) (by simpa using hu) fun h' EV sb=>?_
  have I1:Inv X pins σ H {s with heap:=h'}:=I.turned (t':=s.toks) (fun b o hb e=>(sb.2 b hb).trans e) f0 f1 f3 f4 f5
  obtain⟨o,e,c,d⟩:=id EV;exact⟨u,rfl,zD (s:={s with heap:=h'}) e c d (by decide) ⟨x,H,I1,ru,⟨rfl,fun ys hy=>by rw[I.s_ hy hq];exact hx⟩,EV,fun b hb=>(hf b hb).1⟩⟩
 done:=by
  intro X hP hw hK hc i pins s σ H E I hf st hg;subst hP hw hK;obtain⟨xs,hq,hx⟩:=hg;obtain⟨its,rv,p,hz⟩:=I.list hq;obtain⟨f0,f1,f2,f3,f4,f5⟩:=hf it (by simp)
  have hl:=rv.length;exact wpAny_pyNext_list_end (I.ok.hd hc) st p.isList (by simp;omega) fun h' eb=>⟨rfl,I.turned (t':=s.toks) (fun b o hb e=>eb b o hb e) f0 f1 f3 f4 f5⟩
 self:=fun _ _ _ _ _ st h=>wpAny_pyIter_listiter st h
theorem o4{K:W.Frag}(a it:Addr):Turn P w K tg (Ni K a) [it] it (fun i h=>h.IsTupleIter it a i) where
 mem:=by simp
 obj:=fun i h st b hb=>by
  have e:b=it:=by simpa using hb
  subst e;obtain⟨o,e,c,d⟩:=st;exact⟨o,e,fun v z=>by rw[d] at z;cases z⟩
 keep:=fun i h h' st k=>st.at fun o e=>k it (by simp) o e
 item:=by
  intro X hP hw hK hc i pins s σ H E I hf st hg;subst hP hw hK;obtain⟨xs,x,hq,hx⟩:=hg;obtain⟨its,rv,p,hz⟩:=I.tuple hq;obtain⟨u,hu,ru⟩:=rv.get hx;obtain⟨f0,f1,f2,f3,f4,f5⟩:=hf it (by simp)
  refine wpAny_pyNext_tuple_item st (show s.heap.IsTuple a its.toArray from p) (x:=u) (by simpa using hu) fun h' EV sb=>?_
  have I1:Inv X pins σ H {s with heap:=h'}:=I.turned (t':=s.toks) (fun b o hb e=>(sb.2 b hb).trans e) f0 f1 f3 f4 f5
  obtain⟨o,e,c,d⟩:=id EV;exact⟨u,rfl,zD (s:={s with heap:=h'}) e c d (by decide) ⟨x,H,I1,ru,⟨rfl,fun ys hy=>by rw[I.qO hy hq];exact hx⟩,EV,fun b hb=>(hf b hb).1⟩⟩
 done:=by
  intro X hP hw hK hc i pins s σ H E I hf st hg;subst hP hw hK;obtain⟨xs,hq,hx⟩:=hg;obtain⟨its,rv,p,hz⟩:=I.tuple hq;obtain⟨f0,f1,f2,f3,f4,f5⟩:=hf it (by simp)
  have hl:=rv.length;exact wpAny_pyNext_tuple_end (I.ok.hd hc) st (show s.heap.IsTuple a its.toArray from p) (by simp;omega) fun h' eb=>⟨rfl,I.turned (t':=s.toks) (fun b o hb e=>eb b o hb e) f0 f1 f3 f4 f5⟩
 self:=fun _ _ _ _ _ st h=>wpAny_pyIter_tupleiter st h
theorem vQ{K:W.Frag}(it:Addr)(lo:Int)(n:Nat):Turn P w K tg (Jd lo n) [it] it (fun i h=>IsRangeIter h it (lo+(i:Nat)*1) ((n:Int) - (i:Nat)) 1) where
 mem:=by simp
 obj:=fun i h st b hb=>by
  have e:b=it:=by simpa using hb
  subst e;exact⟨_,st,fun v z=>by
   have z':Data.fields _=Data.cell v:=z;cases z'⟩
 keep:=fun i h h' st k=>k it (by simp) _ st
 item:=by
  intro X hP hw hK hc i pins s σ H E I hf st hg;subst hP hw hK;obtain⟨f0,f1,f2,f3,f4,f5⟩:=hf it (by simp)
  have W:=Walks.range (prog:=X.prog) (w:=X.w) (I.ok.hd hc) it lo 1 n;refine W.item i s _ _ hg st fun v h' tk hv EV kk=>?_
  obtain⟨t,rfl⟩:=hv;have I1:Inv X pins σ H {s with heap:=h',toks:=tk}:=I.turned (fun b o hb e=>kk b o (by simpa using hb) e) f0 f1 f3 f4 f5
  refine⟨_,rfl,zD (s:={s with heap:=h',toks:=tk}) (n:="range_iterator") EV rfl rfl (by decide) ⟨.int (lo+i),H,I1,⟨t,?_⟩,⟨rfl,rfl⟩,EV,fun b hb=>(hf b hb).1⟩⟩
  rw[Int.mul_one]
 done:=by
  intro X hP hw hK hc i pins s σ H E I hf st hg;subst hP hw hK;obtain⟨f0,f1,f2,f3,f4,f5⟩:=hf it (by simp)
  exact wpAny_pyNext_range_end (I.ok.hd hc) st (by have:n<=i:=hg;omega) fun h' eb=>⟨rfl,I.turned (t':=s.toks) (fun b o hb e=>eb b o hb e) f0 f1 f3 f4 f5⟩
 self:=fun _ _ _ _ _ st h=>wpAny_pyIter_rangeiter st h
section
variable {X:Cx} {tg:Expr}
def M6(K:W.Frag)(tl:TE):TI:=fun σ H R=>tl σ H fun x H1=>∃a,x= .ref a/\(∃xs,lD K H1 a xs)/\R (MQ K a) H1
def BD(K:W.Frag)(tl:TE):TI:=fun σ H R=>tl σ H fun x H1=>∃a,x= .ref a/\(∃xs,l6 K H1 a xs)/\R (Ni K a) H1
theorem z_{pins:Th}{σ:St}{H:Hp}{s:Shared}{R:It->Hp->Prop}{E:Ti}{lo hi:Int}{t u v:Tok}{tk:Nat}(I:Inv X pins σ H s)(h1: -(2 ^ 62)<=lo)(h2:lo < 2 ^ 62)(h3: -(2 ^ 62)<=hi)(h4:hi < 2 ^ 62)
 (q:R (Jd lo (hi - lo).toNat) H):wpAny (model X.prog X.w) X.A (pyIter (.ref s.heap.objs.size)) (M5 X pins σ tg R) E {s with heap:=s.heap.push {cls:= .type "range",data:= .fields #[.int lo t, .int hi u, .int 1 v]},toks:=tk}:=by
 refine wpAny_pyIter_range (IsRange.new ..) (small_one h1 h2 h3 h4) ?_;have I1:Inv X pins σ H {s with heap:=s.heap.push {cls:= .type "range",data:= .fields #[.int lo t, .int hi u, .int 1 v]},toks:=tk}:=I.kept fun b o e=>Heap.get?_push_of_some _ e
 refine⟨(s.heap.push {cls:= .type "range",data:= .fields #[.int lo t, .int hi u, .int 1 v]}).objs.size,[(s.heap.push {cls:= .type "range",data:= .fields #[.int lo t, .int hi u, .int 1 v]}).objs.size],_,_,H,rfl,
  I1.kept (t':=tk) fun b o e=>Heap.get?_push_of_some _ e,vQ _ lo (hi - lo).toNat,?_,fun b hb=>?_,q⟩
 .have e1:lo+((0:Nat):Int)*1=lo:=by simp
  have e2:(((hi - lo).toNat:Nat):Int) - ((0:Nat):Int)=Builtin.Range.rangeSize lo hi 1:=by rw[rangeSize_one];split <;> omega
  show IsRangeIter _ _ (lo+((0:Nat):Int)*1) ((((hi - lo).toNat:Nat):Int) - ((0:Nat):Int)) 1;rw[e1,e2];exact Heap.get?_push_size _ rfl
 .have e:b=(s.heap.push {cls:= .type "range",data:= .fields #[.int lo t, .int hi u, .int 1 v]}).objs.size:=by simpa using hb
  subst e;exact I1.uV (Nat.le_refl _) (I1.hok.fresh (Nat.le_refl _))
def Em(ta:TA):TI:=fun σ H R=>ta σ H fun vs H1=>∃j:Int,vs=[.int j]/\ -(2 ^ 62)<=j/\j < 2 ^ 62/\R (Jd 0 j.toNat) H1
def Ob(ta:TA):TI:=fun σ H R=>ta σ H fun vs H1=>∃i j:Int,vs=[.int i, .int j]/\(-(2 ^ 62)<=i/\i < 2 ^ 62/\ -(2 ^ 62)<=j/\j < 2 ^ 62)/\R (Jd i (j - i).toNat) H1
theorem yq{ta:TA}{p pos:Pos}(hg:Gl X "range")(hm:X.mg "range"=none)(ha:PA X [a] ta)(hs:starEach [a] X.env=[(false,eval a X.env)]:=by rfl):PI X tg (.Call (.Name "range" p) [a] [] pos) (Em ta):=by
 intro pins s σ H R I h;refine Call_ (fQ I hg hm boot_range (PyProof.Rows.callWith_type1 (dc (ha pos pins s σ H _ I h) fun us s1 ⟨vs,H1,I1,r1,q1⟩=>?_) hs rfl))
 obtain⟨j,e,q1,q2,q⟩:=q1;subst e;cases r1 with
 | cons r rr=>
   cases rr;obtain⟨t,rfl⟩:=r;exact call_range_1 (z_ I1 (by omega) (by omega) q1 q2 (by simpa using q))
def KP(wi:TI)(g:TG)(tb:TS):TS:=fun D σ H=>wi σ H fun J H1=>∃W:Nat->Nat->St->Hp->Prop,(∃m,W 0 m σ H1)/\∀i m σ H,W i m σ H->
 (J.stop i H/\D.nx σ H)\/(J.go i H/\∃N:St->Hp->Prop,(∀cG H',N cG H'->∃m',m' < m/\W (i+1) m' cG H')/\∀x H',J.yld i H x H'->g x σ H' fun sS H2=>tb {D with nx:=N,ct:=N,bk:=D.nx} sS H2)
def lF(fp:List Addr)(h:Heap):Th:=fp.filterMap fun b=>(h.get? b).map fun o=>(b,o)
theorem iK{fp:List Addr}{h:Heap}{b:Addr}{o:Obj}(hb:b∈fp)(e:h.get? b=some o):(b,o)∈lF fp h:=List.mem_filterMap.mpr ⟨b,hb,by rw[e];rfl⟩
theorem zc{fp:List Addr}{h:Heap}{p:Addr × Obj}(hp:p∈lF fp h):p.1∈fp/\h.get? p.1=some p.2:=by
 obtain⟨b,hb,e⟩:=List.mem_filterMap.mp hp;cases q:h.get? b with
 | none=>rw [q] at e;cases e
 | some o=>
   rw[q] at e;have e':(b,o)=p:=Option.some.inj e;subst e';exact⟨hb,q⟩
theorem Inv.pinned{pins:Th}{s:Shared}{fp:List Addr}(I:Inv X pins σ H s)(hf:∀b∈fp,nJ X pins H b)(ho:∀b∈fp,∃o,s.heap.get? b=some o/\∀v,o.data≠ .cell v):Inv X (pins++lF fp s.heap) σ H s:=
 I.wD fun p hp=>(List.mem_append.mp hp).elim (fun z=>I.pin p (List.mem_append_right _ z)) fun z=>by
  obtain⟨hb,e⟩:=zc z;obtain⟨f0,f1,f2,_⟩:=hf p.1 hb;obtain⟨o,e',d⟩:=ho p.1 hb;rw[e] at e';cases e';exact⟨e,f0,f1,f2,d⟩
theorem Inv.l_{pins pl:Th}{s:Shared}(I:Inv X (pins++pl) σ H s):Inv X pins σ H s:=I.wD fun p hp=>I.pin p (List.mem_append_right _ (List.mem_append_left _ hp))
theorem Am{iter:Expr}{body:List Stmt}{wi:TI}{g:TG}{tb:TS}{pos:Pos}(hp:PassesOwn (model X.prog X.w) X.A X.env X.xe)(hc:X.calm=true)(hi:PI X tg iter wi)(hg:PG X tg g)(hb:r6 X body tb)
 (hs:∀x,foldedSetIterable iter X.env x=pure x:=by intro _;rfl):PS X (.For tg iter body [] pos) (KP wi g tb):=by
 intro pins s σ H D I h;refine wpAny_For (dc (hi pins s σ H _ I h) fun v s1 h1=>dc h1 fun KC s2 h2=>?_) hs
 obtain⟨it,fp,tn,J,H2,e,I2,T,HJ,f2,W,⟨m0,w0⟩,turn⟩:=h2;subst e;have stat:∀{H':Hp},(∀b∈fp,H' b=none)->∀b∈fp,nJ X pins H' b:=fun hn b hb=>⟨hn b hb,(f2 b hb).2⟩
 refine codeAny_forLoop_any (fun n s'=>∃i cG H',Inv X pins cG H' s'/\tn i s'.heap/\(∀b∈fp,H' b=none)/\W i n cG H') ?_ m0 ⟨0,σ,H2,I2,HJ,fun b hb=>(f2 b hb).1,w0⟩
 rintro n s3 ⟨i,Eb,H3,I3,Ef,J8,w3⟩;rcases turn i n Eb H3 w3 with⟨stop,qn⟩ | ⟨go,N,hN,step⟩
 .refine wpAny_passesOwn hp (dc (T.done X rfl rfl rfl hc i pins s3 Eb H3 X.xe I3 (stat J8) Ef stop) fun r s4 ⟨hr,I4⟩=>?_)
  subst hr;exact wpAny_execs_nil ⟨Eb,H3,I4,qn⟩
 .refine wpAny_passesOwn hp (dc (T.item X rfl rfl rfl hc i pins s3 Eb H3 X.xe I3 (stat J8) Ef go) fun r s4 ⟨u,hr,h4⟩=>?_)
  subst hr;refine wpAny_passesOwn hp (dc h4 fun _ s5 ⟨x,H5,I5,r5,y5,HH,Mx⟩=>?_)
  have I5':=I5.pinned (stat Mx) (T.obj _ _ HH);refine wpAny_passesOwn hp (dc (hg _ s5 Eb H5 x u _ I5' r5 (step x H5 y5)) fun _ s6 ⟨JP,H6,I6,q6⟩=>?_)
  refine wpAny_passesOwn hp (dc (hb _ s6 JP H6 _ I6 q6) fun f s7 q7=>?_)
  have again:∀{vc:St} {H7:Hp},Inv X (pins++lF fp s5.heap) vc H7 s7->N vc H7->∃m,m < n/\∃i cG H',Inv X pins cG H' s7/\tn i s7.heap/\(∀b∈fp,H' b=none)/\W i m cG H':=fun {vc H7} I7 n7=>by
   obtain⟨m',hm,w7⟩:=hN vc H7 n7;refine⟨m',hm,i+1,vc,H7,I7.l_,T.keep _ _ _ HH fun b hb o e=>(I7.pin (b,o) (List.mem_append_right _ (List.mem_append_right _ (iK hb e)))).1,fun b hb=>?_,w7⟩
   obtain⟨o,e,d⟩:=T.obj _ _ HH b hb;exact(I7.pin (b,o) (List.mem_append_right _ (List.mem_append_right _ (iK hb e)))).2.1
  cases f with
  | next=>obtain⟨vc,H7,I7,n7⟩:=q7;exact again I7 n7
  | cont=>obtain⟨vc,H7,I7,n7⟩:=q7;exact again I7 n7
  | brk=>obtain⟨vc,H7,I7,q7⟩:=q7;exact⟨vc,H7,I7.l_,q7⟩
  | ret v=>obtain⟨x7,vc,H7,I7,r7,q7⟩:=q7;exact⟨x7,vc,H7,I7.l_,r7,q7⟩
end
abbrev R2:=V->V->Hp->VK->Prop
def lA(X:Cx)(f:Value->Value->Sem Value)(r:R2):Prop:=
 ∀(pins:Th) (s:Shared) (σ:St) (H:Hp) (x y:V) (v u:Value) (Q:VK),Inv X pins σ H s->RelV x v->RelV y u->r x y H Q->
  wpAny (model X.prog X.w) X.A (f v u) (EP X pins σ Q) X.xe s
def L4(X:Cx)(f:Value->Sem Value)(r:V->Hp->VK->Prop):Prop:=
 ∀(pins:Th) (s:Shared) (σ:St) (H:Hp) (x:V) (v:Value) (Q:VK),Inv X pins σ H s->RelV x v->r x H Q->
  wpAny (model X.prog X.w) X.A (f v) (EP X pins σ Q) X.xe s
def jM(X:Cx)(f:Value)(r:List V->Hp->VK->Prop):Prop:=
 ∀(pins:Th) (s:Shared) (σ:St) (H:Hp) (xs:List V) (us:List Value) (Q:VK),Inv X pins σ H s->Vals xs us->r xs H Q->
  wpAny (model X.prog X.w) X.A (call f us) (EP X pins σ Q) X.xe s
def KN(X:Cx)(r:V->Hp->(Bool->Hp->Prop)->Prop):Prop:=
 ∀(pins:Th) (s:Shared) (σ:St) (H:Hp) (x:V) (v:Value) (Q:Bool->Hp->Prop),Inv X pins σ H s->RelV x v->r x H Q->
  wpAny (model X.prog X.w) X.A (truthy v) (TP X pins σ Q) X.xe s
def Ic(r:R2)(ta tb:TE):TE:=fun σ H Q=>ta σ H fun x H1=>tb σ H1 fun y H2=>r x y H2 Q
def Qo(r:V->Hp->VK->Prop)(ta:TE):TE:=fun σ H Q=>ta σ H fun x H1=>r x H1 Q
def rI(C:Int->Int->Prop)(g:Int->Int->V):R2:=fun x y H Q=>∃i j,x= .int i/\y= .int j/\C i j/\Q (g i j) H
def Cf(g:Int->Int->V):R2:=fun x y H Q=>∃i j,x= .int i/\y= .int j/\Q (g i j) H
def rU(g:Int->V):V->Hp->VK->Prop:=fun x H Q=>∃i,x= .int i/\Q (g i) H
section
variable {X:Cx} {a b c:Expr} {ta tb tc:TE} {pos:Pos}
theorem Hc(ha:PE X a ta)(hb:PE X b tb){pins:Th}{s:Shared}{σ:St}{H:Hp}{R:V->V->Hp->Prop}(I:Inv X pins σ H s)
 (h:ta σ H fun x H1=>tb σ H1 fun y H2=>R x y H2) {Q:Ti} {f:Value->Value->Sem Value}
 (hf:∀v u s2 x y H2,Inv X pins σ H2 s2->RelV x v->RelV y u->R x y H2->wpAny (model X.prog X.w) X.A (f v u) Q X.xe s2) :
 wpAny (model X.prog X.w) X.A (eval a X.env) (fun v s₁=>wpAny (model X.prog X.w) X.A (eval b X.env) (fun u vb=>wpAny (model X.prog X.w) X.A (f v u) Q X.xe vb) X.xe s₁) X.xe s:=by
 refine dc (ha pins s σ H _ I h) fun v s1 ⟨x,H1,I1,r1,q1⟩=>?_
 refine dc (hb pins s1 σ H1 _ I1 q1) fun u s2 ⟨y,H2,I2,r2,q2⟩=>?_
 exact hf v u s2 x y H2 I2 r1 r2 q2
theorem zE{op:Operator}{r:R2}(ho:lA X (binaryOp op) r)(ha:PE X a ta)(hb:PE X b tb):PE X (.BinOp a op b pos) (Ic r ta tb):=by
 intro pins s σ H Q I h;exact wpAny_BinOp (Hc ha hb I h fun v u s2 x y H2 I2 rx ry q=>ho pins s2 σ H2 x y v u Q I2 rx ry q)
theorem JB{op:UnaryOp}{r:V->Hp->VK->Prop}(ho:L4 X (unaryOp op) r)(ha:PE X a ta):PE X (.UnaryOp op a pos) (Qo r ta):=by
 intro pins s σ H Q I h;exact UnaryOp_ (dc (ha pins s σ H _ I h) fun v s1 ⟨x,H1,I1,r1,q1⟩=>ho pins s1 σ H1 x v Q I1 r1 q1)
theorem IQ{f:Value->Value->Sem Value}{C:Int->Int->Prop}{g:Int->Int->Int}
 (rule:∀(i j:Int) (t u:Tok) (s:Shared) (Q:Ti) (E:Ti),C i j->Q (.int (g i j) s.toks) {s with toks:=s.toks+1}->wpAny (model X.prog X.w) X.A (f (.int i t) (.int j u)) Q E s) :
 lA X f (rI C fun i j=> .int (g i j)):=by
 intro pins s σ H x y v u Q I rx ry h;obtain⟨i,j,rfl,rfl,hc,q⟩:=h;obtain⟨t,rfl⟩:=rx;obtain⟨t',rfl⟩:=ry;exact rule i j t t' s _ _ hc ⟨.int (g i j),H,I.tok _,⟨_,rfl⟩,q⟩
theorem Iw{f:Value->Value->Sem Value}{g:Int->Int->Int}
 (rule:∀(i j:Int) (t u:Tok) (s:Shared) (Q:Ti) (E:Ti),Q (.int (g i j) s.toks) {s with toks:=s.toks+1}->wpAny (model X.prog X.w) X.A (f (.int i t) (.int j u)) Q E s) :
 lA X f (Cf fun i j=> .int (g i j)):=by
 intro pins s σ H x y v u Q I rx ry h;obtain⟨i,j,rfl,rfl,q⟩:=h;obtain⟨t,rfl⟩:=rx;obtain⟨t',rfl⟩:=ry;exact rule i j t t' s _ _ ⟨.int (g i j),H,I.tok _,⟨_,rfl⟩,q⟩
theorem Hj{f:Value->Value->Sem Value}{g:Int->Int->Bool}
 (rule:∀(i j:Int) (t u:Tok) (s:Shared) (Q:Ti) (E:Ti),Q (.bool (g i j)) s->wpAny (model X.prog X.w) X.A (f (.int i t) (.int j u)) Q E s) :
 lA X f (Cf fun i j=> .bl (g i j)):=by
 intro pins s σ H x y v u Q I rx ry h;obtain⟨i,j,rfl,rfl,q⟩:=h;obtain⟨t,rfl⟩:=rx;obtain⟨t',rfl⟩:=ry;exact rule i j t t' s _ _ ⟨.bl (g i j),H,I,rfl,q⟩
def Lu(i j:Int):Prop:=0 < j/\j < 1073741824
def NO(i j:Int):Prop:=j≠0/\j.natAbs < 1073741824
def Mg(i j:Int):Prop:=0<=j/\j<=1000000/\i.natAbs < 2 ^ 64
def FC(i j:Int):Prop:=(-(2 ^ 64) < i/\i < 2 ^ 64)\/(-(2 ^ 64) < j/\j < 2 ^ 64)
theorem FC.ok{i j:Int}(h:FC i j):IntMulOk i j:=by
 rcases h with⟨h1,h2⟩ | ⟨h1,h2⟩
 .exact .of_left (intBits_le_64 h1 h2)
 .exact .of_right (intBits_le_64 h1 h2)
theorem vZ(k:Nat):(0:Int)<=2 ^ k:=by
 rw[two_pow_cast];exact Int.natCast_nonneg _
theorem F_:lA X (binaryOp .Add) (Cf fun i j=> .int (i+j)):=Iw fun _ _ _ _ _ _ _ q=>add_int q
theorem F6:lA X (binaryOp .Sub) (Cf fun i j=> .int (i - j)):=Iw fun _ _ _ _ _ _ _ q=>sub_int q
theorem FU:lA X (binaryOp .Mult) (rI FC fun i j=> .int (i*j)):=IQ fun _ _ _ _ _ _ _ hc q=>mul_int q hc.ok
theorem Ce:lA X (binaryOp .FloorDiv) (rI Lu fun i j=> .int (i / j)):=IQ fun i j _ _ _ _ _ hc q=>by
 have h1:(0:Int) < j:=hc.1;have h2:j < 1073741824:=hc.2;exact floordiv_int (by omega) (by rw[Int.fdiv_eq_ediv_of_nonneg i (by omega)];exact q) (.inl (PyProof.noPylong_small (by omega)))
theorem GY:lA X (binaryOp .Mod) (rI (fun _ j=>0 < j) fun i j=> .int (i % j)):=IQ fun i j _ _ _ _ _ hc q=>by
 have h1:(0:Int) < j:=hc;exact mod_int' (by omega) (by rw[Int.fmod_eq_emod_of_nonneg i (by omega)];exact q)
theorem Fw:lA X (binaryOp .Pow) (rI Mg fun i j=> .int (i ^ j.toNat)):=IQ fun _ _ _ _ _ _ _ hc q=>pow_int_small hc.1 hc.2.1 hc.2.2 q
theorem E7:lA X (binaryOp .RShift) (rI (fun _ j=>0<=j) fun i j=> .int (i / 2 ^ j.toNat)):=IQ fun i j _ _ _ _ _ hc q=>
 rshift_int hc (by rw[Int.fdiv_eq_ediv_of_nonneg i (vZ _)];exact q)
theorem P8{f:Value->Sem Value}{g:Int->Int}
 (rule:∀(i:Int) (t:Tok) (s:Shared) (Q:Ti) (E:Ti),Q (.int (g i) s.toks) {s with toks:=s.toks+1}->wpAny (model X.prog X.w) X.A (f (.int i t)) Q E s) :
 L4 X f (rU fun i=> .int (g i)):=by
 intro pins s σ H x v Q I rx h;obtain⟨i,rfl,q⟩:=h;obtain⟨t,rfl⟩:=rx;exact rule i t s _ _ ⟨.int (g i),H,I.tok _,⟨_,rfl⟩,q⟩
theorem Fm:L4 X (unaryOp .USub) (rU fun i=> .int (-i)):=P8 fun _ _ _ _ _ q=>neg_int q
end
def IU:V->V->Bool
 | .cu, .cu=>true | .cu, .int _=>true | .int _, .cu=>true | .cu, .bl _=>true | .bl _, .cu=>true | .cu, .str _=>true | .str _, .cu=>true
 | .int _, .int _=>true | .bl _, .bl _=>true | .str _, .str _=>true | .byt _, .byt _=>true
 | .int _, .str _=>true | .str _, .int _=>true | .bl _, .str _=>true | .str _, .bl _=>true
 | _,_=>false
def P0:R2:=fun x y H Q=>IU x y=true/\Q (.bl (decide (x=y))) H
def OI:R2:=fun x y H Q=>IU x y=true/\Q (.bl (!decide (x=y))) H
theorem xS{i j:Int}:decide (V.int i=V.int j)=(i==j):=by
 rw[Bool.eq_iff_iff];simp
theorem Ag{i j:Bool}:decide (V.bl i=V.bl j)=(i==j):=by
 rw[Bool.eq_iff_iff];simp
theorem xU:decide (V.str i=V.str j)=(i==j):=by
 rw[Bool.eq_iff_iff];simp
theorem xa{i j:Array UInt8}:decide (V.byt i=V.byt j)=(i.toList==j.toList):=by
 rw[Bool.eq_iff_iff];cases i;cases j;simp
section
variable {X:Cx} {a b c:Expr} {ta tb tc:TE} {pos:Pos}
theorem bZ{pins:Th}{s:Shared}{Q:VK}{k k':Bool}(I:Inv X pins σ H s)(q:Q (.bl k) H)(e:k=k'):EP X pins σ Q (.bool k') s:=by
 subst e;exact⟨.bl k,H,I,rfl,q⟩
theorem BC:lA X (compareOp .Eq) P0:=by
 intro pins s σ H x y v u Q I rx ry h;obtain⟨hs,q⟩:=h;cases x with
 | cu=>
   cases rx;cases y with
   | cu=>cases ry;exact PySem.EqNone.eq_none_none (bZ I q (by simp))
   | bl j=>cases ry;exact PySem.EqNone.eq_none_bool (bZ I q (by simp))
   | int j=>obtain⟨t',rfl⟩:=ry;exact PySem.EqNone.eq_none_int (bZ I q (by simp))
   | str j=>obtain⟨t',rfl⟩:=ry;exact PySem.EqNone.eq_none_str (bZ I q (by simp))
   | _=>exact absurd (show false=true from hs) Bool.false_ne_true
 | bl i=>
   cases rx;cases y with
   | cu=>cases ry;exact PySem.EqNone.eq_bool_none (bZ I q (by simp))
   | bl j=>cases ry;exact eq_bool (bZ I q Ag)
   | str j=>obtain⟨t',rfl⟩:=ry;exact PySem.EqMixed.eq_bool_str (bZ I q (by simp))
   | _=>exact absurd (show false=true from hs) Bool.false_ne_true
 | int i=>
   obtain⟨t,rfl⟩:=rx;cases y with
   | cu=>cases ry;exact PySem.EqNone.eq_int_none (bZ I q (by simp))
   | int j=>obtain⟨t',rfl⟩:=ry;exact eq_int (bZ I q xS)
   | str j=>obtain⟨t',rfl⟩:=ry;exact PySem.EqMixed.eq_int_str (bZ I q (by simp))
   | _=>exact absurd (show false=true from hs) Bool.false_ne_true
 | str i=>
   obtain⟨t,rfl⟩:=rx;cases y with
   | cu=>cases ry;exact PySem.EqNone.eq_str_none (bZ I q (by simp))
   | bl j=>cases ry;exact PySem.EqMixed.eq_str_bool (bZ I q (by simp))
   | int j=>obtain⟨t',rfl⟩:=ry;exact PySem.EqMixed.eq_str_int (bZ I q (by simp))
   | str j=>obtain⟨t',rfl⟩:=ry;exact eq_str (bZ I q xU)
   | _=>exact absurd (show false=true from hs) Bool.false_ne_true
 | byt i=>
   obtain⟨t,rfl⟩:=rx;cases y with
   | byt j=>obtain⟨t',rfl⟩:=ry;exact PySem.W.eq_bytes (bZ I q xa)
   | _=>exact absurd (show false=true from hs) Bool.false_ne_true
 | _=>cases y <;> exact absurd (show false=true from hs) Bool.false_ne_true
theorem AN:lA X (compareOp .NotEq) OI:=by
 intro pins s σ H x y v u Q I rx ry h;obtain⟨hs,q⟩:=h;cases x with
 | cu=>
   cases rx;cases y with
   | cu=>cases ry;exact PySem.EqNone.ne_none_none (bZ I q (by simp))
   | bl j=>cases ry;exact PySem.EqNone.ne_none_bool (bZ I q (by simp))
   | int j=>obtain⟨t',rfl⟩:=ry;exact PySem.EqNone.ne_none_int (bZ I q (by simp))
   | str j=>obtain⟨t',rfl⟩:=ry;exact PySem.EqNone.ne_none_str (bZ I q (by simp))
   | _=>exact absurd (show false=true from hs) Bool.false_ne_true
 | bl i=>
   cases rx;cases y with
   | cu=>cases ry;exact PySem.EqNone.ne_bool_none (bZ I q (by simp))
   | bl j=>cases ry;exact ne_bool (bZ I q (congrArg not Ag))
   | str j=>obtain⟨t',rfl⟩:=ry;exact PySem.EqMixed.ne_bool_str (bZ I q (by simp))
   | _=>exact absurd (show false=true from hs) Bool.false_ne_true
 | int i=>
   obtain⟨t,rfl⟩:=rx;cases y with
   | cu=>cases ry;exact PySem.EqNone.ne_int_none (bZ I q (by simp))
   | int j=>obtain⟨t',rfl⟩:=ry;exact ne_int (bZ I q (congrArg not xS))
   | str j=>obtain⟨t',rfl⟩:=ry;exact PySem.EqMixed.ne_int_str (bZ I q (by simp))
   | _=>exact absurd (show false=true from hs) Bool.false_ne_true
 | str i=>
   obtain⟨t,rfl⟩:=rx;cases y with
   | cu=>cases ry;exact PySem.EqNone.ne_str_none (bZ I q (by simp))
   | bl j=>cases ry;exact PySem.EqMixed.ne_str_bool (bZ I q (by simp))
   | int j=>obtain⟨t',rfl⟩:=ry;exact PySem.EqMixed.ne_str_int (bZ I q (by simp))
   | str j=>obtain⟨t',rfl⟩:=ry;exact ne_str (bZ I q (congrArg not xU))
   | _=>exact absurd (show false=true from hs) Bool.false_ne_true
 | byt i=>
   obtain⟨t,rfl⟩:=rx;cases y with
   | byt j=>obtain⟨t',rfl⟩:=ry;exact PySem.W.ne_bytes (bZ I q (congrArg not xa))
   | _=>exact absurd (show false=true from hs) Bool.false_ne_true
 | _=>cases y <;> exact absurd (show false=true from hs) Bool.false_ne_true
theorem Jz:lA X (compareOp .LtE) (Cf fun i j=> .bl (decide (i<=j))):=Hj fun _ _ _ _ _ _ _ q=>le_int q
theorem IH:lA X (compareOp .Gt) (Cf fun i j=> .bl (decide (j < i))):=Hj fun _ _ _ _ _ _ _ q=>gt_int q
theorem Jn:lA X (compareOp .GtE) (Cf fun i j=> .bl (decide (j<=i))):=Hj fun _ _ _ _ _ _ _ q=>ge_int q
theorem sg:lA X (compareOp .NotIn) (fun x y H Q=>∃i j,x= .str i/\y= .str j/\Q (.bl (!(!(Builtin.Str.occurrences j i 0 j.length 1).isEmpty))) H):=by
 intro pins s σ H x y v u Q I rx ry h;obtain⟨i,j,rfl,rfl,q⟩:=h;obtain⟨t,rfl⟩:=rx;obtain⟨t',rfl⟩:=ry;exact notIn_str (bZ I q rfl)
def isObj:HO->Bool
 | .lst _=>true
 | .ins _ _ _=>true
 | _=>false
theorem wk(b:Expr){op:CmpOp}(h:op≠ .In:=by decide)(h2:op≠ .NotIn:=by decide):behindInMarks op b=false:=by
 have e1:(op==CmpOp.In)=false:=by cases op <;> first | rfl | exact absurd rfl h
 have e2:(op==CmpOp.NotIn)=false:=by cases op <;> first | rfl | exact absurd rfl h2
 cases b <;> simp [behindInMarks,e1,e2]
theorem Dc{op:CmpOp}{r:R2}(ho:lA X (compareOp op) r)(ha:PE X a ta)(hb:PE X b tb)(hm:behindInMarks op b=false):PE X (.Compare a [op] [b] pos) (Ic r ta tb):=by
 intro pins s σ H Q I h;exact wpAny_Compare1 (Hc ha hb I h fun v u s2 x y H2 I2 rx ry q=>ho pins s2 σ H2 x y v u Q I2 rx ry q) hm
def Jm(t:TE):TT:=fun σ H Q=>t σ H fun x H'=>∃k,x= .bl k/\Q k H'
theorem wK{op:CmpOp}{r:R2}(ho:lA X (compareOp op) r)(ha:PE X a ta)(hb:PE X b tb)(hm:behindInMarks op b=false):PT X (.Compare a [op] [b] pos) (Jm (Ic r ta tb)):=by
 intro pins s σ H Q I h;refine wpAny_isTrue_Compare1 (dc (ha pins s σ H _ I h) fun v s1 ⟨x,H1,I1,r1,q1⟩=>dc (hb pins s1 σ H1 _ I1 q1) fun u s2 ⟨y,H2,I2,r2,q2⟩=>
  dc (ho pins s2 σ H2 x y v u _ I2 r1 r2 q2) fun c s3 ⟨z,H3,I3,r3,k,e,q3⟩=>?_) hm
 subst e;cases r3;exact wpAny_truthy_bool ⟨H3,I3,q3⟩
def K9(r r':R2)(ta tb tc:TE):TE:=fun σ H Q=>ta σ H fun x H1=>tb σ H1 fun y H2=>r x y H2 fun z H3=>∃k,z= .bl k/\
 (if k=true then tc σ H3 fun w' H4=>r' y w' H4 Q else Q (.bl false) H3)
def Fb(K:W.Frag)(x:V)(H:Hp)(k:Bool):Prop:=
 match x with
 | .cu=>k=false
 | .bl b=>k=b
 | .int i=>k=(i !=0)
 | .str y=>y.length<=sizeLine/\k=((y.length:Int) !=0)
 | .byt y=>y.size<=sizeLine/\k=((y.size:Int) !=0)
 | .ref p=>(∃xs,lD K H p xs/\k=!xs.isEmpty)\/(∃xs,l6 K H p xs/\k=!xs.isEmpty)\/∃kvs,H p=some (.dK kvs)/\k=!kvs.isEmpty
 | _=>False
theorem vn{κ:Type}{kvs:List (κ × V)}{vs:List (κ × Value)}(r:KV kvs vs):(!vs.isEmpty)=!kvs.isEmpty:=by
 cases r <;> rfl
theorem oD{xs:List V}{its:List Value}(r:Vals xs its):(!its.toArray.isEmpty)=!xs.isEmpty:=by
 cases r <;> simp
theorem oK:(sizeLine:Nat) < 2 ^ 63:=by rw[sizeLine_eq];decide
theorem FV:KN X (fun x H Q=>∃k,Fb X.K x H k/\Q k H):=by
 intro pins s σ H x v Q I rx h;obtain⟨k,e,q⟩:=h;have hl:=oK;have hs:sizeLine=16777216:=sizeLine_eq;cases x with
 | cu=>
   cases rx;have e':k=false:=e;subst e';exact truthy_none ⟨H,I,q⟩
 | bl b=>
   cases rx;have e':k=b:=e;subst e';exact wpAny_truthy_bool ⟨H,I,q⟩
 | int i=>
   obtain⟨t,rfl⟩:=rx;have e':k=(i !=0):=e;subst e';exact PySem.P.truthy_int ⟨H,I,q⟩
 | str y=>
   obtain⟨t,rfl⟩:=rx;obtain⟨hy,e'⟩:y.length<=sizeLine/\k=((y.length:Int) !=0):=e;subst e';exact PySem.P.truthy_str (by omega) ⟨H,I.tok _,q⟩
 | byt y=>
   obtain⟨t,rfl⟩:=rx;obtain⟨hy,e'⟩:y.size<=sizeLine/\k=((y.size:Int) !=0):=e;subst e';exact PySem.W.truthy_bytes (by omega) ⟨H,I.tok _,q⟩
 | ref p=>
   cases rx;have e':(∃xs,lD X.K H p xs/\k=!xs.isEmpty)\/(∃xs,l6 X.K H p xs/\k=!xs.isEmpty)\/∃kvs,H p=some (.dK kvs)/\k=!kvs.isEmpty:=e;rcases e' with⟨xs,hx,e'⟩ | ⟨xs,hx,e'⟩ | ⟨kvs,hx,e'⟩
   .subst e';obtain⟨its,r,pl,hz⟩:=I.list hx;have hlen:=r.length;exact wpAny_truthy_list pl.isList (by simp only[List.size_toArray];omega) ⟨H,I.tok _,by rw[oD r];exact q⟩
   .subst e';obtain⟨its,r,pl,hz⟩:=I.tuple hx;have hlen:=r.length;exact truthy_tuple pl (by simp only[List.size_toArray];omega) ⟨H,I.tok _,by rw[oD r];exact q⟩
   .subst e';obtain⟨hz,hS,vs,r,m⟩:kvs.length<=sizeLine/\(p==sysModules)=false/\∃vs,KV kvs vs/\s.heap.DictOf (cj X.prog X.w) p vs:=I.hok p _ hx;have hlen:kvs.length=vs.length:=Paired.length r;exact wpAny_truthy_dict hS m (by omega) ⟨H,I.tok _,by rw[vn r];exact q⟩
 | _=>exact(show False from e).elim
theorem Ab(ha:PE X a ta)(he:∀whole,isTrue a X.env whole=(do let v <-whole;standAt a.pos;holding [v] (truthy v))) :
 PT X a (fun σ H Q=>ta σ H fun x H'=>∃k,Fb X.K x H' k/\Q k H'):=by
 intro pins s σ H Q I h;exact isTrue_plain (dc (ha pins s σ H _ I h) fun v s1 ⟨x,H1,I1,r1,q1⟩=>FV pins s1 σ H1 x v Q I1 r1 q1) (he _)
theorem vS:lA X (binaryOp .Add) (fun x y H Q=>∃i j,x= .str i/\y= .str j/\i.length+j.length<=sizeLine/\Q (.str (i++j)) H):=by
 intro pins s σ H x y v u Q I rx ry h;obtain⟨i,j,rfl,rfl,hz,q⟩:=h;obtain⟨t,rfl⟩:=rx;obtain⟨t',rfl⟩:=ry;exact add_str (fun t' tk=>⟨.str (i++j),H,I.tok _,⟨_,rfl⟩,q⟩) hz
def IY(b:Expr):Prop:=∀o i,subscripted b false o i=operate [o,i] (getItem o i)
theorem vals1{x:V}{us:List Value}(r:Vals [x] us):∃u,us=[u]/\RelV x u:=by
 cases r with
 | cons r1 r2=>cases r2;exact⟨_,rfl,r1⟩
theorem vals2{x y:V}{us:List Value}(r:Vals [x,y] us):∃u w',us=[u,w']/\RelV x u/\RelV y w':=by
 cases r with
 | cons r1 r2=>
   cases r2 with
   | cons r3 r4=>cases r4;exact⟨_,_,rfl,r1,r3⟩
theorem ym(hc:X.calm=true):jM X (.builtin "min") (fun xs H Q=>∃i j,xs=[.int i, .int j]/\Q (.int (if j < i then j else i)) H):=by
 intro pins s σ H xs us Q I r h;obtain⟨i,j,rfl,q⟩:=h;obtain⟨u,w',rfl,⟨t,rfl⟩,⟨t',rfl⟩⟩:=vals2 r;refine min_two_ints (I.ok.hd hc) fun h' tk k=>⟨_,H,I.kept k,?_,q⟩
 by_cases hj:j < i
 .rw [if_pos hj,if_pos hj];exact⟨_,rfl⟩
 .rw [if_neg hj,if_neg hj];exact⟨_,rfl⟩
theorem yN:jM X (.type "int") (fun xs H Q=>(∃i,xs=[.int i]/\Q (.int i) H)\/∃k,xs=[.bl k]/\Q (.int (if k then 1 else 0)) H):=by
 intro pins s σ H xs us Q I r h;rcases h with⟨i,rfl,q⟩ | ⟨k,rfl,q⟩
 .obtain⟨u,rfl,t,rfl⟩:=vals1 r;exact call_int_int ⟨.int i,H,I,⟨_,rfl⟩,q⟩
 .obtain⟨u,rfl,r1⟩:=vals1 r;cases r1;exact call_int_bool ⟨.int (if k then 1 else 0),H,I.tok _,⟨_,rfl⟩,q⟩
def K8(K:W.Frag)(x:V)(H:Hp)(n:Nat):Prop:=
 match x with
 | .str y=>y.length<=sizeLine/\n=y.length
 | .byt y=>y.size<=sizeLine/\n=y.size
 | .ref p=>(∃xs,lD K H p xs/\n=xs.length)\/∃xs,l6 K H p xs/\n=xs.length
 | _=>False
theorem Aa:jM X (.builtin "len") (fun xs H Q=>∃x n,xs=[x]/\K8 X.K x H n/\Q (.int n) H):=by
 intro pins s σ H xs us Q I r h;obtain⟨x,n,rfl,e,q⟩:=h;obtain⟨u,rfl,rx⟩:=vals1 r;have hl:=oK;have hs:sizeLine=16777216:=sizeLine_eq;cases x with
 | str y=>
   obtain⟨t,rfl⟩:=rx;obtain⟨hy,e'⟩:y.length<=sizeLine/\n=y.length:=e;subst e';exact len_str (by omega) ⟨.int _,H,I.tok _,⟨_,rfl⟩,q⟩
 | byt y=>
   obtain⟨t,rfl⟩:=rx;obtain⟨hy,e'⟩:y.size<=sizeLine/\n=y.size:=e;subst e';exact PySem.W.len_bytes (by omega) ⟨.int _,H,I.tok _,⟨_,rfl⟩,q⟩
 | ref p=>
   cases rx;have e':(∃xs,lD X.K H p xs/\n=xs.length)\/∃xs,l6 X.K H p xs/\n=xs.length:=e;rcases e' with⟨xs,hx,e'⟩ | ⟨xs,hx,e'⟩
   .subst e';obtain⟨its,r',pl,hz⟩:=I.list hx;have hlen:=r'.length;exact Calls.call_len_list pl.isList (by simp only[List.size_toArray];omega) ⟨.int xs.length,H,I.tok _,⟨_,by simp only[List.size_toArray];rw [hlen]⟩,q⟩
   .subst e';obtain⟨its,r',pl,hz⟩:=I.tuple hx;have hlen:=r'.length;exact len_tuple pl (by simp only[List.size_toArray];omega) ⟨.int xs.length,H,I.tok _,⟨_,by simp only[List.size_toArray];rw [hlen]⟩,q⟩
 | _=>exact(show False from e).elim
end
structure FY (h:Heap) (x dx C:Addr) (mA:Tq):Prop where
 obj:h.get? x=some (PySem.W.instObj C dx)
 ns:h.Ns1 dx mA
 ne:dx≠x
theorem yU{h:Heap}{dx:Addr}{mA:Tq}(n:h.Ns1 dx mA):∃od,h.get? dx=some od/\∀name,PySem.W.lookIn name od=some (mA name):=by
 obtain⟨o,es,ep,ho,hd,hk,_,hm⟩:=n;refine⟨o,ho,fun name=>?_⟩
 have e:=hm name;unfold nsFind findBy at e;rw[<-Array.find?_toList] at e;unfold PySem.W.lookIn;rw[hd];dsimp only;split
 .rename_i y q;rw[q] at e;exact congrArg some e
 .rename_i q;rw[q] at e;have a:es.toList.any (·.refKey)=false:=by
   rw[List.any_eq_false];intro y hy;obtain⟨z,t,hkey⟩:=hk y (Array.mem_toList_iff.mp hy);simp [DictEntry.refKey,hkey]
  have a':¬es.toList.any (·.refKey)=true:=by rw[a];exact Bool.false_ne_true
  rw[if_neg a'];exact congrArg some e
theorem FY.look{x dx C:Addr}{mA:Tq}(I:FY h x dx C mA):∃od,PySem.W.InstAt h x (PySem.W.instObj C dx) C (some od)/\∀name,PySem.W.lookIn name od=some (mA name):=
 let⟨od,ho,hl⟩:=yU I.ns
 ⟨od,⟨I.obj,rfl,rfl,ho⟩,hl⟩
section
variable {prog:Program} {w:World} {A:Around} {E:Ti} {s:Shared} {K:W.Frag} {x dx C f:Addr} {mA:Tq} {name:Str} {v:Value}
end
def F3(f:Str)(v:V):List (Str × V)->List (Str × V)
 | []=>[(f,v)]
 | (g,x) ::r=>if g=f then(g,v) ::r else(g,x) ::F3 f v r
theorem mG.some_of{v:V}{o:Option Value}(r:mG (some v) o):∃u,o=some u/\RelV v u:=by
 cases o with
 | none=>exact(show False from r).elim
 | some u=>exact⟨u,rfl,r⟩
section
variable {P:Program} {w:World} {H H':Hp} {h h':Heap} {a C dx:Addr} {fs JW:List (Str × V)}
theorem DG(hok:kE P w H h)(e:H a=some (.ins C dx fs)):∃mA,FY h a dx C mA/\(∀f,mG (fs.lookup f) (mA f))/\PySem.Within mA (fs.map (·.1))/\fs.length<=1000/\H dx=some (.own a):=by
 obtain⟨d,z,ne,ob,mA,n,r,q⟩:=(show cB P w H h a (.ins C dx fs) from hok a _ e)
 exact⟨mA,⟨ob,n,ne⟩,r,q,z,d⟩
end
structure CC (K:W.Frag) (C:Addr):Prop where
 pg:PySem.W.plainGet K C Str.empty=true
 hd:PySem.W.hasDictIn K C=true
 po:PySem.W.plainOver K C=true
 sa:PySem.W.findIn K (.ref C) "__setattr__"=some (some (.builtin "object.__setattr__"))
theorem CC.get{K:W.Frag}{C:Addr}(c:CC K C)(f:Str):PySem.W.plainGet K C f=true:=c.pg
def vX(K:W.Frag)(C:Addr)(f:Str):Prop:=PySem.W.findIn K (.ref C) f=some none
structure Qi (K:W.Frag) (C:Addr) (f:Str) (v:V) (u:Value):Prop where
 at_:PySem.W.findIn K (.ref C) f=some (some u)
 rel:RelV v u
 get:PySem.W.specialIn K u "__get__"=some none
 cp:PySem.W.copiedNames.contains f=false
structure Meth (K:W.Frag) (C:Addr) (m:Str) (f:Addr):Prop where
 at_:PySem.W.findIn K (.ref C) m=some (some (.ref f))
 fn:PySem.W.isFn K (.ref f)=true
 kp:PySem.W.keepIn K (.ref f)=true
section
variable {X:Cx} {pins:Th} {σ:St} {H:Hp} {s:Shared} {a C dx:Addr} {fs:List (Str × V)} {f:Str} {v:V} {A:Around} {E:Ti}
end
def PY(K:W.Frag)(ta:TE)(f:Str):TE:=fun σ H Q=>ta σ H fun x H1=>∃a C dx fs v,x= .ref a/\H1 a=some (.ins C dx fs)/\CC K C/\vX K C f/\fs.lookup f=some v/\Q v H1
def OX(K:W.Frag)(ta:TE)(f:Str):TE:=fun σ H Q=>ta σ H fun x H1=>∃a C dx fs v u,x= .ref a/\H1 a=some (.ins C dx fs)/\CC K C/\Qi K C f v u/\fs.lookup f=none/\Q v H1
def Q5(K:W.Frag)(ta tv:TE)(f:Str):TS:=fun D σ H=>tv σ H fun y H1=>ta σ H1 fun x H2=>∃a C dx fs,x= .ref a/\H2 a=some (.ins C dx fs)/\CC K C/\vX K C f/\fs.length < 1000/\
 D.nx σ (upd H2 a (.ins C dx (F3 f y fs)))
def O7(X:Cx)(op:Operator)(rd:V->V->Hp->VK->Prop):Prop:=
 ∀(pins:Th) (s:Shared) (σ:St) (H:Hp) (x y:V) (u v:Value) (Q:VK),Inv X pins σ H s->RelV x u->RelV y v->rd x y H Q->wpAny (model X.prog X.w) X.A (inplaceOp op u v) (EP X pins σ Q) X.xe s
def Kf(K:W.Frag)(ta tv:TE)(rd:V->V->Hp->VK->Prop)(f:Str):TS:=fun D σ H=>ta σ H fun x H1=>∃a C dx fs v,x= .ref a/\H1 a=some (.ins C dx fs)/\CC K C/\vX K C f/\fs.lookup f=some v/\
 tv σ H1 fun y H2=>rd v y H2 fun z H3=>∃dx' JW,H3 a=some (.ins C dx' JW)/\JW.length < 1000/\D.nx σ (upd H3 a (.ins C dx' (F3 f z JW)))
section
variable {X:Cx} {o e value:Expr} {f:Str} {pos pos' sP:Pos} {ta tv:TE}
def Qq:V->V->Hp->VK->Prop:=fun x y H Q=>∃i j,x= .int i/\y= .int j/\Q (.int (i+j)) H
def P4:V->V->Hp->VK->Prop:=fun x y H Q=>∃i j,x= .int i/\y= .int j/\Q (.int (i - j)) H
end
section
variable {X:Cx} {pins:Th} {σ:St} {H:Hp} {s:Shared} {A:Around} {E:Ti} {Q:Ti} {c:Value} {b:Bool}
inductive nK (K:W.Frag) (H:Hp):V->Value->Prop where
 | cu:nK K H .cu (.type "NoneType")
 | bl (x:Bool):nK K H (.bl x) (.type "bool")
 | int (i:Int):nK K H (.int i) (.type "int")
 | str (x:Str):nK K H (.str x) (.type "str")
 | flt (x:UInt64):nK K H (.flt x) (.type "float")
 | lst {a:Addr} {xs:List V} (e:H a=some (.lst xs)):nK K H (.ref a) (.type "list")
 | ft {a:Addr} {o:Obj} {xs:List V} (e:H a=some (.ft o (.lst xs))):nK K H (.ref a) (.type "list")
 | tup {a:Addr} {xs:List V} (e:H a=some (.tup xs)):nK K H (.ref a) (.type "tuple")
 | dK {a:Addr} {kvs:List (Key × V)} (e:H a=some (.dK kvs)):nK K H (.ref a) (.type "dict")
 | dT {a:Addr} {kvs:List (List Key × V)} (e:H a=some (.dT kvs)):nK K H (.ref a) (.type "dict")
 | ins {a C dx:Addr} {fs:List (Str × V)} (e:H a=some (.ins C dx fs)) (cl:CC K C) (ha:PySem.W.findIn K (.ref C) "__class__"=some (some (.builtin "object.__class__")))
    (hn:PySem.W.specialIn K (.builtin "object.__class__") "__get__"=some (some (.builtin "getset_descriptor.__get__"))) (Ow:PySem.W.takesIn K (.builtin "object.__class__")=some true)
    (hm:PySem.W.mroIn K C (.type "object")=some true):nK K H (.ref a) (.ref C)
theorem kg{x:V}{u t:Value}(I:Inv X pins σ H s)(rx:RelV x u)(ty:nK X.K H x t)(e:PySem.W.kitOne X.K t c=some b)(h:∀tk,Q (.bool b) {s with toks:=tk}) :
 wpAny (model X.prog X.w) A (call (.builtin "isinstance") [u,c]) Q E s:=by
 cases ty with
 | cu=>cases(show u=Value.none from rx);exact PySem.W.kia_one PySem.W.kitx_none I.qX True.intro e (fun z=>nomatch z) h
 | bl y=>cases(show u=Value.bool y from rx);exact PySem.W.kia_one PySem.W.kitx_bool I.qX True.intro e (fun z=>nomatch z) h
 | int i=>obtain⟨t,q⟩:=(show ∃t,u=Value.int i t from rx);cases q;exact PySem.W.kia_one PySem.W.kitx_int I.qX True.intro e (fun z=>nomatch z) h
 | str y=>obtain⟨t,q⟩:=(show ∃t,u=Value.str y t from rx);cases q;exact PySem.W.kia_one PySem.W.kitx_str I.qX True.intro e (fun z=>nomatch z) h
 | flt y=>obtain⟨t,q⟩:=(show ∃t,u=Value.float y t from rx);cases q;exact PySem.W.kia_one PySem.W.kitx_float I.qX True.intro e (fun z=>nomatch z) h
 | @lst a xs ea=>
   cases(show u=Value.ref a from rx)
   obtain⟨_,_,n,_,h1⟩:=(show cB X.prog X.w H s.heap a (.lst xs) from I.hok a _ ea)
   exact PySem.W.kia_one PySem.W.kitx_list I.qX ⟨_,h1,rfl⟩ e (fun z=>nomatch z) h
 | @ft a ob xs ea=>
   cases(show u=Value.ref a from rx)
   obtain⟨_,_,_,n,_,h1⟩:=(show cB X.prog X.w H s.heap a (.ft ob (.lst xs)) from I.hok a _ ea)
   exact PySem.W.kia_one PySem.W.kitx_list I.qX ⟨_,h1,rfl⟩ e (fun z=>nomatch z) h
 | @tup a xs ea=>
   cases(show u=Value.ref a from rx)
   obtain⟨_,_,_,p⟩:=(show cB X.prog X.w H s.heap a (.tup xs) from I.hok a _ ea)
   obtain⟨o,h1,h2,_⟩:=p;exact PySem.W.kia_one PySem.W.kitx_tuple I.qX ⟨o,h1,h2⟩ e (fun z=>nomatch z) h
 | @dK a kvs ea=>
   cases(show u=Value.ref a from rx)
   obtain⟨_,_,vs,_,p⟩:=(show cB X.prog X.w H s.heap a (.dK kvs) from I.hok a _ ea)
   obtain⟨o,es,ep,h1,h2,_⟩:=p;exact PySem.W.kia_one PySem.W.kitx_dict I.qX ⟨o,h1,h2.1⟩ e (fun z=>nomatch z) h
 | @dT a kvs ea=>
   cases(show u=Value.ref a from rx)
   obtain⟨_,_,xs,_,o,es,ep,h1,h2,_⟩:=(show cB X.prog X.w H s.heap a (.dT kvs) from I.hok a _ ea)
   exact PySem.W.kia_one PySem.W.kitx_dict I.qX ⟨o,h1,h2.1⟩ e (fun z=>nomatch z) h
 | @ins a C dx fs ea cl ha hn Ow hm=>
   cases(show u=Value.ref a from rx)
   obtain⟨mA,O,_⟩:=DG I.hok ea;obtain⟨od,J,_⟩:=O.look;exact PySem.W.kia_one (PySem.W.kitx_own (cl.get _) cl.hd ha hn Ow hm) I.qX J e (fun z=>nomatch z) h
end
structure et (k:Nat) (A:Around):Prop where
 hd:A.handled=none
 dp:A.depth+3*k+5 < recursionLimit
 un:A.units+16*k+200 < cLine
theorem et.mono{j k:Nat}(r:et k A)(h:j<=k):et j A:=⟨r.hd,by have:=r.dp;omega,by have:=r.un;omega⟩
theorem et.deeper{k:Nat}{A:Around}(r:et (k+1) A)(env:Env):et k (A.deeper env):=
 ⟨r.hd,by have:=r.dp;show A.depth+1+3*k+5 < _;omega,by have:=r.un;show A.units+3+16*k+200 < _;omega⟩
theorem et.depth{k:Nat}{A:Around}(r:et k A):A.depth < recursionLimit:=by have:=r.dp;omega
theorem et.units{k:Nat}{A:Around}(r:et k A):A.units+64 < cLine:=by have:=r.un;omega
def LP:TA:=fun _ H Q=>Q [] H
def IK(ta:TE)(tr:TA):TA:=fun σ H Q=>ta σ H fun x H1=>tr σ H1 fun xs H2=>Q (x ::xs) H2
section
variable {X:Cx} {e:Expr} {es:List Expr} {te:TE} {t:TA} {pos:Pos}
theorem gn:PA X [] LP:=fun _ _ _ _ H Q I h=>Calls.spliced_nil ⟨[],H,I, .nil,h⟩
theorem dH(ha:PE X e te)(hr:PA X es t)(hs:starEach (e ::es) X.env=(false,eval e X.env) ::starEach es X.env:=by rfl):PA X (e ::es) (IK te t):=by
 intro pos pins s σ H Q I h;rw[hs];show wpAny _ _ (spliced ((false,eval e X.env) ::backTo pos (starEach es X.env))) _ _ s;refine Calls.spliced_cons (dc (ha pins s σ H _ I h) fun u s1 ⟨x,H1,I1,r1,q1⟩=>?_)
 exact dc (hr pos pins s1 σ H1 _ I1 q1) fun us s2 ⟨xs,H2,I2,r2,q2⟩=>⟨x ::xs,H2,I2, .cons r1 r2,q2⟩
def KJ(t:TA):TE:=fun σ H Q=>t σ H fun xs H1=>xs.length<=sizeLine/\∀p,H1 p=none->Q (.ref p) (upd H1 p (.tup xs))
def LW(t:TA):TE:=fun σ H Q=>t σ H fun xs H1=>xs.length<=sizeLine/\∀p,H1 p=none->Q (.ref p) (upd H1 p (.lst xs))
theorem vv{x1}(h:PA X es t):PE X (.Tuple es x1 pos) (KJ t):=by
 intro pins s σ H Q I hq;refine wpAny_Tuple_spliced (dc (h pos pins s σ H _ I hq) fun us s1 ⟨xs,H1,I1,r,z,q⟩=>⟨by rw[<-r.length];exact z,?_⟩)
 have hf:H1 s1.heap.objs.size=none:=I1.hok.fresh (Nat.le_refl _);refine⟨.ref s1.heap.objs.size,upd H1 s1.heap.objs.size (.tup xs),I1.laid (t':=s1.toks) (fun b u e=>Heap.get?_push_of_some _ e) (Nat.le_refl _) ?_,rfl,q _ hf⟩
 exact⟨z,us,r,⟨_,Heap.get?_push_size _ rfl,rfl,_,rfl⟩⟩
theorem GQ(h:PA X es t):PE X (.List es pos) (LW t):=by
 intro pins s σ H Q I hq;refine wpAny_List_spliced (dc (h pos pins s σ H _ I hq) fun us s1 ⟨xs,H1,I1,r,z,q⟩=>⟨by rw[<-r.length];exact z,?_⟩)
 have hf:H1 s1.heap.objs.size=none:=I1.hok.fresh (Nat.le_refl _);refine⟨.ref s1.heap.objs.size,upd H1 s1.heap.objs.size (.lst xs),I1.laid (t':=s1.toks) (fun b u e=>Heap.get?_push_of_some _ e) (Nat.le_refl _) ?_,rfl,q _ hf⟩
 exact⟨z,us,0,r,Heap.get?_push_size _ rfl⟩
end
abbrev Sp:=List V->Hp->VK->XK->Prop
abbrev zp:=List Env->Hp->Shared->XK->Value->Shared->Prop
structure DQ (P:Program) (w:World) (K:W.Frag) (mg:Tq) (base:Heap) (A:Around) (outer:List Env) (s:Shared) (H:Hp):Prop where
 frames:A.frames=some outer
 mod:Mod K mg base
 bs:∀b o,base.get? b=some o->s.heap.get? b=some o/\H b=none
 bsz:base.objs.size<=s.heap.objs.size
 pL:s.heap.FunFrames base outer
 frf:∀b∈xu outer,H b=none
 hok:kE P w H s.heap
 bare:AllBare s.gens
def CE(outer:List Env)(P:Program)(w:World)(H:Hp)(s:Shared)(Q:VK)(u:Value)(s':Shared):Prop:=
 ∃v H',s'.os=s.os/\AllBare s'.gens/\Un (xu outer) [] H H' s.heap s'.heap/\kE P w H' s'.heap/\RelV v u/\Q v H'
def CR(CX:zp)(outer:List Env)(P:Program)(w:World)(H:Hp)(s:Shared)(Q:VK)(E:XK)(r:Result)(s':Shared):Prop:=
 match r with
 | .ok (.ret u)=>CE outer P w H s Q u s'
 | .ok _=>False
 | .error e=>CX outer H s E e s'
structure gH (P:Program) (w:World) (K:W.Frag) (mg:Tq) (base:Heap) (CX:zp) (k:Nat) (f:Addr) (fd:FuncData) (ps:List Str) (sp:Sp):Prop where
 len:∀vs H Q E,sp vs H Q E->vs.length=ps.length
 run:∀(A:Around) (outer:List Env) (s:Shared) (H:Hp) (args:Args) (us:List Value) (vs:List V) (Q:VK) (E:XK),et k A->DQ P w K mg base A outer s H->BindsTo s fd args (ps.zip us)->Vals vs us->sp vs H Q E->
  codeAny (model P w) A (.call (.ref f) args) (CR CX outer P w H s Q E) s
theorem gH.imp{P:Program}{w:World}{K:W.Frag}{mg:Tq}{base:Heap}{CX:zp}{k:Nat}{f:Addr}{fd:FuncData}{ps:List Str}{sp Oe:Sp}(F:gH P w K mg base CX k f fd ps sp)
 (h:∀vs H Q E,Oe vs H Q E->sp vs H Q E):gH P w K mg base CX k f fd ps Oe:=
 ⟨fun vs H Q E q=>F.len vs H Q E (h _ _ _ _ q),fun A outer s H args us vs Q E hr he hb hv hs=>F.run A outer s H args us vs Q E hr he hb hv (h _ _ _ _ hs)⟩
section
variable {X:Cx} {pins:Th} {σ:St} {H:Hp} {s s':Shared}
theorem Inv.Ly(I:Inv X pins σ H s):DQ X.prog X.w X.K X.mg X.base X.A X.stack s H:=
 ⟨I.ok.frames,I.ok.mod,I.bs,Nat.le_trans I.ok.bsz I.sz,I.stack,I.ya,I.hok,I.bare⟩
theorem Inv.after{Q:VK}{u:Value}(I:Inv X pins σ H s)(h:CE X.stack X.prog X.w H s Q u s'):EP X pins σ Q u s':=by
 obtain⟨v,H',os,bare,un,hok,r,q⟩:=h;obtain⟨hh,g,d,t,Rv⟩:=s';obtain rfl:Rv=s.os:=os;exact⟨v,H',I.call (h':=hh) (g':=g) (d':=d) (t':=t) (ch:=[]) un hok bare (fun b z=>absurd z (by simp)),r,q⟩
end
def JI(sp:Sp)(zw:List V)(E:XK)(t:TA):TE:=fun σ H Q=>t σ H fun vs H1=>sp (vs++zw) H1 Q E
def Nr(C:Addr)(m:Str)(sp:Sp)(zw:List V)(E:XK)(ta:TE)(t:TA):TE:=fun σ H Q=>ta σ H fun x H1=>∃a dx fs,x= .ref a/\H1 a=some (.ins C dx fs)/\fs.lookup m=none/\
 t σ H1 fun vs H2=>sp (x ::(vs++zw)) H2 Q E
def MO(C:Addr)(sp:Sp)(zw:List V)(E:XK)(t:TA):TE:=fun σ H Q=>t σ H fun vs H1=>∀x dx,H1 x=none->H1 dx=none->dx≠x->
 sp (.ref x ::(vs++zw)) (upd (upd H1 dx (.own x)) x (.ins C dx [])) (fun v H2=>v= .cu/\Q (.ref x) H2) E
def Binds(K:W.Frag)(fd:FuncData)(ps:List Str)(ds:List Value):Prop:=
 ∀(s:Shared) (us:List Value),K.In s.heap->(us++ds).length=ps.length->BindsTo s fd ⟨us,[]⟩ (ps.zip (us++ds))
theorem Binds.all{K:W.Frag}{fd:FuncData}{ps:List Str}(h:∀us:List Value,us.length=ps.length->bindArgs fd ⟨us,[]⟩=pure (ps.zip us)):Binds K fd ps []:=fun s us _ hl=>by
 rw[List.append_nil] at hl ⊢;exact .of_eq (h us hl)
def Passes(CX:zp)(X:Cx)(E:XK):Prop:=∀(pins:Th) (σ:St) (H:Hp) (s:Shared) (e:Value) (s':Shared),Inv X pins σ H s->CX X.stack H s E e s'->X.xe e s'
section
variable {X:Cx} {CX:zp} {k:Nat} {f C:Addr} {fd:FuncData} {ps:List Str} {sp:Sp} {zw:List V} {ds:List Value} {E:XK} {x m:Str} {p pos apos:Pos} {e o:Expr} {es:List Expr} {ta:TE} {t:TA}
theorem GF{pins:Th}{σ:St}{H:Hp}{s:Shared}{Q:VK}{us:List Value}{vs:List V}(F:gH X.prog X.w X.K X.mg X.base CX k f fd ps sp)(hr:et k X.A)(hb:Binds X.K fd ps ds)(hd:Vals zw ds)(hx:Passes CX X E)
 (I:Inv X pins σ H s) (r:Vals vs us) (h:sp (vs++zw) H Q E):wpAny (model X.prog X.w) X.A (call (.ref f) us) (EP X pins σ Q) X.xe s:=by
 have r2:Vals (vs++zw) (us++ds):=r.append hd;have hl:(us++ds).length=ps.length:=by rw[<-r2.length];exact F.len _ _ _ _ h
 refine wpAny_call (codeAny_mono (F.run X.A X.stack s H ⟨us,[]⟩ (us++ds) (vs++zw) Q E hr I.Ly (hb s us I.qX hl) r2 h) fun r s' hq=>?_)
 cases r with
 | error e=>exact hx pins σ H s e s' I hq
 | ok fl=>
   cases fl with
   | ret u=>exact I.after hq
   | next=>exact False.elim hq
   | brk=>exact False.elim hq
   | cont=>exact False.elim hq
theorem rQ(F:gH X.prog X.w X.K X.mg X.base CX k f fd ps sp)(hr:et k X.A)(hg:Gl X x)(hm:X.mg x=some (.ref f))(hk:PySem.W.keepIn X.K (.ref f)=true)(hb:Binds X.K fd ps ds)(hd:Vals zw ds)(hx:Passes CX X E)
 (ha:PA X (e ::es) t) (pY:(x==("__debug__":Str))=false:=by decide) (he:starEach (e ::es) X.env=(false,eval e X.env) ::starEach es X.env:=by rfl) (j5:(backTo pos (starEach es X.env)).any (·.1)=false:=by rfl) :
 PE X (.Call (.Name x p) (e ::es) [] pos) (JI sp zw E t):=by
 intro pins s σ H Q I h;refine wpAny_Call_Name_kw (xD I hg hm ?_ pY);refine PySem.W.callWith_K (h₀:=X.base) I.ok.mod.kin hk (dc (ha pos pins s σ H _ I h) fun us s1 ⟨vs,H1,I1,r,q⟩=>⟨I1.qX,?_⟩) he j5
 exact GF F hr hb hd hx I1 r q
structure Mk (K:W.Frag) (C f:Addr):Prop where
 makes:PySem.W.makesIn K C=true
 init:PySem.W.findIn K (.ref C) "__init__"=some (some (.ref f))
 fn:PySem.W.isFn K (.ref f)=true
 kp:PySem.W.keepIn K (.ref C)=true
end
def PK(X:Cx)(Oq:List Keyword)(t:TA):Prop:=
 ∀(pos:Pos) (pins:Th) (s:Shared) (σ:St) (H:Hp) (Q:List V->Hp->Prop),Inv X pins σ H s->t σ H Q->wpAny (model X.prog X.w) X.A (evalAll ((backToKw pos (keywordEach Oq X.env)).map (·.2))) (AP X pins σ Q) X.xe s
section
variable {X:Cx} {CX:zp} {k:Nat} {f C:Addr} {fd:FuncData} {ps ks:List Str} {sp:Sp} {E:XK} {x m:Str} {p pos apos RC:Pos} {e o:Expr} {es:List Expr} {Oq:List Keyword} {te ta:TE} {t tk:TA} {nm:Option Str}
structure K3 (K:W.Frag) (fd:FuncData) (ps ks:List Str) (g:List Value->List Value->List Value) (gV:List V->List V->List V):Prop where
 to:∀(s:Shared) (us ws:List Value),K.In s.heap->(g us ws).length=ps.length->BindsTo s fd ⟨us,ks.zip ws⟩ (ps.zip (g us ws))
 rel:∀{vs:List V} {us:List Value} {zs:List V} {ws:List Value},Vals vs us->Vals zs ws->Vals (gV vs zs) (g us ws)
def LK(sp:Sp)(gV:List V->List V->List V)(E:XK)(t tk:TA):TE:=fun σ H Q=>t σ H fun vs H1=>tk σ H1 fun zs H2=>sp (gV vs zs) H2 Q E
variable {g:List Value->List Value->List Value} {gV:List V->List V->List V}
end
structure bB (N P:List Str) (sc:Scope):Prop where
 kind:sc.kind= .function
 co:sc.isCoroutine=false
 gen:sc.isGenerator=false
 nd:N.Nodup
 pre:N.take P.length=P
 par:∀x∈P,sc.names.lookup x=some .local\/sc.names.lookup x=some .cell
 nofree:∀y∈sc.names,y.2≠ .free
theorem qK{kindOf:Str->Option NameKind}:∀{binds:List (Str × Value)} {m:Tq},(∀v,(x,v) ∉ binds)->bindL kindOf binds m x=m x
 | [],_,_=>rfl
 | (n,v) ::r,m,h=>by
   unfold bindL;rw[qK fun w hw=>h w (List.mem_cons_of_mem _ hw)]
   split
   .have:x≠n:=by rintro rfl;exact h v List.mem_cons_self
    simp [this]
   .rfl
theorem qJ{kindOf:Str->Option NameKind}:∀{binds:List (Str × Value)} {m:Tq},(∀v,(x,v) ∉ binds)->bindC kindOf binds m x=m x
 | [],_,_=>rfl
 | (n,v) ::r,m,h=>by
   unfold bindC;rw[qJ fun w hw=>h w (List.mem_cons_of_mem _ hw)]
   split
   .rfl
   .have:x≠n:=by rintro rfl;exact h v List.mem_cons_self
    simp [this]
theorem qG{kindOf:Str->Option NameKind}{v:Value}:∀{P:List Str} {vs:List Value} {i:Nat} {m:Tq},P.Nodup->P[i]? =some x->vs[i]? =some v->kindOf x=some .local->
 bindL kindOf (P.zip vs) m x=some v
 | [],_,_,_,_,h,_,_=>by simp at h
 | _ ::_,[],_,_,_,_,h,_=>by simp at h
 | p ::P,w ::vs,0,m,nd,h1,h2,hk=>by
   simp at h1 h2;subst h1;subst h2;show bindL kindOf ((p,w) ::P.zip vs) m p=_;unfold bindL;rw[qK fun v hv=>(List.nodup_cons.mp nd).1 (List.of_mem_zip hv).1,if_pos hk]
   simp
 | p ::P,w ::vs,i+1,m,nd,h1,h2,hk=>by
   show bindL kindOf ((p,w) ::P.zip vs) m x=_;unfold bindL;exact qG (i:=i) (List.nodup_cons.mp nd).2 (by simpa using h1) (by simpa using h2) hk
theorem qT{kindOf:Str->Option NameKind}{v:Value}:∀{P:List Str} {vs:List Value} {i:Nat} {m:Tq},P.Nodup->P[i]? =some x->vs[i]? =some v->kindOf x≠some .local->
 bindC kindOf (P.zip vs) m x=some v
 | [],_,_,_,_,h,_,_=>by simp at h
 | _ ::_,[],_,_,_,_,h,_=>by simp at h
 | p ::P,w ::vs,0,m,nd,h1,h2,hk=>by
   simp at h1 h2;subst h1;subst h2;show bindC kindOf ((p,w) ::P.zip vs) m p=_;unfold bindC;rw[qJ fun v hv=>(List.nodup_cons.mp nd).1 (List.of_mem_zip hv).1,if_neg hk]
   simp
 | p ::P,w ::vs,i+1,m,nd,h1,h2,hk=>by
   show bindC kindOf ((p,w) ::P.zip vs) m x=_;unfold bindC;exact qT (i:=i) (List.nodup_cons.mp nd).2 (by simpa using h1) (by simpa using h2) hk
def start(N:List Str)(vs:List V):St:=vs.map some++List.replicate (N.length - vs.length) none
def mP(CX:zp)(P:Program)(w:World)(K:W.Frag)(mg:Tq)(base:Heap)(N:List Str)(qual:Str)(scope:Scope)(f:Addr)(cd:Value)(A:Around)(outer:List Env)(s:Shared)(H:Hp)(E:XK):Cx where
 prog:=P
 w:=w
 K:=K
 mg:=mg
 base:=base
 A:=A.deeper (envOfC qual scope s.heap.objs.size f cd)
 N:=N
 s₀:=s
 H₀:=H
 env:=envOfC qual scope s.heap.objs.size f cd
 outer:=outer
 stack:=envOfC qual scope s.heap.objs.size f cd ::outer
 ex:=[]
 calm:=true
 fn:=fun _=>true
 pn:=[]
 xe:=fun e s'=>wpAny (model P w) (A.deeper (envOfC qual scope s.heap.objs.size f cd)) (leaving (envOfC qual scope s.heap.objs.size f cd) e) (fun _ MB=>CX outer H s E e MB) (fun e' MB=>CX outer H s E e' MB) s'
theorem pK{sc:Scope}{n:Nat}(h:sc.names.lookup x=some .cell):∃c,(cellsFrom n sc.names []).lookup x=some c:=by
 have q:=PySem.W.cellsFrom_some sc.names n [] (.inl h);exact Option.isSome_iff_exists.mp q
theorem ze{CX:zp}{P:Program}{w:World}{K:W.Frag}{mg:Tq}{base:Heap}{N ps:List Str}{qual:Str}{scope:Scope}{f:Addr}{cd:Value}{A:Around}{outer:List Env}{s s1:Shared}{H:Hp}{E:XK}{us:List Value}{vs:List V}
 (S:bB N ps scope) (hd:A.handled=none) (e0:DQ P w K mg base A outer s H) (hl:vs.length=ps.length) (r:Vals vs us)
 (x:InCallC s s.heap.objs.size (bindL (envOfC qual scope s.heap.objs.size f cd).kindOf (ps.zip us) fun _=>none) (cellsFrom (s.heap.objs.size+1) scope.names []) (bindC (envOfC qual scope s.heap.objs.size f cd).kindOf (ps.zip us) fun _=>none) s1) :
 Inv (mP CX P w K mg base N qual scope f cd A outer s H E) [] (start N vs) H s1:=by
 have j5:ps.length<=N.length:=by have:=congrArg List.length S.pre;rw [List.length_take] at this;omega
 obtain⟨h1,tk,rfl,hk⟩:=x.done;have noA:∀b:Addr,b ∉ (mP CX P w K mg base N qual scope f cd A outer s H E).ex:=fun b z=>absurd (show b∈([]:List Addr) from z) (by simp)
 refine⟨⟨e0.mod,S.kind,rfl,rfl,Nat.le_refl _,fun y z c h1 h2=>?_,fun y hy=>?_,fun y c _ h=>?_,fun _=>hd,Around.frames_deeper e0.frames, .inr ⟨rfl,rfl⟩,fun b z=>absurd z (noA b),e0.bs,e0.bsz,fun b _ _=>noA b,fun b z=>absurd z (noA b),e0.pL,e0.frf⟩,
  rfl,e0.bare,Un.kept hk,⟨_,x.toInCall.ns,fun i y v h1 h2 h3=>?_⟩,fun y c h=>⟨_,x.cell y c h⟩,e0.hok.fresh (Nat.le_refl _),fun y c h=>?_,fun p hp=>absurd (show p∈([]:Th) from hp) (by simp),e0.hok.kept hk,?_⟩
 .exact name_of_addr x.apart (PySem.mem_of_lookup h1) (PySem.mem_of_lookup h2)
 .have hy:scope.names.lookup y=some .cell\/scope.names.lookup y=some .free:=hy;rcases hy with hy | hy
  .exact pK hy
  .exact absurd rfl (S.nofree _ (PySem.mem_of_lookup hy))
 .exact Nat.le_of_lt (x.above y c (PySem.mem_of_lookup h))
 .have hi:i < vs.length:=by
   unfold start at h2;by_cases hi:i < vs.length
   .exact hi
   .rw [List.getElem?_append_right (by simpa using hi)] at h2
    rw[List.getElem?_replicate] at h2;split at h2 <;> cases h2
  have ha:vs[i]? =some v:=by
   unfold start at h2;rw[List.getElem?_append_left (by simpa using hi),List.getElem?_map] at h2
   cases e:vs[i]? with
   | none=>rw [e] at h2;cases h2
   | some a=>rw [e] at h2;cases h2;rfl
  obtain⟨u,hu,rv⟩:=r.get ha;have hp:ps[i]? =some y:=by
   rw[<-S.pre,List.getElem?_take_of_lt (by omega)];exact h1
  have ndP:ps.Nodup:=by rw[<-S.pre];exact S.nd.sublist (List.take_sublist _ _)
  refine⟨u,rv,?_⟩;rcases S.par y (List.mem_of_getElem? hp) with k | k
  .exact .inl ⟨k,qG ndP hp hu k⟩
  .obtain⟨c,e⟩:=pK (n:=s.heap.objs.size+1) k;refine .inr ⟨.inl k,c,e,?_⟩;have q:=x.cell y c e;rw[qT ndP hp hu (by show scope.names.lookup y≠_;rw [k];decide)] at q
   exact q
 .exact e0.hok.fresh (Nat.le_of_lt (x.above y c (PySem.mem_of_lookup h)))
 .unfold start;show _=N.length;rw[List.length_append,List.length_map,List.length_replicate];omega
theorem IW{CX:zp}{P:Program}{w:World}{K:W.Frag}{mg:Tq}{base:Heap}{k:Nat}{f:Addr}{name qual:Str}{params:Arguments}{body:List Stmt}{scope:Scope}{dV kV doc pm er ct oc:Value}{an od:Option Addr}
 {Ca:Array (Option Value)} {N ps:List Str} {sp:Sp} (lk:K.lookup f=some ⟨oc,od, .func (PySem.W.fnOf name qual params body scope dV kV doc pm an er ct),Ca⟩) (nR:PySem.W.codeIn K er qual=true) (S:bB N ps scope)
 (len:∀vs H Q E,sp vs H Q E->vs.length=ps.length)
 (fN:∀(A:Around) (outer:List Env) (s:Shared) (H:Hp) (vs:List V) (Q:VK) (E:XK),et k (A.deeper (envOfC qual scope s.heap.objs.size f er))->sp vs H Q E->
   ∃t,r6 (mP CX P w K mg base N qual scope f er A outer s H E) body t/\t {nx:=fun _ H'=>Q .cu H',rt:=Q} (start N vs) H) :
 gH P w K mg base CX (k+1) f (PySem.W.fnOf name qual params body scope dV kV doc pm an er ct) ps sp:=by
 refine⟨len,fun A outer s H args us vs Q E hr e0 hb r Ih=>?_⟩
 have hl:=len _ _ _ _ Ih;have KX:K.In s.heap:=e0.mod.kin.keeps fun b o e=>(e0.bs b o e).1
 have lim:s.heap.NoLimit:=e0.mod.nolimit.keeps fun b o e=>(e0.bs b o e).1
 have hkind:∀y∈ps.zip us,scope.names.lookup y.1=some .local\/(scope.names.lookup y.1=some .cell/\((cellsFrom (s.heap.objs.size+1) scope.names []).lookup y.1).isSome=true):=fun⟨n,v⟩ hy=>by
  rcases S.par n (List.of_mem_zip hy).1 with q | q
  .exact .inl q
  .exact .inr ⟨q,PySem.W.cellsFrom_some _ _ _ (.inl q)⟩
 refine codeAny_call_function hr.depth (KX _ _ lk) rfl S.co S.gen rfl (PySem.W.codeRec_of KX nR) (hb _ _ _ _ ?_);refine wpAny_newFunctionEnv_cells S.kind hkind fun env he s1 x=>?_
 subst he;refine⟨lim.keeps x.toInCall.keep,codeAny_func ?_⟩;obtain⟨t,ht,hq⟩:=fN A outer s H vs Q E (hr.deeper _) Ih;have I:Inv (mP CX P w K mg base N qual scope f er A outer s H E) [] (start N vs) H s1:=ze S hr.hd e0 hl r x;refine wpAny_mono (ht [] s1 (start N vs) H _ I hq) (fun fl s' hs=>?_) fun e s' hs=>hs
 have fin:∀{cG:St} {H':Hp} {v:V} {u:Value},Inv (mP CX P w K mg base N qual scope f er A outer s H E) [] cG H' s'->RelV v u->Q v H'->CE outer P w H s Q u s':=
  fun {cG H' v u} J rv q=>⟨v,H',J.os,J.bare,J.base,J.hok,rv,q⟩
 cases fl with
 | ret u=>
   obtain⟨v,cG,H',J,rv,q⟩:=hs;exact fin J rv q
 | next=>
   obtain⟨cG,H',J,q⟩:=hs;exact fin (v:=V.cu) (u:=Value.none) J rfl q
 | brk=>
   obtain⟨_,_,_,q⟩:=hs;exact False.elim q
 | cont=>
   obtain⟨_,_,_,q⟩:=hs;exact False.elim q
section
variable {X:Cx} {x:Str} {p pos:Pos} {e:Expr} {es:List Expr} {t:TA} {id T:String} {r:List V->Hp->VK->Prop}
def Nx(r:List V->Hp->VK->Prop)(t:TA):TE:=fun σ H Q=>t σ H fun vs H1=>r vs H1 Q
theorem tH(hc:jM X (.builtin id) r)(hg:Gl X x)(hm:X.mg x=none)(hv:bootBuiltins x=some (.builtin id))(ha:PA X (e ::es) t)(hn:x≠"__name__":=by decide)(pY:(x==("__debug__":Str))=false:=by decide)
 (he:starEach (e ::es) X.env=(false,eval e X.env) ::starEach es X.env:=by rfl) (j5:(backTo pos (starEach es X.env)).any (·.1)=false:=by rfl):PE X (.Call (.Name x p) (e ::es) [] pos) (Nx r t):=by
 intro pins s σ H Q I h;refine wpAny_Call_Name_kw (fQ I hg hm hv ?_ hn pY);exact PyProof.Rows.callWith_builtin1 (dc (ha pos pins s σ H _ I h) fun us s1 ⟨vs,H1,I1,r1,q1⟩=>hc pins s1 σ H1 vs us Q I1 r1 q1) he j5
theorem yV(hc:jM X (.type T) r)(hg:Gl X x)(hm:X.mg x=none)(hv:bootBuiltins x=some (.type T))(ha:PA X (e ::es) t)(hn:x≠"__name__":=by decide)(pY:(x==("__debug__":Str))=false:=by decide)
 (he:starEach (e ::es) X.env=(false,eval e X.env) ::starEach es X.env:=by rfl) (j5:(backTo pos (starEach es X.env)).any (·.1)=false:=by rfl):PE X (.Call (.Name x p) (e ::es) [] pos) (Nx r t):=by
 intro pins s σ H Q I h;refine wpAny_Call_Name_kw (fQ I hg hm hv ?_ hn pY);exact PyProof.Rows.callWith_type1 (dc (ha pos pins s σ H _ I h) fun us s1 ⟨vs,H1,I1,r1,q1⟩=>hc pins s1 σ H1 vs us Q I1 r1 q1) he j5
end
section
variable {κ:Type} [DecidableEq κ]
def eY(kvs:List (κ × V))(k:κ):Option V:=(kvs.find? fun kv=>decide (kv.1=k)).map (·.2)
def putK(kvs:List (κ × V))(k:κ)(v:V):List (κ × V):=
 if(kvs.any fun kv=>decide (kv.1=k))=true then kvs.map (fun kv=>if kv.1=k then(kv.1,v) else kv) else kvs++[(k,v)]
def AM(kvs:List (κ × V))(k:κ):List (κ × V):=kvs.filter fun kv=>decide (kv.1≠k)
theorem oX{p:κ × V}{r:List (κ × V)}{k:κ}(e:p.1=k):eY (p ::r) k=some p.2:=by simp [eY,List.find?_cons,e]
theorem pq{p:κ × V}{r:List (κ × V)}{k:κ}(e:¬p.1=k):eY (p ::r) k=eY r k:=by simp [eY,List.find?_cons,e]
theorem uU(k:κ):∀kvs:List (κ × V),(kvs.any fun kv=>decide (kv.1=k))=(eY kvs k).isSome
 | []=>rfl
 | p ::r=>by
   rw[List.any_cons];by_cases e:p.1=k
   .simp only[oX e,decide_eq_true e,Bool.true_or,Option.isSome_some]
   .rw [pq e,decide_eq_false e,Bool.false_or];exact uU k r
theorem jN(kvs:List (κ × V))(k:κ)(v:V):(putK kvs k v).length<=kvs.length+1:=by
 unfold putK;split
 .rw [List.length_map];omega
 .rw [List.length_append,List.length_cons,List.length_nil];omega
theorem mG.il{o:Option V}{u:Option Value}(r:mG o u):o.isSome=u.isSome:=by
 cases o with
 | none=>cases u with
   | none=>rfl
   | some _=>exact(show False from r).elim
 | some _=>cases u with
   | none=>exact(show False from r).elim
   | some _=>rfl
theorem mG.getD{o:Option V}{u:Option Value}{d:V}{d':Value}(r:mG o u)(rd:RelV d d'):RelV (o.getD d) (u.getD d'):=by
 cases o with
 | none=>cases u with
   | none=>exact rd
   | some _=>exact(show False from r).elim
 | some _=>cases u with
   | none=>exact(show False from r).elim
   | some _=>exact r
theorem KV.val{kvs:List (κ × V)}{vs:List (κ × Value)}(r:KV kvs vs)(k:κ):mG (eY kvs k) (valueAt vs k):=by
 unfold KV at r
 induction r with
 | nil=>exact True.intro
 | @cons p q ps qs h t ih=>
   obtain⟨h1,h2⟩:=h;by_cases e:p.1=k
   .have e':q.1=k:=h1.symm.trans e;have b:valueAt (q ::qs) k=some q.2:=by simp [valueAt,List.find?_cons,e']
    rw[oX e,b];exact h2
   .have e':¬q.1=k:=fun z=>e (h1.trans z)
    have b:valueAt (q ::qs) k=valueAt qs k:=by simp [valueAt,List.find?_cons,e']
    rw[pq e,b];exact ih
theorem KV.any{kvs:List (κ × V)}{vs:List (κ × Value)}(r:KV kvs vs)(k:κ):(kvs.any fun kv=>decide (kv.1=k))=vs.any fun kv=>decide (kv.1=k):=by
 unfold KV at r
 induction r with
 | nil=>rfl
 | cons h t ih=>rw [List.any_cons,List.any_cons,ih,h.1]
theorem KV.Ge{kvs:List (κ × V)}{vs:List (κ × Value)}(r:KV kvs vs)(k:κ){y:V}{u:Value}(ry:RelV y u) :
 KV (kvs.map fun kv=>if kv.1=k then(kv.1,y) else kv) (vs.map fun kv=>if kv.1=k then(kv.1,u) else kv):=by
 unfold KV at r ⊢
 induction r with
 | nil=>exact .nil
 | @cons p q ps qs h t ih=>
   rw[List.map_cons,List.map_cons];refine .cons ?_ ih;obtain⟨h1,h2⟩:=h;by_cases e:p.1=k
   .rw [if_pos e,if_pos (h1.symm.trans e)];exact⟨h1,ry⟩
   .rw [if_neg e,if_neg (fun z=>e (h1.trans z))];exact⟨h1,h2⟩
theorem KV.put{kvs:List (κ × V)}{vs:List (κ × Value)}(r:KV kvs vs)(k:κ){y:V}{u:Value}(ry:RelV y u):KV (putK kvs k y) (stored vs k u):=by
 unfold putK stored;rw[r.any k];by_cases e:(vs.any fun kv=>decide (kv.1=k))=true
 .rw [if_pos e,if_pos e];exact r.Ge k ry
 .rw [if_neg e,if_neg e];exact Paired.snoc r ⟨rfl,ry⟩
theorem KV.length{kvs:List (κ × V)}{vs:List (κ × Value)}(r:KV kvs vs):kvs.length=vs.length:=Paired.length r
end
theorem oJ{k:Key}{u:Value}(r:RelV (kV k) u):(cj P w).is k u=true:=by
 cases k with
 | inl i=>obtain⟨t,e⟩:=(show ∃t,u=Value.int i t from r);subst e;exact uG P w i t
 | inr x=>obtain⟨t,e⟩:=(show ∃t,u=Value.str x t from r);subst e;exact ub P w x t
theorem m4:∀{ks:List Key} {us:List Value},Vals (ks.map kV) us->ItemsAre (cj P w) ks us
 | [],_,r=>by rw[List.map_nil] at r;cases r;exact .nil
 | k ::ks,_,r=>by
   rw[List.map_cons] at r;cases r with
   | cons h t=>exact .cons (oJ h) (m4 t)
abbrev KT(H:Hp):List (List Key × V)->List (List Key × Addr × Value)->Prop:=Paired fun p q=>p.1=q.1/\H q.2.1=some (.tup (p.1.map kV))/\RelV p.2 q.2.2
theorem KT.val{kvs:List (List Key × V)}{xs:List (List Key × Addr × Value)}(r:KT H kvs xs)(k:List Key):mG (eY kvs k) ((atKey xs k).map (·.2)):=by
 induction r with
 | nil=>exact True.intro
 | @cons p q ps qs h t ih=>
   obtain⟨h1,_,h2⟩:=h;by_cases e:p.1=k
   .have e':q.1=k:=h1.symm.trans e;have b:atKey (q ::qs) k=some q.2:=by simp [atKey,List.find?_cons,e']
    rw[oX e,b];exact h2
   .have e':¬q.1=k:=fun z=>e (h1.trans z)
    have b:atKey (q ::qs) k=atKey qs k:=by simp [atKey,List.find?_cons,e']
    rw[pq e,b];exact ih
theorem KT.Ge{kvs:List (List Key × V)}{xs:List (List Key × Addr × Value)}(r:KT H kvs xs)(k:List Key){y:V}{u:Value}(ry:RelV y u) :
 KT H (kvs.map fun kv=>if kv.1=k then(kv.1,y) else kv) (xs.map (putAt k u)):=by
 induction r with
 | nil=>exact .nil
 | @cons p q ps qs h t ih=>
   rw[List.map_cons,List.map_cons];refine .cons ?_ ih;obtain⟨h1,h2,h3⟩:=h;unfold putAt;by_cases e:p.1=k
   .rw [if_pos e,if_pos (h1.symm.trans e)];exact⟨h1,h2,ry⟩
   .rw [if_neg e,if_neg (fun z=>e (h1.trans z))];exact⟨h1,h2,h3⟩
theorem KT.put{H:Hp}{kvs:List (List Key × V)}{xs:List (List Key × Addr × Value)}(r:KT H kvs xs)(k:List Key){b:Addr}{y:V}{u:Value}(hb:H b=some (.tup (k.map kV)))(ry:RelV y u) :
 KT H (putK kvs k y) (storedH xs k b u):=by
 have e:(kvs.any fun kv=>decide (kv.1=k))=(atKey xs k).isSome:=by
  rw[uU,(r.val k).il,Option.isSome_map]
 unfold putK storedH;rw[e];by_cases q:(atKey xs k).isSome=true
 .rw [if_pos q,if_pos q];exact r.Ge k ry
 .rw [if_neg q,if_neg q];exact Paired.snoc r ⟨rfl,hb,ry⟩
theorem KT.keeps{H H':Hp}{kvs:List (List Key × V)}{xs:List (List Key × Addr × Value)}(r:KT H kvs xs)(ht:∀b ys,H b=some (.tup ys)->H' b=some (.tup ys)):KT H' kvs xs:=
 Paired.Gx r fun _ _ z=>⟨z.1,ht _ _ z.2.1,z.2.2⟩
section
variable {P:Program} {w:World} {H:Hp} {h:Heap} {a:Addr}
theorem EG{u:HO}(ok:kE P w H h)(e:Rd H a u):cB P w H h a u:=e.ok ok
theorem o5{kvs:List (Key × V)}(ok:kE P w H h)(e:Rd H a (.dK kvs)):kvs.length<=sizeLine/\(a==sysModules)=false/\∃vs,KV kvs vs/\h.DictOf (cj P w) a vs:=
 show cB P w H h a (.dK kvs) from EG ok e
theorem Ew{kvs:List (Key × V)}(ok:kE P w H h)(e:H a=some (.dK kvs)):kvs.length<=sizeLine/\(a==sysModules)=false/\∃vs,KV kvs vs/\h.DictOf (cj P w) a vs:=o5 ok (.inl e)
theorem mW{ks:List Key}(ok:kE P w H h)(e:H a=some (.tup (ks.map kV))):(tupleKind (cj P w)).is h ks a:=by
 obtain⟨_,its,r,o,h1,h2,n,h3⟩:=(show cB P w H h a (.tup (ks.map kV)) from ok a _ e)
 exact⟨o,its.toArray,n,h1,h2,h3,by simpa using m4 r⟩
theorem nq{kvs:List (List Key × V)}(ok:kE P w H h)(e:Rd H a (.dT kvs)):kvs.length<=sizeLine/\(a==sysModules)=false/\
 ∃xs,KT H kvs xs/\h.DictOfH (tupleKind (cj P w)) a xs:=by
 obtain⟨z,y,xs,r,o,es,ep,h1,h2,h3,h4,h5⟩:=(show cB P w H h a (.dT kvs) from EG ok e)
 refine⟨z,y,xs,r,o,es,ep,h1,h2,h3,h4,fun x hx=>?_,h5⟩
 have all:∀{l:List (List Key × V)} {m:List (List Key × Addr × Value)},KT H l m->∀x∈m,(tupleKind (cj P w)).is h x.1 x.2.1:=by
  intro l m q
  induction q with
  | nil=>intro x hx;exact nomatch hx
  | @cons p q ps qs hq t ih=>
    intro x hx;rcases List.mem_cons.mp hx with e | hx
    .subst e;exact mW ok (by rw[<-hq.1];exact hq.2.1)
    .exact ih x hx
 exact all r x hx
theorem IB{kvs:List (List Key × V)}(ok:kE P w H h)(e:H a=some (.dT kvs)):kvs.length<=sizeLine/\(a==sysModules)=false/\
 ∃xs,KT H kvs xs/\h.DictOfH (tupleKind (cj P w)) a xs:=nq ok (.inl e)
end
def jw(H:Hp)(a:Addr)(y:V)(r:Option V):Prop:=
 (∃kvs k,Rd H a (.dK kvs)/\y=kV k/\r=eY kvs k)\/∃kvs k b,Rd H a (.dT kvs)/\y= .ref b/\H b=some (.tup (k.map kV))/\r=eY kvs k
def rX(H:Hp)(a:Addr)(y v:V)(H':Hp):Prop:=
 (∃kvs k,H a=some (.dK kvs)/\y=kV k/\kvs.length < sizeLine/\H'=upd H a (.dK (putK kvs k v)))\/
 ∃kvs k b,H a=some (.dT kvs)/\y= .ref b/\H b=some (.tup (k.map kV))/\kvs.length < sizeLine/\H'=upd H a (.dT (putK kvs k v))
theorem jw.k{H:Hp}{a:Addr}{kvs:List (Key × V)}{k:Key}(e:H a=some (.dK kvs)):jw H a (kV k) (eY kvs k):= .inl ⟨kvs,k, .inl e,rfl,rfl⟩
theorem rX.k{H:Hp}{a:Addr}{kvs:List (Key × V)}{k:Key}{v:V}(e:H a=some (.dK kvs))(hl:kvs.length < sizeLine):rX H a (kV k) v (upd H a (.dK (putK kvs k v))):= .inl ⟨kvs,k,e,rfl,hl,rfl⟩
theorem rX.t{H:Hp}{a b:Addr}{kvs:List (List Key × V)}{k:List Key}{v:V}(e:H a=some (.dT kvs))(eb:H b=some (.tup (k.map kV)))(hl:kvs.length < sizeLine) :
 rX H a (.ref b) v (upd H a (.dT (putK kvs k v))):= .inr ⟨kvs,k,b,e,rfl,eb,hl,rfl⟩
section
variable {X:Cx} {pins:Th} {σ:St} {H:Hp} {s:Shared} {a:Addr} {y v:V} {u r:Value} {o:Option V} {A:Around} {E:Ti}
theorem Inv.big(I:Inv X pins σ H s):sysModules < s.heap.objs.size:=by
 have h:mainGlobals < s.heap.objs.size:=(I.mod.glob.keeps I.bk).lt;exact Nat.lt_trans (by decide) h
theorem yF{Q:Ti}(hu:A.units+1 < cLine)(I:Inv X pins σ H s)(g:jw H a y (some v))(ry:RelV y u)(h:∀w' s',Inv X pins σ H s'->RelV v w'->Q w' s') :
 wpAny (model X.prog X.w) A (getItem (.ref a) u) Q E s:=by
 rcases g with⟨kvs,k,e,ey,l⟩ | ⟨kvs,k,b,e,ey,eb,l⟩
 .subst ey;obtain⟨z,hd,vs,rel,dd⟩:=o5 I.hok e;obtain⟨w',hw,zj⟩:=mG.some_of (v:=v) (o:=valueAt vs k) (by rw[l];exact rel.val k)
  exact wpAny_getItem_of (oJ ry) dd.mapOf hw (h w' _ (I.tok _) zj)
 .subst ey;cases(show u=Value.ref b from ry)
  obtain⟨z,hd,xs,rel,dd⟩:=nq I.hok e;obtain⟨w',hw,zj⟩:=mG.some_of (v:=v) (o:=(atKey xs k).map (·.2)) (by rw[l];exact rel.val k)
  obtain⟨p,hp,Kv⟩:=Option.map_eq_some_iff.mp hw;refine wpAny_getItem_heap (tupleKind_room_in1 hu) (mW I.hok eb) dd hp ?_;rw[Kv];exact h w' _ (I.tok _) zj
theorem KL{Q:Ti}(hu:A.units+1 < cLine)(I:Inv X pins σ H s)(g:jw H a y o)(ry:RelV y u)(h:∀s',Inv X pins σ H s'->Q (.bool o.isSome) s') :
 wpAny (model X.prog X.w) A (compareOp .In u (.ref a)) Q E s:=by
 rcases g with⟨kvs,k,e,ey,l⟩ | ⟨kvs,k,b,e,ey,eb,l⟩
 .subst ey;obtain⟨z,hd,vs,rel,dd⟩:=o5 I.hok e;refine wpAny_in_of (oJ ry) hd dd.mapOf ?_;rw[<-(rel.val k).il,<-l];exact h _ (I.tok _)
 .subst ey;cases(show u=Value.ref b from ry)
  obtain⟨z,hd,xs,rel,dd⟩:=nq I.hok e;refine wpAny_in_heap (tupleKind_room_in1 hu) (mW I.hok eb) hd dd ?_;have q:=(rel.val k).il;rw[Option.isSome_map] at q;rw[<-q,<-l];exact h _ (I.tok _)
theorem CQ{Q:Ti}(hu:A.units+1 < cLine)(I:Inv X pins σ H s)(g:jw H a y o)(ry:RelV y u)(h:∀s',Inv X pins σ H s'->Q (.bool (!o.isSome)) s') :
 wpAny (model X.prog X.w) A (compareOp .NotIn u (.ref a)) Q E s:=by
 rcases g with⟨kvs,k,e,ey,l⟩ | ⟨kvs,k,b,e,ey,eb,l⟩
 .subst ey;obtain⟨z,hd,vs,rel,dd⟩:=o5 I.hok e;refine wpAny_notIn_of (oJ ry) hd dd.mapOf ?_;rw[<-(rel.val k).il,<-l];exact h _ (I.tok _)
 .subst ey;cases(show u=Value.ref b from ry)
  obtain⟨z,hd,xs,rel,dd⟩:=nq I.hok e;refine wpAny_notIn_heap (tupleKind_room_in1 hu) (mW I.hok eb) hd dd ?_;have q:=(rel.val k).il;rw[Option.isSome_map] at q;rw[<-q,<-l];exact h _ (I.tok _)
theorem sk{h':Heap}{t':Nat}{ob:HO}(I:Inv X pins σ H s)(mu:IG (H a))(hs:Heap.SameBut a s.heap h')(he:∃q,h'.get? a=some q)(new:cB X.prog X.w (upd H a ob) h' a ob) :
 Inv X pins σ (upd H a ob) {s with heap:=h',toks:=t'}:=
 I.write (x:=a) (e:=a) mu (.inl rfl) (fun b q hb z=>(hs.2 b hb).trans z) he new
theorem AH{H':Hp}{h':Heap}{kvs:List (Key × V)}{vs:List (Key × Value)}(z:kvs.length<=sizeLine)(hd:(a==sysModules)=false)(rel:KV kvs vs)(dd:h'.DictOf (cj P w) a vs) :
 cB P w H' h' a (.dK kvs):=⟨z,hd,vs,rel,dd⟩
theorem zf{Q:Unit->Shared->Prop}(hu:A.units+1 < cLine)(I:Inv X pins σ H s)(g:rX H a y v H')(ry:RelV y u)(rv:RelV v r)(h:∀s',Inv X pins σ H' s'->Q () s') :
 wpAny (model X.prog X.w) A (setItem (.ref a) u r) Q E s:=by
 rcases g with⟨kvs,k,e,ey,l,eH⟩ | ⟨kvs,k,b,e,ey,eb,l,eH⟩
 .subst ey eH;obtain⟨z,hd,vs,rel,dd⟩:=Ew I.hok e;have hz:vs.length<=sizeLine:=by rw[<-rel.length];exact z
  have hl:(putK kvs k v).length<=sizeLine:=by have:=jN kvs k v;omega
  refine wpAny_setItem_pairs (hsz:=hz) (oJ ry) dd fun h' HL hs=>h _ ?_
  have he:∃q,h'.get? a=some q:=let⟨q,_,_,hq,_⟩:=HL;⟨q,hq⟩
  exact sk I (by rw[e];exact True.intro) hs he (AH hl hd (rel.put k rv) HL)
 .subst ey eH;cases(show u=Value.ref b from ry)
  obtain⟨z,hd,xs,rel,dd⟩:=IB I.hok e;have hz:xs.length<=sizeLine:=by rw[<-Paired.length rel];exact z
  have hl:(putK kvs k v).length<=sizeLine:=by have:=jN kvs k v;omega
  refine wpAny_setItem_heap (hsz:=hz) (tupleKind_room_in1 hu) (mW I.hok eb) dd fun h' HL hs=>h _ ?_
  obtain⟨q,es,ep,hq,h2,h3,h4,_,h5⟩:=HL;refine sk I (by rw[e];exact True.intro) hs ⟨q,hq⟩ ⟨hl,hd,_,(rel.put k eb rv).keeps fun c ys ec=>?_,q,es,ep,hq,h2,h3,h4,h5⟩
  rw[bo (Jc ec e (fun z=>nomatch z))]
  exact ec
end
section
variable {X:Cx} {pins:Th} {σ:St} {H:Hp} {s:Shared} {a:Addr} {kvs:List (Key × V)} {k:Key} {u:Value} {A:Around} {E:Ti}
end
def Fz(i:Expr):Prop:=∀ov iv,subscripted i false ov iv=operate [ov,iv] (getItem ov iv)
theorem D6{prog:Program}{w:World}{A:Around}{E:Ti}{s:Shared}{env:Env}{value slice:Expr}{pos:Pos}{T id:String}{Q:Ti}
 (hl:typeLookup (.type T) "__getitem__"=pure (some (.builtin id))) (hs:Fz slice)
 (h:wpAny (model prog w) A (eval value env) (fun o s₁=>wpAny (model prog w) A (eval slice env) (fun i vb=>vb.TypeIs o T/\wpAny (model prog w) A (getItem o i) Q E vb) E s₁) E s) :
 wpAny (model prog w) A (eval (.Subscript value slice pos) env) Q E s:=by
 refine Subscript_ (wpAny_mono h (fun o s₁ iH=>wpAny_mono iH (fun i vb lQ=>?_) fun _ _ x=>x) fun _ _ x=>x)
 obtain⟨hT,lQ⟩:=lQ;unfold subscriptTail;refine wpAny_bind ?_;rw[getitemInPython_of_ne hT.not_modules];refine wpAny_bind (wpAny_specialOf hT hl ?_);have fin:wpAny (model prog w) A (subscripted slice false o i) (fun r J6=>wpAny (model prog w) A (letTemporaryGo value o r >>=fun _=>pure r) Q E J6) E vb:=by
  rw[hs o i];exact wpAny_operating (wpAny_mono lQ (fun r J6 ML=>wpAny_bind (wpAny_letTemporaryGo (wpAny_pure ML))) fun _ _ x=>x)
 first
  | exact wpAny_pure (wpAny_bind fin)
  | exact wpAny_bind (wpAny_pure (wpAny_bind fin))
  | exact wpAny_bind fin
theorem tY{X:Cx}{pins:Th}{s:Shared}{a:Addr}{y:V}{o:Option V}(I:Inv X pins σ H s)(g:jw H a y o):s.TypeIs (.ref a) "dict":=by
 rcases g with⟨kvs,k,e,_,_⟩ | ⟨kvs,k,b,e,_,_,_⟩
 .obtain⟨_,_,vs,_,dd⟩:=o5 I.hok e;exact dd.typeIs
 .obtain⟨_,_,xs,_,dd⟩:=nq I.hok e;exact dd.typeIs
def Io(td ty:TE):TE:=fun σ H Q=>td σ H fun x H1=>ty σ H1 fun y H2=>∃a v,x= .ref a/\jw H2 a y (some v)/\Q v H2
def P1(ty td:TE):TE:=fun σ H Q=>ty σ H fun y H1=>td σ H1 fun x H2=>∃a o,x= .ref a/\jw H2 a y o/\Q (.bl o.isSome) H2
def Ke(ty td:TE):TE:=fun σ H Q=>ty σ H fun y H1=>td σ H1 fun x H2=>∃a o,x= .ref a/\jw H2 a y o/\Q (.bl (!o.isSome)) H2
def IX(td ty tv:TE):TS:=fun D σ H=>tv σ H fun v H1=>td σ H1 fun x H2=>ty σ H2 fun y H3=>∃a H4,x= .ref a/\rX H3 a y v H4/\D.nx σ H4
def Na(td ty tv:TE)(rd:V->V->Hp->VK->Prop):TS:=fun D σ H=>td σ H fun x H1=>ty σ H1 fun y H2=>∃a v,x= .ref a/\jw H2 a y (some v)/\
 tv σ H2 fun y2 H3=>rd v y2 H3 fun z H4=>∃H5,rX H4 a y z H5/\D.nx σ H5
def NR(td ty:TE):TS:=fun D σ H=>td σ H fun x H1=>ty σ H1 fun y H2=>∃a kvs k,x= .ref a/\H2 a=some (.dK kvs)/\y=kV k/\(eY kvs k).isSome=true/\D.nx σ (upd H2 a (.dK (AM kvs k)))
section
variable {X:Cx} {o i e value:Expr} {pos pos' sP:Pos} {td ty tv:TE}
theorem DL(hu:X.A.units+1 < cLine)(ho:PE X o td)(hi:PE X i ty)(hs:Fz i):PE X (.Subscript o i pos) (Io td ty):=by
 intro pins s σ H Q I h;refine D6 PySem.F.slot_dict_getitem.lookup hs (dc (ho pins s σ H _ I h) fun u s1 ⟨x,H1,I1,rx,q1⟩=>dc (hi pins s1 σ H1 _ I1 q1) fun iv s2 ⟨y,H2,I2,ry,a,v,ex,g,q2⟩=>?_)
 subst ex;obtain rfl:u=Value.ref a:=rx;exact⟨tY I2 g,yF hu I2 g ry fun w' s3 I3 zj=>⟨v,H2,I3,zj,q2⟩⟩
theorem xE(hu:X.A.units+1 < cLine)(ho:PE X o td)(hi:PE X i ty)(hv:PE X value tv)(hs:swapsWith value (some (.Subscript o i pos')) pos.line X.env=pure false) :
 PS X (.Assign [.Subscript o i pos'] value pos) (IX td ty tv):=by
 intro pins s σ H D I h;refine wpAny_Assign_Subscript (dc (hv pins s σ H _ I h) fun r s1 ⟨v,H1,I1,rv,q1⟩=>dc (ho pins s1 σ H1 _ I1 q1) fun u s2 ⟨x,H2,I2,rx,q2⟩=>dc (hi pins s2 σ H2 _ I2 q2) fun iv s3 ⟨y,H3,I3,ry,a,H4,ex,g,q3⟩=>?_) hs
 subst ex;obtain rfl:u=Value.ref a:=rx;exact zf hu I3 g ry rv fun s4 I4=>⟨σ,H4,I4,q3⟩
end
theorem tS(h:Heap)(hb:sysModules < h.objs.size):cB P w H (h.push {cls:= .type "dict",data:= .dict #[]}) h.objs.size (.dK []):=
 ⟨Nat.zero_le _,beq_eq_false_iff_ne.mpr (Ne.symm (Nat.ne_of_lt hb)),[], .nil,Heap.DictOf.new h⟩
theorem Ac(h:Heap)(hb:sysModules < h.objs.size):cB P w H (h.push {cls:= .type "dict",data:= .dict #[]}) h.objs.size (.dT []):=
 ⟨Nat.zero_le _,beq_eq_false_iff_ne.mpr (Ne.symm (Nat.ne_of_lt hb)),[], .nil,_,#[],0,Heap.get?_push_size _ rfl,⟨rfl,rfl,rfl⟩,rfl,rfl,List.nodup_nil⟩
def GK:TE:=fun _ H Q=>∀p,H p=none->Q (.ref p) (upd H p (.dK []))
def GL:TE:=fun _ H Q=>∀p,H p=none->Q (.ref p) (upd H p (.dT []))
section
variable {X:Cx} {pos:Pos}
theorem Ax:PE X (.Dict [] [] pos) GK:=fun pins s σ H Q I h=>
 wpAny_Dict_empty ⟨.ref s.heap.objs.size,_,I.laid (a:=s.heap.objs.size) (o:= .dK []) (t':=s.toks) (fun _ _ q=>Heap.get?_push_of_some _ q) (Nat.le_refl _) (tS s.heap I.big),rfl,h _ (I.hok.fresh (Nat.le_refl _))⟩
theorem AA:PE X (.Dict [] [] pos) GL:=fun pins s σ H Q I h=>
 wpAny_Dict_empty ⟨.ref s.heap.objs.size,_,I.laid (a:=s.heap.objs.size) (o:= .dT []) (t':=s.toks) (fun _ _ q=>Heap.get?_push_of_some _ q) (Nat.le_refl _) (Ac s.heap I.big),rfl,h _ (I.hok.fresh (Nat.le_refl _))⟩
end
def mQ:List (TE × TE)->St->Hp->(List (V × V)->Hp->Prop)->Prop
 | [],_,H,Q=>Q [] H
 | (tk,tv) ::r,σ,H,Q=>tk σ H fun x H1=>tv σ H1 fun y H2=>mQ r σ H2 fun ps H3=>Q ((x,y) ::ps) H3
abbrev VV:List (V × V)->List (Value × Value)->Prop:=Paired fun p q=>RelV p.1 q.1/\RelV p.2 q.2
def Fx(X:Cx)(pos:Pos)(keys:List (Option Expr))(values:List Expr)(rj:List (TE × TE)):Prop:=
 ∀(pins:Th) (s:Shared) (σ:St) (H:Hp) (Q:List (V × V)->Hp->Prop),Inv X pins σ H s->mQ rj σ H Q->
  wpAny (model X.prog X.w) X.A (evalPairs (pairTrees keys values X.env pos)) (fun vs s'=>∃ps H',Inv X pins σ H' s'/\VV ps vs/\Q ps H') X.xe s
theorem xK{X:Cx}:Fx X pos [] [] []:=fun pins s σ H Q I h=>pairTrees_nil_walk ⟨[],H,I, .nil,h⟩
theorem mq{X:Cx}{ks:List (Option Expr)}{tk tv:TE}{rj:List (TE × TE)}(hk:PE X k tk)(hv:PE X v tv)(hr:Fx X pos ks vs rj) :
 Fx X pos (some k ::ks) (v ::vs) ((tk,tv) ::rj):=fun pins s σ H Q I h=>
 pairTrees_cons_walk (dc (hk pins s σ H _ I h) fun u s1 ⟨x,H1,I1,rx,q1⟩=>dc (hv pins s1 σ H1 _ I1 q1) fun w2 s2 ⟨y,H2,I2,ry,q2⟩=>
  dc (hr pins s2 σ H2 _ I2 q2) fun ws s3 ⟨ps,H3,I3,rel,q3⟩=>⟨(x,y) ::ps,H3,I3, .cons ⟨rx,ry⟩ rel,q3⟩)
def iZ(kvs more:List (Key × V)):List (Key × V):=more.foldl (fun acc kv=>putK acc kv.1 kv.2) kvs
theorem KV.merge:∀{more:List (Key × V)} {rs:List (Key × Value)} {kvs:List (Key × V)} {vs:List (Key × Value)},KV more rs->KV kvs vs->KV (iZ kvs more) (merged vs rs):=by
 intro more rs kvs vs r;unfold KV at r
 induction r generalizing kvs vs with
 | nil=>intro q;exact q
 | @cons p q ps qs h t ih=>
   intro r0;have e:KV (putK kvs p.1 p.2) (stored vs q.1 q.2):=by
    have:=r0.put p.1 h.2;rw[<-h.1];exact this
   exact ih e
theorem kU:∀(more kvs:List (Key × V)),(iZ kvs more).length<=kvs.length+more.length
 | [],kvs=>by show kvs.length<=kvs.length+0;omega
 | p ::r,kvs=>by
   have h1:=kU r (putK kvs p.1 p.2);have h2:=jN kvs p.1 p.2;show(iZ (putK kvs p.1 p.2) r).length<=_;rw[List.length_cons];omega
theorem oz:∀{kvs:List (Key × V)} {ws:List (Value × Value)},VV (kvs.map fun kv=>(kV kv.1,kv.2)) ws->∃rs,Carries (cj P w) ws rs/\KV kvs rs
 | [],_,r=>by rw[List.map_nil] at r;cases r;exact⟨[],True.intro, .nil⟩
 | p ::kvs,_,r=>by
   rw[List.map_cons] at r;cases r with
   | @cons a b as bs h t=>
     obtain⟨rs,c,q⟩:=oz (P:=P) (w:=w) t;obtain⟨b1,b2⟩:=b;exact⟨(p.1,b2) ::rs,⟨oJ h.1,rfl,c⟩, .cons ⟨rfl,h.2⟩ q⟩
def zR(rj:List (TE × TE)):TE:=fun σ H Q=>∀p,H p=none->mQ rj σ (upd H p (.dK [])) fun ps H2=>H2 p=some (.dK [])/\∃kvs:List (Key × V),ps=kvs.map (fun kv=>(kV kv.1,kv.2))/\kvs.length<=15/\Q (.ref p) (upd H2 p (.dK (iZ [] kvs)))
theorem DZ{X:Cx}{pos:Pos}{keys:List (Option Expr)}{values:List Expr}{rj:List (TE × TE)}(h:Fx X pos keys values rj)(zk:keys.all (·.isSome)=true)(hl:keys.length=values.length)(h0:keys≠[])
 (RO:keys.length<=15):PE X (.Dict keys values pos) (zR rj):=by
 intro pins s σ H Q I q;have hn:=I.hok.fresh (Nat.le_refl s.heap.objs.size);have I1:=I.laid (a:=s.heap.objs.size) (o:= .dK []) (h':=s.heap.push {cls:= .type "dict",data:= .dict #[]}) (t':=s.toks) (fun _ _ q=>Heap.get?_push_of_some _ q) (Nat.le_refl _) (tS s.heap I.big)
 refine wpAny_Dict_walk (knd:=cj X.prog X.w) zk hl h0 RO (dc (h pins _ σ _ _ I1 (q _ hn)) fun ws s2 ⟨ps,H2,I2,rel,e,kvs,ep,lk,q2⟩=>?_)
 subst ep;obtain⟨rs,c,rk⟩:=oz (P:=X.prog) (w:=X.w) rel;obtain⟨z,hd,S_,r0,dd⟩:=Ew I2.hok e;cases r0;refine⟨rs,c,dd,fun h' HL hs=>⟨.ref s.heap.objs.size,_,?_,rfl,q2⟩⟩
 have hz:(iZ [] kvs).length<=sizeLine:=by
  have h1:=kU kvs [];rw[List.length_nil] at h1;rw[sizeLine_eq];omega
 have he:∃q,h'.get? s.heap.objs.size=some q:=let⟨q,_,_,hq,_⟩:=HL;⟨q,hq⟩
 exact sk I2 (by rw[e];exact True.intro) hs he (AH hz hd (rk.merge .nil) HL)
structure M1 (X:Cx) (o:Expr) (m:Str) (apos:Pos) (e:Expr) (bL:Pos):Prop where
 base:attributeBase o m X.env (eval o X.env)=eval o X.env
 Kg:((backTo bL (starEach [e] X.env)).all (fun x=>!x.1) && (backToKw bL (keywordEach [] X.env)).all (fun x=>x.1.isSome)
  && decide (([e]:List Expr).length+([]:List Keyword).length+(if([]:List Keyword).isEmpty then 0 else 1) < 30))=true
 line:(apos.endLine==bL.line)=true
 trees:backTo bL (starEach [e] X.env)=[(false,eval e X.env)]
structure M2 (X:Cx) (o:Expr) (m:Str) (apos:Pos) (e f:Expr) (bL:Pos):Prop where
 base:attributeBase o m X.env (eval o X.env)=eval o X.env
 Kg:((backTo bL (starEach [e,f] X.env)).all (fun x=>!x.1) && (backToKw bL (keywordEach [] X.env)).all (fun x=>x.1.isSome)
  && decide (([e,f]:List Expr).length+([]:List Keyword).length+(if([]:List Keyword).isEmpty then 0 else 1) < 30))=true
 line:(apos.endLine==bL.line)=true
 trees:backTo bL (starEach [e,f] X.env)=[(false,eval e X.env),(false,eval f X.env)]
def HY(H:Hp)(a:Addr):Prop:=(∃kvs,Rd H a (.dK kvs))\/∃kvs,Rd H a (.dT kvs)
theorem zB{X:Cx}{pins:Th}{s:Shared}{a:Addr}(I:Inv X pins σ H s)(d:HY H a) :
 s.TypeIs (.ref a) "dict"/\(∀b,Value.ref a= .ref b->∃ob,s.heap.get? b=some ob/\ob.dict=none)/\(a==sysModules)=false:=by
 rcases d with⟨kvs,e⟩ | ⟨kvs,e⟩
 .obtain⟨_,hd,vs,_,dd⟩:=o5 I.hok e;refine⟨dd.typeIs,fun b q=>?_,hd⟩
  cases q;obtain⟨ob,_,_,h1,h2,_⟩:=dd;exact⟨ob,h1,h2.2.1⟩
 .obtain⟨_,hd,xs,_,dd⟩:=nq I.hok e;refine⟨dd.typeIs,fun b q=>?_,hd⟩
  cases q;obtain⟨ob,_,_,h1,h2,_⟩:=dd;exact⟨ob,h1,h2.2.1⟩
section
variable {X:Cx} {pins:Th} {σ:St} {H:Hp} {s:Shared} {a:Addr} {y d:V} {u r:Value} {o:Option V} {A:Around} {E:Ti}
theorem GJ{Q:Ti}(hu:A.units+1 < cLine)(I:Inv X pins σ H s)(g:jw H a y o)(ry:RelV y u)(rd:RelV d r)(h:∀w' s',Inv X pins σ H s'->RelV (o.getD d) w'->Q w' s') :
 wpAny (model X.prog X.w) A (call (.builtin "dict.get") [.ref a,u,r]) Q E s:=by
 rcases g with⟨kvs,k,e,ey,l⟩ | ⟨kvs,k,b,e,ey,eb,l⟩
 .subst ey;obtain⟨z,hd,vs,rel,dd⟩:=o5 I.hok e;refine call_meetsIn PySem.F.slot_dict_get dd.typeIs PySem.F.entry_dict_get (PySem.F.args_dict_get_3 _ _ _) (meets_dict_get_default (cj X.prog X.w) a (oJ ry) hd r) ⟨_,dd.mapOf,h _ _ (I.tok _) ?_⟩;rw[l];exact(rel.val k).getD rd
 .subst ey;cases(show u=Value.ref b from ry)
  obtain⟨z,hd,xs,rel,dd⟩:=nq I.hok e;refine call_meetsIn PySem.F.slot_dict_get dd.typeIs PySem.F.entry_dict_get (PySem.F.args_dict_get_3 _ _ _) (meetsH_dict_get_default (tupleKind (cj X.prog X.w)) a b hd r) ⟨tupleKind_room_in1 hu,k,xs,mW I.hok eb,dd,h _ _ (I.tok _) ?_⟩;rw[l];exact(rel.val k).getD rd
end
def LZ(td ty:TE):TE:=fun σ H Q=>td σ H fun x H1=>∃a,x= .ref a/\HY H1 a/\ty σ H1 fun y H2=>∃o,jw H2 a y o/\Q (o.getD .cu) H2
def GC(td ty tx:TE):TE:=fun σ H Q=>td σ H fun x H1=>∃a,x= .ref a/\HY H1 a/\ty σ H1 fun y H2=>tx σ H2 fun z H3=>∃o,jw H3 a y o/\Q (o.getD z) H3
def L0(td ty:TE):TE:=fun σ H Q=>td σ H fun x H1=>∃a,x= .ref a/\HY H1 a/\ty σ H1 fun y H2=>∃kvs k v,H2 a=some (.dK kvs)/\y=kV k/\eY kvs k=some v/\Q v (upd H2 a (.dK (AM kvs k)))
def Lh(td ty tx:TE):TE:=fun σ H Q=>td σ H fun x H1=>∃a,x= .ref a/\HY H1 a/\ty σ H1 fun y H2=>tx σ H2 fun z H3=>∃kvs k,H3 a=some (.dK kvs)/\y=kV k/\
 (∀v,eY kvs k=some v->Q v (upd H3 a (.dK (AM kvs k))))/\(eY kvs k=none->Q z H3)
section
variable {X:Cx} {o e f:Expr} {apos bL:Pos} {td ty tx:TE}
theorem A5(hu:X.A.units+1 < cLine)(ho:PE X o td)(he:PE X e ty)(hf:PE X f tx)(m:M2 X o "get" apos e f bL):PE X (.Call (.Attribute o "get" apos) [e,f] [] bL) (GC td ty tx):=by
 intro pins s σ H Q I h;refine wpAny_Call_method m.base m.Kg m.line PySem.F.plainAttrs_dict PySem.F.slot_dict_get PySem.F.type_dict_get (dc (ho pins s σ H _ I h) fun u s1 ⟨x,H1,I1,rx,a,ex,d,q1⟩=>?_)
 subst ex;obtain rfl:u=Value.ref a:=rx;obtain⟨t1,t2,_⟩:=zB I1 d;refine⟨t1,t2,?_⟩;rw[m.trees];refine Calls.callWith_builtin rfl (Calls.evalArgs_plain (Calls.spliced_cons (dc (he pins s1 σ H1 _ I1 q1) fun iv s2 ⟨y,H2,I2,ry,q2⟩=>
  Calls.spliced_cons (dc (hf pins s2 σ H2 _ I2 q2) fun fv s3 ⟨z,H3,I3,rz,ov,g,q3⟩=>Calls.spliced_nil ?_))))
 exact GJ hu I3 g ry rz fun w' s4 I4 zj=>⟨_,H3,I4,zj,q3⟩
end
section
variable {X:Cx} {pins:Th} {σ:St} {H:Hp} {s:Shared} {a:Addr} {kvs:List (Key × V)} {A:Around} {E:Ti}
end
section
variable {X:Cx} {pins:Th} {σ:St} {H:Hp} {s:Shared} {a:Addr} {y:V} {u:Value} {A:Around} {E:Ti}
end
end L2
namespace HT
open PySem PyProof.Rows
def lexLt:List Int->List Int->Bool
 | [],[]=>false
 | [],_ ::_=>true
 | _ ::_,[]=>false
 | x ::xs,y ::ys=>if x=y then lexLt xs ys else decide (x < y)
section
open PySem.SeqAt
open PySem.AutoSeq1 (wpAny_loadPart')
open PySem.MeetsSeq PySem.MeetsSeq2 PySem.MeetsSeq3
end
section
variable {prog:Program} {w:World} {A:Around} {E:Ti} {s:Shared}
def m8(n d:Nat):Option Int->Nat
 | none=>d
 | some v=>if v < 0 then(v+(n:Int)).toNat else min v.toNat n
theorem Ad(n d:Nat):m8 n d none=d:=rfl
theorem DO(n d k:Nat):m8 n d (some (k:Int))=min k n:=by
 show(if(k:Int) < 0 then((k:Int)+(n:Int)).toNat else min (k:Int).toNat n)=min k n
 rw[if_neg (by omega),Int.toNat_natCast]
end
end HT
namespace L2
open PySem PySem.Spec PyProof.Rows
abbrev TO:=St->Hp->(Option Int->Hp->Prop)->Prop
def PO(X:Cx)(e:Option Expr)(t:TO):Prop:=
 ∀(pins:Th) (s:Shared) (σ:St) (H:Hp) (Q:Option Int->Hp->Prop),Inv X pins σ H s->t σ H Q->
  wpAny (model X.prog X.w) X.A (evalPart e X.env) (fun u s'=>∃o H',Inv X pins σ H' s'/\IsPart u o/\Q o H') X.xe s
def Dr:TO:=fun _ H Q=>Q none H
def Jr(t:TE):TO:=fun σ H Q=>t σ H fun x H1=>∃i,x= .int i/\Q (some i) H1
section
variable {X:Cx} {e:Expr} {te:TE} {lo hi:Option Expr} {tl th:TO} {pos p2:Pos}
theorem DD:PO X none Dr:=by
 intro pins s σ H Q I h;rw[evalPart_none];exact wpAny_pure ⟨none,H,I, .none,h⟩
theorem DN(h:PE X e te):PO X (some e) (Jr te):=by
 intro pins s σ H Q I hw;rw[evalPart_some];refine dc (h pins s σ H _ I hw) fun u s1 ⟨x,H1,I1,r1,q1⟩=>?_
 obtain⟨i,rfl,q⟩:=q1;obtain⟨t,rfl⟩:=r1;exact⟨some i,H1,I1, .int i t,q⟩
def FW(X:Cx)(r:V->Option Int->Option Int->Hp->VK->Prop):Prop:=
 ∀(pins:Th) (s:Shared) (σ:St) (H:Hp) (x:V) (v vl vu:Value) (lo hi:Option Int) (sl:Addr) (Q:VK),Inv X pins σ H s->RelV x v->s.heap.IsSliceOf sl vl vu .none->IsPart vl lo->IsPart vu hi->r x lo hi H Q->
  ∃T id,typeLookup (.type T) "__getitem__"=pure (some (.builtin id))/\s.TypeIs v T/\wpAny (model X.prog X.w) X.A (getItem v (.ref sl)) (EP X pins σ Q) X.xe s
theorem FW.or{r r':V->Option Int->Option Int->Hp->VK->Prop}(h:FW X r)(h':FW X r'):FW X (fun x lo hi H Q=>r x lo hi H Q\/r' x lo hi H Q):=by
 intro pins s σ H x v vl vu lo hi sl Q I rx hs pl pu q;rcases q with q | q
 .exact h pins s σ H x v vl vu lo hi sl Q I rx hs pl pu q
 .exact h' pins s σ H x v vl vu lo hi sl Q I rx hs pl pu q
def Pl(r:V->Option Int->Option Int->Hp->VK->Prop)(te:TE)(tl th:TO):TE:=fun σ H Q=>te σ H fun x H1=>tl σ H1 fun l H2=>th σ H2 fun u H3=>r x l u H3 Q
theorem A_{r:V->Option Int->Option Int->Hp->VK->Prop}(hr:FW X r)(he:PE X e te)(hl:PO X lo tl)(hu:PO X hi th):PE X (.Subscript e (.Slice lo hi none p2) pos) (Pl r te tl th):=by
 intro pins s σ H Q I h;refine Subscript_ (dc (he pins s σ H _ I h) fun v s1 ⟨x,H1,I1,r1,q1⟩=>?_)
 refine wpAny_Slice (dc (hl pins s1 σ H1 _ I1 q1) fun vl s2 ⟨l,H2,I2,pl,q2⟩=>dc (hu pins s2 σ H2 _ I2 q2) fun vu s3 ⟨u,H3,I3,pu,q3⟩=>?_)
 rw[evalPart_none];refine wpAny_pure ?_;have I4:Inv X pins σ H3 {s3 with heap:=s3.heap.push {cls:= .type "slice",data:= .fields #[vl,vu, .none]}}:=I3.kept (t':=s3.toks) fun b ob q=>Heap.get?_push_of_some _ q
 obtain⟨T,id,hT,ht,hg⟩:=hr pins {s3 with heap:=s3.heap.push {cls:= .type "slice",data:= .fields #[vl,vu, .none]}} σ H3 x v vl vu l u s3.heap.objs.size Q I4 r1 (Heap.IsSliceOf.new ..) pl pu q3
 show wpAny (model X.prog X.w) X.A (subscriptTail e (.Slice lo hi none p2) v (.ref s3.heap.objs.size)) (EP X pins σ Q) X.xe {s3 with heap:=s3.heap.push {cls:= .type "slice",data:= .fields #[vl,vu, .none]}}
 exact tail_any (ops:=[.ref s3.heap.objs.size,v]) ht hT hg (by with_unfolding_all rfl)
def vV(xs:List V)(lo hi:Option Int):List V:=(xs.drop (HT.m8 xs.length 0 lo)).take (HT.m8 xs.length xs.length hi - HT.m8 xs.length 0 lo)
theorem t9(xs:List V)(lo hi:Option Int):(vV xs lo hi).length<=xs.length:=by
 unfold vV;rw[List.length_take,List.length_drop];omega
def Q9(K:W.Frag):V->Option Int->Option Int->Hp->VK->Prop:=fun x lo hi H Q=>∃a xs,x= .ref a/\l6 K H a xs/\
 ¬(HT.m8 xs.length 0 lo=0/\HT.m8 xs.length xs.length hi=xs.length)/\∀p,H p=none->Q (.ref p) (upd H p (.tup (vV xs lo hi)))
def Qk(K:W.Frag):R2:=fun x y H Q=>∃a b ns ms,x= .ref a/\y= .ref b/\l6 K H a (ns.map V.int)/\l6 K H b (ms.map V.int)/\Q (.bl (HT.lexLt ns ms)) H
def N0(K:W.Frag):R2:=fun x y H Q=>∃a b xs ys,x= .ref a/\y= .ref b/\l6 K H a xs/\l6 K H b ys/\xs≠[]/\xs.length+ys.length<=sizeLine/\
 (ys=[]->Q (.ref a) H)/\(ys≠[]->∀p,H p=none->Q (.ref p) (upd H p (.tup (xs++ys))))
end
def BY(n:Nat)(i:Int):Option Nat:=if 0<=i then(if i < n then some i.toNat else none) else if -(n:Int)<=i then some (i+n).toNat else none
def uy{α:Type}(xs:List α)(i:Int):Option α:=(BY xs.length i).bind fun j=>xs[j]?
theorem DY{n:Nat}{i:Int}{j:Nat}(h:BY n i=some j):seqIndex? i n=some j/\j < n/\ -(n:Int)<=i/\i < n:=by
 unfold BY at h;by_cases h0:0<=i
 .rw [if_pos h0] at h;by_cases h1:i < n
  .rw [if_pos h1] at h;have e:i.toNat=j:=Option.some.inj h;exact⟨by rw[seqIndex_of h0 h1,e],by omega,by omega,h1⟩
  .rw [if_neg h1] at h;cases h
 .rw [if_neg h0] at h;by_cases h1: -(n:Int)<=i
  .rw [if_pos h1] at h;have e:(i+n).toNat=j:=Option.some.inj h;exact⟨by rw[seqIndex_neg (by omega) h1,e],by omega,h1,by omega⟩
  .rw [if_neg h1] at h;cases h
theorem rP{α:Type}{xs:List α}{i:Int}{v:α}(h:uy xs i=some v):∃j,seqIndex? i xs.length=some j/\xs[j]? =some v/\j < xs.length/\ -(xs.length:Int)<=i/\i < xs.length:=by
 unfold uy at h;cases e:BY xs.length i with
 | none=>rw [e] at h;cases h
 | some j=>
   rw[e] at h;obtain⟨h1,h2,h3,h4⟩:=DY e;exact⟨j,h1,h,h2,h3,h4⟩
def si(b:Expr):Prop:=∀o i,subscripted b false o i=operate [o,i] (getItem o i)
def Dq(X:Cx)(r:R2):Prop:=
 ∀(value slice:Expr) (pins:Th) (s:Shared) (σ:St) (H:Hp) (x y:V) (v u:Value) (Q:VK),Inv X pins σ H s->RelV x v->RelV y u->r x y H Q->
  subscripted slice false v u=operate [v,u] (getItem v u)->wpAny (model X.prog X.w) X.A (subscriptTail value slice v u) (EP X pins σ Q) X.xe s
def Nv(X:Cx)(id:String)(r:V->List V->Hp->VK->Prop):Prop:=
 ∀(pins:Th) (s:Shared) (σ:St) (H:Hp) (x:V) (xs:List V) (v:Value) (us:List Value) (Q:VK),Inv X pins σ H s->RelV x v->Vals xs us->r x xs H Q->
  wpAny (model X.prog X.w) X.A (call (.builtin id) (v ::us)) (EP X pins σ Q) X.xe s
section
variable {X:Cx} {a b:Expr} {ta tb:TE} {pos:Pos}
theorem Dq.or{r r':R2}(h:Dq X r)(h':Dq X r'):Dq X (fun x y H Q=>r x y H Q\/r' x y H Q):=by
 intro value slice pins s σ H x y v u Q I rx ry q hs;rcases q with q | q
 .exact h value slice pins s σ H x y v u Q I rx ry q hs
 .exact h' value slice pins s σ H x y v u Q I rx ry q hs
theorem Jx{r:R2}(hr:Dq X r)(ha:PE X a ta)(hb:PE X b tb)(hs:si b):PE X (.Subscript a b pos) (Ic r ta tb):=by
 intro pins s σ H Q I h;exact Subscript_ (Hc ha hb I h fun v u s2 x y H2 I2 rx ry q=>hr a b pins s2 σ H2 x y v u Q I2 rx ry q (hs _ _))
def Jh(K:W.Frag):R2:=fun x y H Q=>∃p xs i v,x= .ref p/\y= .int i/\lD K H p xs/\uy xs i=some v/\Q v H
def IJ(K:W.Frag):R2:=fun x y H Q=>∃p xs i v,x= .ref p/\y= .int i/\l6 K H p xs/\uy xs i=some v/\Q v H
def JG:R2:=fun x y H Q=>∃z i c,x= .str z/\y= .int i/\z.length<=sizeLine/\uy z.cps.toList i=some c/\Q (.str ⟨#[c]⟩) H
theorem Cz:Dq X (Jh X.K):=by
 intro value slice pins s σ H x y v u Q I rx ry h hs;obtain⟨p,xs,i,z,rfl,rfl,hq,he,q⟩:=h;cases rx;obtain⟨t,rfl⟩:=ry;obtain⟨its,r,pl,hz⟩:=I.list hq;obtain⟨j,h1,h2,h3,h4,h5⟩:=rP he;obtain⟨w,ew,zj⟩:=r.get h2;have hl:=r.length;have hn:=oK;have fin:EP X pins σ Q w s:=⟨z,H,I,zj,q⟩;by_cases h0:0<=i
 .have hj:i.toNat=j:=by
   rw[seqIndex_of h0 h5] at h1;exact Option.some.inj h1
  exact item_listR pl.isList h0 (by omega) (by rw[hj];simpa using ew) fin hs
 .have hj:(i+(its.toArray.size:Int)).toNat=j:=by
   rw[seqIndex_neg (by omega) h4] at h1
   rw[List.size_toArray,<-hl];exact Option.some.inj h1
  exact subscriptTail_builtinR (x:=w) pl.isList.typeIs slot_list_getitem.lookup
   (wpAny_getItem_list_neg (Q:=fun r s'=>r=w/\EP X pins σ Q r s') pl.isList (by omega) (by rw[List.size_toArray] <;> omega) (by omega) (by rw[hj];simpa using ew) ⟨rfl,fin⟩) hs
theorem Ff:Dq X (IJ X.K):=by
 intro value slice pins s σ H x y v u Q I rx ry h hs;obtain⟨p,xs,i,z,rfl,rfl,hq,he,q⟩:=h;cases rx;obtain⟨t,rfl⟩:=ry;obtain⟨its,r,pl,hz⟩:=I.tuple hq;obtain⟨j,h1,h2,h3,h4,h5⟩:=rP he;obtain⟨w,ew,zj⟩:=r.get h2;have hl:=r.length;have hn:=oK;have fin:EP X pins σ Q w s:=⟨z,H,I,zj,q⟩;exact subscriptTail_builtinR (x:=w) pl.typeIs slot_tuple_getitem.lookup
  (getItem_tuple (j:=j) (Q:=fun r s'=>r=w/\EP X pins σ Q r s') pl (by omega) (by omega) (by rw[List.size_toArray,<-hl];exact h1) (by simpa using ew) ⟨rfl,fin⟩) hs
theorem Fy:Dq X JG:=by
 intro value slice pins s σ H x y v u Q I rx ry h hs;obtain⟨z,i,c,rfl,rfl,hz,he,q⟩:=h;obtain⟨t,rfl⟩:=rx;obtain⟨t',rfl⟩:=ry;obtain⟨j,h1,h2,h3,h4,h5⟩:=rP he;have hl:z.cps.toList.length=z.length:=by simp [Str.length]
 rw[hl] at h1 h4 h5;have hn:=oK;exact tail_any (typeIs_str s z t) slot_str_getitem.lookup (getItem_str (c:=c) (by
  have e1:decide (i < -(2 ^ 63:Int))=false:=decide_eq_false (by omega)
  have e2:decide (i>=2 ^ 63)=false:=decide_eq_false (by omega)
  rw[e1,e2,Bool.or_false]) (by rw[h1];simpa using h2) ⟨.str ⟨#[c]⟩,H,I.tok _,⟨_,rfl⟩,q⟩) hs
def MM(K:W.Frag):R2:=fun x y H Q=>Jh K x y H Q\/IJ K x y H Q\/JG x y H Q
theorem GN:Dq X (MM X.K):=Cz.or (Ff.or Fy)
def M9:V->V->V->Hp->(Hp->Prop)->Prop:=fun o i v H Q=>∃p xs k j,o= .ref p/\i= .int k/\H p=some (.lst xs)/\BY xs.length k=some j/\Q (upd H p (.lst (xs.set j v)))
theorem rF(lo hi:Option Int)(n:Nat):(sliceBounds lo hi none n).1=((HT.m8 n 0 lo:Nat):Int)/\(sliceBounds lo hi none n).2.1=((HT.m8 n n hi:Nat):Int)/\(sliceBounds lo hi none n).2.2=1:=by
 refine⟨?_,?_,rfl⟩
 .cases lo with
  | none=>simp [sliceBounds,HT.m8]
  | some i=>
    simp only[sliceBounds,HT.m8,Option.getD_none,show(1:Int) > 0 by decide,if_true]
    by_cases h:i < 0
    .simp only[h,if_true] <;> omega
    .simp only[h,if_false] <;> omega
 .cases hi with
  | none=>simp [sliceBounds,HT.m8]
  | some i=>
    simp only[sliceBounds,HT.m8,Option.getD_none,show(1:Int) > 0 by decide,if_true]
    by_cases h:i < 0
    .simp only[h,if_true] <;> omega
    .simp only[h,if_false] <;> omega
theorem qp(its:List Value)(lo hi:Option Int):slicePick its.toArray lo hi none=((its.drop (HT.m8 its.length 0 lo)).take (HT.m8 its.length its.length hi - HT.m8 its.length 0 lo)).toArray:=by
 obtain⟨h1,h2,h3⟩:=rF lo hi its.toArray.size;unfold slicePick;rw[h1,h2,h3];simp only[sliceRange_one,pick_run,List.size_toArray] <;> rfl
def L5(K:W.Frag):V->Option Int->Option Int->Hp->VK->Prop:=fun x lo hi H Q=>∃a xs,x= .ref a/\lD K H a xs/\∀p,H p=none->Q (.ref p) (upd H p (.lst (vV xs lo hi)))
theorem C5:FW X (L5 X.K):=by
 intro pins s σ H x v vl vu lo hi sl Q I rx hs pl pu h;obtain⟨a,xs,rfl,hx,q⟩:=h;cases rx;obtain⟨its,r,ht,hz⟩:=I.list hx;have hlen:=r.length;refine⟨"list",_,slot_list_getitem.lookup,ht.isList.typeIs,?_⟩;refine wpAny_getItem_list_slice ht.isList hs pl pu .none (by simp) ?_ (by rw[List.size_toArray] <;> omega)
 rw[qp,<-hlen];refine⟨.ref s.heap.objs.size,_,I.laid (t':=s.toks) (o:= .lst (vV xs lo hi)) (fun b ob q=>Heap.get?_push_of_some _ q) (Nat.le_refl _) ?_,rfl,q _ (I.hok.fresh (Nat.le_refl _))⟩
 exact⟨Nat.le_trans (t9 xs lo hi) hz,_,0,(r.drop (HT.m8 xs.length 0 lo)).take (HT.m8 xs.length xs.length hi - HT.m8 xs.length 0 lo),Heap.get?_push_size _ rfl⟩
def jg:V->Bool
 | .cu=>true
 | .bl _=>true
 | .int _=>true
 | .str _=>true
 | _=>false
def EA:V->V->Bool
 | .cu, .cu=>true
 | .bl a, .bl b=>a==b
 | .bl a, .int b=>(if a then 1 else 0)==b
 | .int a, .bl b=>a==(if b then 1 else 0)
 | .int a, .int b=>a==b
 | .str a, .str b=>a==b
 | _,_=>false
theorem Hg{s:Shared}{y x:V}{u v:Value}(ry:RelV y u)(rx:RelV x v)(fy:jg y=true)(fx:jg x=true):SeqAt.EqAt A s u v (EA y x):=by
 cases y with
 | cu=>
   cases ry;cases x with
   | cu=>cases rx;exact SeqAt.EqAt.same _
   | bl b=>cases rx;exact SeqAt.EqAt.none_bool b
   | int b=>obtain⟨t,rfl⟩:=rx;exact SeqAt.EqAt.none_int b t
   | str b=>obtain⟨t,rfl⟩:=rx;exact SeqAt.EqAt.none_str b t
   | _=>exact absurd (show false=true from fx) Bool.false_ne_true
 | bl a=>
   cases ry;cases x with
   | cu=>cases rx;exact SeqAt.EqAt.bool_none a
   | bl b=>cases rx;exact SeqAt.EqAt.bool_bool a b
   | int b=>obtain⟨t,rfl⟩:=rx;exact SeqAt.EqAt.bool_int a b t
   | str b=>obtain⟨t,rfl⟩:=rx;exact SeqAt.EqAt.bool_str a b t
   | _=>exact absurd (show false=true from fx) Bool.false_ne_true
 | int a=>
   obtain⟨t',rfl⟩:=ry;cases x with
   | cu=>cases rx;exact SeqAt.EqAt.int_none a t'
   | bl b=>cases rx;exact SeqAt.EqAt.int_bool a t' b
   | int b=>obtain⟨t,rfl⟩:=rx;exact SeqAt.EqAt.int_int a t' b t
   | str b=>obtain⟨t,rfl⟩:=rx;exact SeqAt.EqAt.int_str a t' b t
   | _=>exact absurd (show false=true from fx) Bool.false_ne_true
 | str a=>
   obtain⟨t',rfl⟩:=ry;cases x with
   | cu=>cases rx;exact SeqAt.EqAt.str_none a t'
   | bl b=>cases rx;exact SeqAt.EqAt.str_bool a t' b
   | int b=>obtain⟨t,rfl⟩:=rx;exact SeqAt.EqAt.str_int a t' b t
   | str b=>obtain⟨t,rfl⟩:=rx;exact SeqAt.EqAt.str_str a t' b t
   | _=>exact absurd (show false=true from fx) Bool.false_ne_true
 | _=>exact absurd (show false=true from fy) Bool.false_ne_true
def DJ(x:V)(u:Value):Bool:=match u with
 | .none=>EA .cu x
 | .bool b=>EA (.bl b) x
 | .int i _=>EA (.int i) x
 | .str z _=>EA (.str z) x
 | _=>false
theorem Aq{x y:V}{u:Value}(r:RelV y u)(f:jg y=true):DJ x u=EA y x:=by
 cases y with
 | cu=>cases r;rfl
 | bl b=>cases r;rfl
 | int i=>obtain⟨t,rfl⟩:=r;rfl
 | str z=>obtain⟨t,rfl⟩:=r;rfl
 | _=>exact absurd (show false=true from f) Bool.false_ne_true
theorem se{x:V}:∀{xs:List V} {us:List Value},Vals xs us->xs.all jg=true->us.any (DJ x)=xs.any fun y=>EA y x
 | _,_, .nil,_=>rfl
 | y ::xs,u ::us, .cons r t,f=>by
   rw[List.all_cons,Bool.and_eq_true] at f;rw[List.any_cons,List.any_cons,Aq r f.1,se t f.2]
theorem pG{s:Shared}{x:V}{v:Value}(rx:RelV x v)(fx:jg x=true):∀{xs:List V} {us:List Value},Vals xs us->xs.all jg=true->∀u∈us,SeqAt.EqAt A s u v (DJ x u)
 | _,_, .nil,_=>fun u hu=>by cases hu
 | y ::xs,u ::us, .cons r t,f=>fun u' hu=>by
   rw[List.all_cons,Bool.and_eq_true] at f;rcases List.mem_cons.mp hu with rfl | hu
   .rw [Aq r f.1];exact Hg r rx f.1 fx
   .exact pG rx fx t f.2 u' hu
def EL(x:V)(xs:List V):Bool:=xs.any fun y=>EA y x
def NQ(K:W.Frag)(neg:Bool):R2:=fun x y H Q=>∃p xs,y= .ref p/\(lD K H p xs\/l6 K H p xs)/\jg x=true/\xs.all jg=true/\Q (.bl (if neg then !EL x xs else EL x xs)) H
theorem sF:lA X (compareOp .NotIn) (NQ X.K true):=by
 intro pins s σ H x y v u Q I rx ry h;obtain⟨p,xs,rfl,hq,fx,fs,q⟩:=h;cases ry;rcases hq with hq | hq
 .obtain⟨its,r,pl,hz⟩:=I.list hq;refine SeqAt.notIn_listAt (DJ x) pl.isList (fun w hw=>pG rx fx r fs w (by simpa using hw)) ⟨.bl _,H,I,rfl,?_⟩
  rw[show its.toArray.any (DJ x)=its.any (DJ x) by simp,se r fs]
  exact q
 .obtain⟨its,r,pl,hz⟩:=I.tuple hq;refine SeqAt.notIn_tupleAt (DJ x) pl (fun w hw=>pG rx fx r fs w (by simpa using hw)) ⟨.bl _,H,I,rfl,?_⟩
  rw[show its.toArray.any (DJ x)=its.any (DJ x) by simp,se r fs]
  exact q
theorem sv:jM X (.type "list") (fun xs H Q=>∃p ys,xs=[.ref p]/\(lD X.K H p ys\/l6 X.K H p ys)/\∀l,H l=none->Q (.ref l) (upd H l (.lst ys))):=by
 intro pins s σ H xs us Q I r h;obtain⟨p,ys,rfl,hq,q⟩:=h;obtain⟨u,rfl,rx⟩:=vals1 r;cases rx;have fin:∀(its:List Value),Vals ys its->ys.length<=sizeLine->∀(h':Heap) (c':Nat),(∀b o',s.heap.get? b=some o'->h'.get? b=some o')->
  h'.get? s.heap.objs.size=some {cls:= .type "list",dict:=none,data:= .seq its.toArray c',slots:=#[]}->EP X pins σ Q (.ref s.heap.objs.size) {s with heap:=h'}:=fun its r' hz h' c' kp e=>
  ⟨.ref s.heap.objs.size,_,I.laid (t':=s.toks) kp (Nat.le_refl _) (show cB X.prog X.w _ h' _ (.lst ys) from⟨hz,its,c',r',e⟩),rfl,q _ (I.hok.fresh (Nat.le_refl _))⟩
 rcases hq with hq | hq
 .obtain⟨its,r',pl,hz⟩:=I.list hq;have hlen:=r'.length;obtain⟨o,ho,hc,n,hd⟩:=pl.isList;exact call_list_seq p (.inl rfl) ho hc hd (fun h' c' kp e=>fin its r' hz h' c' kp e) (by simp only[List.size_toArray] <;> omega)
 .obtain⟨its,r',pl,hz⟩:=I.tuple hq;have hlen:=r'.length;obtain⟨o,ho,hc,n,hd⟩:=pl;exact call_list_seq p (.inr rfl) ho hc hd (fun h' c' kp e=>fin its r' hz h' c' kp e) (by simp only[List.size_toArray] <;> omega)
theorem qk:jM X (.type "tuple") (fun xs H Q=>∃p ys,xs=[.ref p]/\((lD X.K H p ys/\∀l,H l=none->Q (.ref l) (upd H l (.tup ys)))\/(l6 X.K H p ys/\Q (.ref p) H))):=by
 intro pins s σ H xs us Q I r h;obtain⟨p,ys,rfl,h⟩:=h;obtain⟨u,rfl,rx⟩:=vals1 r;cases rx;rcases h with⟨hq,q⟩ | ⟨hq,q⟩
 .obtain⟨its,r',pl,hz⟩:=I.list hq;have hlen:=r'.length;refine call_tuple_list pl.isList (fun h' kp=>?_) (by simp only[List.size_toArray] <;> omega)
  have I1:Inv X pins σ H {s with heap:=h'}:=I.kept (t':=s.toks) kp
  have I2:Inv X pins σ (upd H h'.objs.size (.tup ys)) {s with heap:=h'.push {cls:= .type "tuple",data:= .seq its.toArray}}:=
   I1.laid (t':=s.toks) (fun b o e=>Heap.get?_push_of_some _ e) (Nat.le_refl _) (show cB X.prog X.w _ _ _ (.tup ys) from⟨hz,its,r',IsTup.new _ _⟩)
  exact⟨.ref h'.objs.size,_,I2,rfl,q _ (I1.hok.fresh (Nat.le_refl _))⟩
 .obtain⟨its,r',pl,hz⟩:=I.tuple hq;exact call_tuple_same pl ⟨.ref p,H,I,rfl,q⟩
def Lz(K:W.Frag)(T:String)(x:V)(H:Hp):Prop:=match x with
 | .str _=>T="str"
 | .int _=>T="int"
 | .ref p=>(T="list"/\∃xs,lD K H p xs)\/(T="tuple"/\∃o,K.lookup p=some o/\o.cls= .type "tuple"/\o.dict=none)\/
    (T="dict"/\((∃kvs,H p=some (.dK kvs))\/∃kvs,H p=some (.dT kvs)))\/(T="set"/\∃S n,H p=some (.set S n))
 | _=>False
theorem Hv{pins:Th}{s:Shared}{T:String}{x:V}{v:Value}(I:Inv X pins σ H s)(r:RelV x v)(ty:Lz X.K T x H) :
 s.TypeIs v T/\∀a,v= .ref a->∃ob,s.heap.get? a=some ob/\ob.dict=none:=by
 cases x with
 | str z=>
   obtain⟨t,rfl⟩:=r;cases(show T="str" from ty)
   exact⟨typeIs_str s z t,fun _ e=>nomatch e⟩
 | int i=>
   obtain⟨t,rfl⟩:=r;cases(show T="int" from ty)
   exact⟨typeIs_int s i t,fun _ e=>nomatch e⟩
 | ref p=>
   cases r;rcases ty with⟨rfl,xs,hq⟩ | ⟨rfl,o,hk,hc,hd⟩ | ⟨rfl,hk⟩ | ⟨rfl,S,n,hk⟩
   .obtain⟨its,_,pl,_⟩:=I.list hq;refine⟨pl.isList.typeIs,fun a e=>?_⟩
    cases e;obtain⟨o,n,e,c,hd,_⟩:=pl;exact⟨o,e,hd⟩
   .refine⟨⟨o,I.qX p o hk,hc⟩,fun a e=>?_⟩
    cases e;exact⟨o,I.qX _ o hk,hd⟩
   .have z:∃o,s.heap.get? p=some o/\o.ExactDict:=by
     rcases hk with⟨kvs,hk⟩ | ⟨kvs,hk⟩
     .obtain⟨_,_,_,_,o,_,_,e,ex,_⟩:=I.hok p _ hk;exact⟨o,e,ex⟩
     .obtain⟨_,_,_,_,o,_,_,e,ex,_⟩:=I.hok p _ hk;exact⟨o,e,ex⟩
    obtain⟨o,e,ex⟩:=z;refine⟨⟨o,e,ex.1⟩,fun a e2=>?_⟩
    cases e2;exact⟨o,e,ex.2.1⟩
   .obtain⟨o,_,_,_,e,ex,_⟩:=I.hok p _ hk;refine⟨⟨o,e,ex.1⟩,fun a e2=>?_⟩
    cases e2;exact⟨o,e,ex.2.1⟩
 | _=>exact False.elim ty
def O_(K:W.Frag)(T:String)(r:V->List V->Hp->VK->Prop)(to:TE):TE:=fun σ H Q=>to σ H fun x H1=>Lz K T x H1/\r x [] H1 Q
def Rc(K:W.Frag)(T:String)(r:V->List V->Hp->VK->Prop)(to:TE)(t:TA):TE:=fun σ H Q=>to σ H fun x H1=>Lz K T x H1/\t σ H1 fun xs H2=>r x xs H2 Q
variable {o e:Expr} {es:List Expr} {to:TE} {t:TA} {name:Str} {apos bL:Pos} {T id:String} {r:V->List V->Hp->VK->Prop}
theorem yb(pa:PlainAttrs T)(slot:Slot T name id)(MD:typeOf (.builtin id)=pure (.type "method_descriptor"))(hm:Nv X id r)(ho:PE X o to)(ha:PA X (e ::es) t)
 (gA:attributeBase o name X.env (eval o X.env)=eval o X.env:=by rfl)
 (lK:((backTo bL (starEach (e ::es) X.env)).all (fun x=>!x.1) && (backToKw bL (keywordEach [] X.env)).all (fun x=>x.1.isSome)
   && decide ((e ::es).length+([]:List Keyword).length+(if([]:List Keyword).isEmpty then 0 else 1) < 30))=true:=by rfl)
 (gz:(apos.endLine==bL.line)=true:=by rfl) (hs:starEach (e ::es) X.env=(false,eval e X.env) ::starEach es X.env:=by rfl) (wt:(backTo bL (starEach es X.env)).any (·.1)=false:=by rfl) :
 PE X (.Call (.Attribute o name apos) (e ::es) [] bL) (Rc X.K T r to t):=by
 intro pins s σ H Q I h;refine wpAny_Call_method_late gA lK gz rfl (dc (ho pins s σ H _ I h) fun v s1 ⟨x,H1,I1,r1,ty,q1⟩=>?_)
 obtain⟨h1,h2⟩:=Hv I1 r1 ty;refine⟨T,id,pa,slot,MD,h1,h2,?_⟩;have hA:=ha bL pins s1 σ H1 _ I1 q1;rw[hs] at hA ⊢;refine Calls.callWith_builtin (by show(false || (backTo bL (starEach es X.env)).any (·.1))=false;rw [wt] <;> rfl) (Calls.evalArgs_plain ?_)
 exact dc hA fun us s2 ⟨vs,H2,I2,r2,q2⟩=>hm pins s2 σ H2 x vs v us Q I2 r1 r2 q2
end
def KG(X:Cx)(id:String)(r:V->List V->Hp->VK->Prop):Prop:=
 ∀(pins:Th) (s:Shared) (σ:St) (H:Hp) (x:V) (xs:List V) (v:Value) (us:List Value) (Q:VK),Inv X pins σ H s->RelV x v->Vals xs us->r x xs H Q->
  wpAny (model X.prog X.w) X.A (call (.builtin id) (v ::us)) (EP X pins σ Q) X.xe s
theorem Vals.one:∀{x:V} {us:List Value},Vals [x] us->∃u,us=[u]/\RelV x u
 | _,_, .cons r .nil=>⟨_,rfl,r⟩
theorem Vals.rep{xs:List V}{us:List Value}(h:Vals xs us):∀k:Nat,Vals (List.replicate k xs).flatten (List.replicate k us).flatten
 | 0=> .nil
 | k+1=>by
   rw[List.replicate_succ,List.replicate_succ,List.flatten_cons,List.flatten_cons];exact Vals.append h (Vals.rep h k)
theorem foldl_rep(its:List Value):∀(k:Nat) (acc:List Value),
 List.foldl (fun x1 x2=>x1++x2) acc.toArray (List.replicate k its.toArray)=(acc++(List.replicate k its).flatten).toArray
 | 0,acc=>by simp
 | k+1,acc=>by
   have e:acc.toArray++its.toArray=(acc++its).toArray:=by simp
   have e2:(acc++its)++(List.replicate k its).flatten=acc++(List.replicate (k+1) its).flatten:=by
    rw[List.replicate_succ,List.flatten_cons,List.append_assoc]
   rw[<-e2,<-foldl_rep its k (acc++its),<-e,List.replicate_succ,List.foldl_cons]
section
variable {X:Cx} {pins:Th} {σ:St} {H:Hp} {s:Shared} {l b:Addr} {xs ys zs:List V}
theorem Inv.Ck{its its':List Value}{n:Nat}{f:Array Value->Array Value}{t':Nat}(I:Inv X pins σ H s)(hH:H l=some (.lst xs))
 (e:s.heap.get? l=some {cls:= .type "list",data:= .seq its.toArray n}) (hf:f its.toArray=its'.toArray) (hv:Vals ys its') (hz:ys.length<=sizeLine) :
 Inv X pins σ (upd H l (.lst ys)) {s with heap:=s.heap.update l (Obj.mapSeq f),toks:=t'}:=by
 have q:=PySem.IsL.update e f;rw[hf] at q;refine I.write (x:=l) (e:=l) (by rw[hH];exact trivial) (.inl rfl) (fun b' u hb hu=>(Heap.get?_update_other s.heap (Obj.mapSeq f) (Ne.symm hb)).trans hu) ⟨_,q⟩ ?_
 exact⟨hz,its',_,hv,q⟩
theorem Inv.CN{its:List Value}{t':Nat}(I:Inv X pins σ H s)(hv:Vals ys its)(hz:ys.length<=sizeLine) :
 Inv X pins σ (upd H s.heap.objs.size (.lst ys)) {s with heap:=s.heap.push {cls:= .type "list",data:= .seq its.toArray},toks:=t'}:=
 I.laid (fun _ _ q=>Heap.get?_push_of_some _ q) (Nat.le_refl _) ⟨hz,its,0,hv,Heap.get?_push_size _ rfl⟩
theorem Inv.fresh(I:Inv X pins σ H s):H s.heap.objs.size=none:=I.hok.fresh (Nat.le_refl _)
theorem Inv.Ai(I:Inv X pins σ H s)(hH:H l=some (.lst xs)):xs.length<=sizeLine/\∃(its:List Value) (n:Nat),Vals xs its/\xs.length=its.length/\s.heap.get? l=some {cls:= .type "list",data:= .seq its.toArray n}:=by
 obtain⟨z,its,n,r,e⟩:=I.hok l _ hH;exact⟨z,its,n,r,r.length,e⟩
theorem px{n:Nat}(h:n<=sizeLine):Builtin.List.listTooLong n=false:=by
 unfold Builtin.List.listTooLong;exact decide_eq_false (by omega)
end
section
variable {X:Cx}
def DP:V->List V->Hp->VK->Prop:=fun x vs H Q=>∃l xs y,x= .ref l/\vs=[y]/\H l=some (.lst xs)/\xs.length < sizeLine/\Q .cu (upd H l (.lst (xs++[y])))
theorem qV:KG X "list.append" DP:=by
 intro pins s σ H x vs v us Q I rx rv h;obtain⟨l,xs,y,rfl,rfl,hH,hz,q⟩:=h;cases rx;obtain⟨u,rfl,ru⟩:=rv.one;obtain⟨z,its,n,r,hl,e⟩:=I.Ai hH;refine call_meets F.slot_list_append ⟨_,e,rfl⟩ F.entry_list_append (F.args_list_append_2 _ _) (PySem.list_append l its.toArray n u (by rw[List.size_toArray];omega)) ⟨e,?_⟩
 refine⟨.cu,_,I.Ck (its':=its++[u]) hH e (by simp) (r.append (.cons ru .nil)) ?_,rfl,q⟩
 rw[List.length_append,List.length_singleton];omega
def C8:V->List V->Hp->VK->Prop:=fun x vs H Q=>∃l b xs zs,x= .ref l/\vs=[.ref b]/\H l=some (.lst xs)/\H b=some (.lst zs)/\xs.length+zs.length<=sizeLine/\Q .cu (upd H l (.lst (xs++zs)))
theorem yy:KG X "list.extend" C8:=by
 intro pins s σ H x vs v us Q I rx rv h;obtain⟨l,b,xs,zs,rfl,rfl,hH,hB,hz,q⟩:=h;cases rx;obtain⟨u,rfl,ru⟩:=rv.one;cases ru;obtain⟨z,its,n,r,hl,e⟩:=I.Ai hH;obtain⟨z2,lN,n2,r2,HN,e2⟩:=I.Ai hB;have hsz:its.toArray.size+lN.toArray.size<=sizeLine:=by rw[List.size_toArray,List.size_toArray];omega
 have hlong:¬(!its.toArray.isEmpty && Builtin.List.listTooLong (its.toArray.size+lN.toArray.size))=true:=by
  rw[px hsz,Bool.and_false];exact Bool.false_ne_true
 refine call_meets F.slot_list_extend ⟨_,e,rfl⟩ F.entry_list_extend (F.args_list_extend_2 _ _)
  (AutoSeq1.list_extend_list_list_0 l its.toArray n b lN.toArray n2 hlong (by rw[List.size_toArray];omega) (by omega)) ⟨e,e2,?_⟩
 refine⟨.cu,_,I.Ck (its':=its++lN) hH e (by simp) (r.append r2) ?_,rfl,q⟩
 rw[List.length_append];omega
def Qx:V->List V->Hp->VK->Prop:=fun x vs H Q=>∃l xs y,x= .ref l/\vs=[]/\H l=some (.lst xs)/\xs[xs.length - 1]? =some y/\Q y (upd H l (.lst xs.dropLast))
def LC:V->List V->Hp->VK->Prop:=fun x vs H Q=>∃l xs i k y,x= .ref l/\vs=[.int i]/\H l=some (.lst xs)/\ -(2 ^ 63)<=i/\i < 2 ^ 63/\seqIndex? i xs.length=some k/\xs[k]? =some y/\Q y (upd H l (.lst (xs.eraseIdx k)))
def IT:V->List V->Hp->VK->Prop:=fun x vs H Q=>∃l xs,x= .ref l/\vs=[]/\H l=some (.lst xs)/\Q .cu (upd H l (.lst xs.reverse))
def Lv:V->List V->Hp->VK->Prop:=fun x vs H Q=>∃l xs,x= .ref l/\vs=[]/\H l=some (.lst xs)/\Q .cu (upd H l (.lst []))
def PL:R2:=fun x y H Q=>∃l b xs zs,x= .ref l/\y= .ref b/\H l=some (.lst xs)/\H b=some (.lst zs)/\xs.length+zs.length<=sizeLine/\∀p,H p=none->Q (.ref p) (upd H p (.lst (xs++zs)))
def KO:R2:=fun x y H Q=>∃l k xs,x= .ref l/\y= .int k/\H l=some (.lst xs)/\ -(2 ^ 63)<=k/\k < 2 ^ 63/\xs.length*k.toNat<=sizeLine/\
 ∀p,H p=none->Q (.ref p) (upd H p (.lst (List.replicate k.toNat xs).flatten))
theorem len_rep{α:Type}(xs:List α)(k:Nat):(List.replicate k xs).flatten.length=k*xs.length:=by
 induction k with
 | zero=>simp
 | succ k ih=>rw [List.replicate_succ,List.flatten_cons,List.length_append,ih,Nat.succ_mul,Nat.add_comm]
theorem Gh:lA X (binaryOp .Mult) KO:=by
 intro pins s σ H x y v u Q I rx ry h;obtain⟨l,k,xs,rfl,rfl,hH,h1,h2,hz,q⟩:=h;cases rx;obtain⟨t,rfl⟩:=ry;obtain⟨z,its,n,r,hl,e⟩:=I.Ai hH;have hlen:its.toArray.size*k.toNat<=sizeLine:=by rw[List.size_toArray,<-hl];exact hz
 have hcap:¬its.toArray.size*k.toNat > (2 ^ 63 - 1) / 8:=by
  have:(sizeLine:Nat)<=(2 ^ 63 - 1) / 8:=by decide
  omega
 have hfit:¬(!Builtin.List.listFitsIndex k)=true:=by
  rw[fitsIndex_both h1 h2];exact Bool.false_ne_true
 have hlong:¬Builtin.List.listTooLong (its.toArray.size*k.toNat)=true:=by
  rw[px hlen];exact Bool.false_ne_true
 have hnew:List.foldl (fun x1 x2=>x1++x2) #[] (List.replicate (if its.toArray.isEmpty=true then 0 else k.toNat) its.toArray)=(List.replicate k.toNat its).flatten.toArray:=by
  have f0:∀m:Nat,List.foldl (fun x1 x2=>x1++x2) #[] (List.replicate m its.toArray)=(List.replicate m its).flatten.toArray:=fun m=>by
   have:=foldl_rep its m [];rw[List.nil_append] at this;exact this
  rw[f0];cases its with
  | nil=>simp
  | cons a r'=>rw [if_neg (by simp)]
 refine wpAny_binaryOp_repeat_ref (T:="list") (U:="int") (by decide) ⟨_,e,rfl⟩ (fun s'=>typeIs_int s' k t) noFill_list_mul F.fills_int_mul F.slot_int_rmul repeat_list F.slot_int_index.lookup
  (call_meets F.slot_int_rmul (typeIs_int s k t) F.entry_int_rmul (F.args_int_rmul_2 _ _) (int___rmul___int_list k t l its.toArray n)
    ⟨e,rfl,⟨_,e,rfl⟩,call_meets F.slot_list_mul ⟨_,e,rfl⟩ F.entry_list_mul (F.args_list_mul_2 _ _) (AutoListH.list___mul___list_int_3 l its.toArray n k t hfit hcap hlong) ⟨e,?_⟩⟩)
 rw[hnew];exact⟨.ref _,_,I.CN (t':=s.toks) (r.rep k.toNat) (by rw[len_rep,Nat.mul_comm];exact hz),rfl,q _ I.fresh⟩
end
section
variable {prog:Program} {w:World} {A:Around} {E:Ti} {s:Shared}
set_option maxRecDepth 100000 in
end
section
variable {X:Cx}
end
end L2
namespace Att
open PySem PySem.W PySem.Calls PyProof.Rows
theorem nG{P:Params}:∀(ns:List Int) (vs:List Value),WellAll P h vs (ns.map WData.int)->IntsAre vs ns:=by
 intro ns
 induction ns with
 | nil=>
   intro vs w;rw[List.map_nil] at w;cases w;exact .nil
 | cons n ns ih=>
   intro vs w;rw[List.map_cons] at w;cases w with
   | cons a b=>
     cases a;exact .cons _ _ (ih _ b)
theorem yW{l:OpenLaw}{n:Nat}(hn:l.most=some n){P:Params}{h:Heap}{args:List WData}{vals:List Value}
 (Eh:l.row.toRowW.claim.pre args=true) (J5:WellAll P h vals args) :
 ∃a vs ns,vals=[Value.ref a]/\args=[WData.list (ns.map WData.int)]/\h.get? a=some {cls:= .type "list",data:= .seq vs.toArray}/\IntsAre vs ns/\ns.length<=n:=by
 have hsh:WShape.hasAll [] args [.list .int]=true:=(pre_splitW Eh).1;have hc:l.pre.holds [] {args:=args}=true:=(pre_splitW Eh).2;obtain⟨d,r,rfl,h1,h2⟩:=hasAllW_cons hsh;obtain rfl:=hasAllW_nil h2;obtain⟨xs,rfl,h3⟩:=hasW_list h1;obtain⟨ns,rfl⟩:=items_int h3;have hlen:ns.length<=n:=by
  unfold OpenLaw.pre at hc;have h4:(WTm.not (.lt (.lit (.int (n:Int))) (.len (.arg 0)))).holds [] {args:=[.list (ns.map .int)]}=true:=by
   have h4:=(holds_andW hc).1;rw[hn] at h4;exact h4
  have h5:=condW_of h4 (w_not (w_lt w_lit (w_len_list (w_arg rfl))));rw[List.length_map] at h5;refine Nat.le_of_not_lt fun q=>?_
  have q':(n:Int) < ((ns.length:Nat):Int):=by omega
  first
   | (rw [decide_eq_true q'] at h5;exact absurd h5 (by decide))
   | (simp at h5;omega)
 cases J5 with
 | cons w1 w2=>
   cases w2;cases w1 with
   | list ho zk=>exact⟨_,_,ns,rfl,rfl,ho,nG ns _ zk,hlen⟩
theorem zg(l:OpenLaw)(args:List WData):l.row.toRowW.claim.post args (.bool true) args=true:=
 postW_of (r:=l.row.toRowW) (X:=(true==true))
  (show WShape.has [] (.bool true) .bool=true by first | rfl | decide | simp [WShape.has,WShape.arms,WShape.armsAll])
  (show(WTm.eq .res (.lit (.bool true))).value [] {args:=args,res:=some (.bool true),after:=args}=some (.bool (true==true)) from w_eq_bool (w_res rfl) w_lit) rfl
theorem tW{l:OpenLaw}{n:Nat}{q:Program}{loose:List Str}{XP:(Str->Option Value)->Heap->Prop}{YP:World->Heap->Prop}{d:DefRec}
 (hn:l.most=some n) (Ml:d.params.defaults=[])
 (call:∀(w:World) (s₀ s₁:Shared) (mg mb:Tq) (fa:Addr) (o:Obj) (pm cd doc:Value) (a:Addr) (vs:List Value) (ns:List Int),
   Ground q loose [] XP w s₀ mg mb s₁.heap->YP w s₁.heap->
   s₁.heap.get? fa=some o->o.data= .func (docDef d.name d.params d.body d.scope pm cd doc)->s₁.heap.CodeRec cd d.name->mg d.name=some (.ref fa)->
   s₁.heap.get? a=some {cls:= .type "list",data:= .seq vs.toArray}->IntsAre vs ns->ns.length<=n->s₁.gens=#[]->
   codeAny (model l.prog w) callerA (.call (.ref fa) ⟨[.ref a],[]⟩) (fun r s'=>r= .ok (.ret (.bool true))/\OldK s₁.heap s'.heap/\s'.os=s₁.os/\AllBare s'.gens) s₁) :
 WalkO q loose XP YP l.row.toRowW d [] (fun f vs=>PySem.call f vs):=by
 intro w s₀ s₁ mg mb G Y fa o pm cd doc dV kV ho hd nR hD J3 hg args vals as Eh hlay hrd J5 hlo;obtain rfl:dV= .none:=Dflts.none hD Ml;obtain rfl:kV= .none:=Dflts.noKw hD;obtain⟨a,vs,ns,rfl,rfl,HI,hints,hlen⟩:=yW hn Eh J5;refine enter_call (codeAny_mono (call w s₀ s₁ mg mb fa o pm cd doc a vs ns G Y ho (fd_plain hd) nR J3 HI hints hlen hg) fun r s' hq=>?_)
 obtain⟨rfl,h2,h3,h4⟩:=hq;exact⟨.inl ⟨.bool true, .bool true,[],rfl,fun _=>rfl, .bool true,zg l _,fun _=>⟨List.Pairwise.nil,fun _ hm=>(nomatch hm)⟩⟩,h2,h3,h4⟩
section
variable {prog:Program} {w:World} {A:Around} {E:Ti} {s:Shared} {K:Frag}
def LV(h:Heap):Heap:={h with objs:=#[]}
def ledger(h:Heap)(L d:Addr):Th:=(List.range h.objs.size).filterMap fun a=>if a=L\/a=d then none else(h.get? a).map fun o=>(a,o)
end
end Att
namespace L2
open PySem PySem.Spec PyProof.Rows
theorem rf:∀{vs:List Value} {ns:List Int},IntsAre vs ns->Vals (ns.map V.int) vs
 | _,_, .nil=> .nil
 | _,_, .cons n t h=> .cons ⟨t,rfl⟩ (rf h)
def JJ(H:Hp):Prop:=∀b,H b=none\/∃o xs,H b=some (.ft o (.lst xs))
abbrev f9{K:W.Frag}{h:Heap}(_:K.In h):W.Frag:=K
def inClass(s:Stmt)(j:Nat):Stmt:=match s with
 | .ClassDef _ _ _ body _ _ _ _ _ _ _=>body.getD j (.Pass ⟨0,0,0,0⟩)
 | _=> .Pass ⟨0,0,0,0⟩
def iX(s:Stmt):Arguments:=match s with
 | .FunctionDef _ a _ _ _ _ _ _ _ _=>a
 | _=>{posonlyargs:=[],args:=[],vararg:=none,kwonlyargs:=[],kw_defaults:=[],kwarg:=none,defaults:=[]}
def bp(s:Stmt):List Stmt:=match s with
 | .FunctionDef _ _ b _ _ _ _ _ _ _=>b
 | _=>[]
def aK(s:Stmt):Scope:=match s with
 | .FunctionDef _ _ _ _ _ _ sc _ _ _=>sc
 | _=>{kind:= .function,names:=[],isGenerator:=false,isCoroutine:=false}
abbrev pZ:zp:=fun _ _ _ _ _ _=>False
abbrev E0:XK:=fun _ _ _=>False
theorem Bp{X:Cx}:Passes pZ X E0:=fun _ _ _ _ _ _ _ h=>h.elim
structure yd (K:W.Frag) (x qual:Str) (st:Stmt) (f:Addr) (fd:FuncData):Prop where
 ex:∃(oc:Value) (od:Option Addr) (kV doc pm:Value) (an:Option Addr) (er ct:Value) (Ca:Array (Option Value)),
  fd=PySem.W.fnOf x qual (iX st) (bp st) (aK st) .none kV doc pm an er ct/\K.lookup f=some ⟨oc,od, .func fd,Ca⟩/\PySem.W.codeIn K er qual=true
 kp:PySem.W.keepIn K (.ref f)=true
section
variable {P:Program} {w:World} {K:W.Frag} {mg:Tq} {base:Heap}
theorem yd.ok{x qual:Str}{st:Stmt}{f:Addr}{fd:FuncData}{N ps:List Str}{k:Nat}{sp:Sp}(F:yd K x qual st f fd)(S:bB N ps (aK st))(len:∀vs H Q E,sp vs H Q E->vs.length=ps.length)
 (fN:∀(er:Value) (A:Around) (outer:List Env) (s:Shared) (H:Hp) (vs:List V) (Q:VK) (E:XK),et k (A.deeper (envOfC qual (aK st) s.heap.objs.size f er))->sp vs H Q E->
   ∃t,r6 (mP pZ P w K mg base N qual (aK st) f er A outer s H E).By (bp st) t/\t {nx:=fun _ H'=>Q .cu H',rt:=Q} (start N vs) H):gH P w K mg base pZ (k+1) f fd ps sp:=by
 obtain⟨oc,od,kV,doc,pm,an,er,ct,Ca,rfl,lk,nR⟩:=F.ex;refine IW lk nR S len fun A outer s H vs Q E hr Ih=>?_
 obtain⟨t,h,q⟩:=fN er A outer s H vs Q E hr Ih;exact⟨t,h.By,q⟩
theorem yd.binds{x qual:Str}{st:Stmt}{f:Addr}{fd:FuncData}{ps:List Str}(F:yd K x qual st f fd)
 (h:∀(kV doc pm:Value) (an:Option Addr) (er ct:Value) (us:List Value),us.length=ps.length->bindArgs (PySem.W.fnOf x qual (iX st) (bp st) (aK st) .none kV doc pm an er ct) ⟨us,[]⟩=pure (ps.zip us)):Binds K fd ps []:=by
 obtain⟨oc,od,kV,doc,pm,an,er,ct,Ca,rfl,lk,nR⟩:=F.ex;exact .all (h kV doc pm an er ct)
theorem GW{x qual:Str}{st:Stmt}{f:Addr}{oc:Value}{od an:Option Addr}{Ca:Array (Option Value)}{kV doc pm er ct:Value}(l:K.lookup f=some ⟨oc,od, .func (PySem.W.fnOf x qual (iX st) (bp st) (aK st) .none kV doc pm an er ct),Ca⟩)
 (c:PySem.W.codeIn K er qual=true) (k:PySem.W.keepIn K (.ref f)=true):yd K x qual st f (PySem.W.fnOf x qual (iX st) (bp st) (aK st) .none kV doc pm an er ct):=⟨⟨oc,od,kV,doc,pm,an,er,ct,Ca,rfl,l,c⟩,k⟩
end
theorem jF{A:Around}{k:Nat}(hr:et k A):A.units+1 < cLine:=Nat.lt_of_le_of_lt (Nat.add_le_add_left (by decide:1<=64) _) hr.units
section
variable {X:Cx}
end
theorem Dh{A B:Prop}(h:B):if false=true then A else B:=by
 rw[if_neg Bool.false_ne_true];exact h
theorem Cy{A B:Prop}(h:A):if true=true then A else B:=by
 rw[if_pos rfl];exact h
def aP(H H':Hp):Prop:=∀b o,H b=some o->H' b=some o
theorem aP.refl(H:Hp):aP H H:=fun _ _ h=>h
theorem aP.trans(a:aP H H1)(b:aP H1 H2):aP H H2:=fun c o h=>b c o (a c o h)
theorem aP.free{H H':Hp}(e:aP H H'){l:Addr}(h:H' l=Option.none):H l=Option.none:=by
 cases q:H l with
 | none=>rfl
 | some o=>
   rw[e l o q] at h;cases h
section
variable {κ:Type} [DecidableEq κ]
end
end L2
end
section
namespace L2
open PySem PySem.Spec PyProof.Rows
def kJ(cells:List (Str × Addr)):List (Str × NameKind)->List (Str × Addr)->List (Str × Addr)
 | [],acc=>acc
 | (n,k) ::r,acc=>kJ cells r (if k==NameKind.free then(n,(cells.lookup n).getD 0) ::acc else acc)
theorem iW{env:Env}:∀(names:List (Str × NameKind)) (acc:List (Str × Addr)),(∀y∈names,y.2= .free->∃c,env.cells.lookup y.1=some c)->
 (forIn names acc fun(x:Str × NameKind) (cs:List (Str × Addr))=>(match x with
   | (name,kind)=>if kind== .free then do let a <-cellOf env name;pure (ForInStep.yield ((name,a) ::cs)) else pure (ForInStep.yield cs):Sem (ForInStep (List (Str × Addr)))))=pure (kJ env.cells names acc)
 | [],acc,_=>by simp [kJ]
 | (n,k) ::r,acc,h=>by
   rw[List.forIn_cons];by_cases hk:k=NameKind.free
   .subst hk;obtain⟨c,hc⟩:=h (n, .free) List.mem_cons_self rfl;have e:cellOf env n=pure c:=by unfold cellOf;rw [hc]
    simp only[beq_self_eq_true,if_true,e,pure_bind,kJ,hc,Option.getD_some];exact iW r _ fun y hy=>h y (List.mem_cons_of_mem _ hy)
   .have hb:(k==NameKind.free)=false:=by simpa using hk
    simp only[hb,Bool.false_eq_true,if_false,pure_bind,kJ];exact iW r _ fun y hy=>h y (List.mem_cons_of_mem _ hy)
theorem jb{env:Env}{scope:Scope}(h:∀y∈scope.names,y.2= .free->∃c,env.cells.lookup y.1=some c):closureFor scope env=pure (kJ env.cells scope.names []):=by
 unfold closureFor;have:=iW (env:=env) scope.names [] h;simp only[bind_pure];exact this
theorem gR{cells:List (Str × Addr)}:∀(names:List (Str × NameKind)) (acc:List (Str × Addr)) {x:Str} {c:Addr},(kJ cells names acc).lookup x=some c->
 acc.lookup x=some c\/((x,NameKind.free)∈names/\c=(cells.lookup x).getD 0)
 | [],acc,x,c,h=> .inl h
 | (n,k) ::r,acc,x,c,h=>by
   rcases gR r _ h with q | ⟨q1,q2⟩
   .by_cases hk:k=NameKind.free
    .subst hk;simp only[beq_self_eq_true,if_true] at q;cases hx:x==n with
     | true=>
       have e:x=n:=by simpa using hx
       subst e;rw[List.lookup_cons,hx] at q;exact .inr ⟨List.mem_cons_self,(Option.some.inj q).symm⟩
     | false=>
       rw[List.lookup_cons,hx] at q;exact .inl q
    .have hb:(k==NameKind.free)=false:=by simpa using hk
     simp only[hb,Bool.false_eq_true,if_false] at q;exact .inl q
   .exact .inr ⟨List.mem_cons_of_mem _ q1,q2⟩
theorem tU{cells:List (Str × Addr)}:∀(names:List (Str × NameKind)) (acc:List (Str × Addr)) {x:Str},((x,NameKind.free)∈names\/∃c,acc.lookup x=some c)->∃c,(kJ cells names acc).lookup x=some c
 | [],acc,x,h=>by
   rcases h with h | h
   .simp at h
   .exact h
 | (n,k) ::r,acc,x,h=>by
   refine tU r _ ?_;rcases h with h | ⟨c,h⟩
   .rcases List.mem_cons.mp h with e | e
    .cases e;exact .inr ⟨(cells.lookup n).getD 0,by simp [List.lookup_cons]⟩
    .exact .inl e
   .by_cases hk:k=NameKind.free
    .subst hk;simp only[beq_self_eq_true,if_true];cases hx:x==n with
     | true=>exact .inr ⟨(cells.lookup n).getD 0,by rw[List.lookup_cons,hx]⟩
     | false=>exact .inr ⟨c,by rw[List.lookup_cons,hx];exact h⟩
    .have hb:(k==NameKind.free)=false:=by simpa using hk
     simp only[hb,Bool.false_eq_true,if_false];exact .inr ⟨c,h⟩
theorem r_:∀(names:List (Str × NameKind)) (n:Nat) (acc:List (Str × Addr)) {x:Str},(x,NameKind.cell) ∉ names->(cellsFrom n names acc).lookup x=acc.lookup x
 | [],_,_,_,_=>rfl
 | (y,k) ::r,n,acc,x,h=>by
   unfold cellsFrom;split
   .rename_i hk;have hk:k= .cell:=by simpa using hk
    subst hk;rw[r_ r _ _ fun z=>h (List.mem_cons_of_mem _ z),List.lookup_cons]
    cases hx:x==y with
    | true=>
      have e:x=y:=by simpa using hx
      subst e;exact absurd List.mem_cons_self h
    | false=>rfl
   .exact r_ r _ _ fun z=>h (List.mem_cons_of_mem _ z)
theorem lz:∀(names:List (Str × NameKind)) (n:Nat) (acc:List (Str × Addr)),cellsFrom n names acc=cellsFrom n names []++acc
 | [],_,_=>rfl
 | (y,k) ::r,n,acc=>by
   unfold cellsFrom;split
   .rw [lz r (n+1) ((y,n) ::acc),lz r (n+1) [(y,n)],List.append_assoc];rfl
   .exact lz r n acc
theorem wb{a b:List (Str × Addr)}{c:Addr}(h:(a++b).lookup x=some c):(x,c)∈a\/b.lookup x=some c:=by
 induction a with
 | nil=>exact .inr h
 | cons y r ih=>
   obtain⟨n,v⟩:=y;rw[List.cons_append,List.lookup_cons] at h;cases hx:x==n with
   | true=>
     rw[hx] at h;have e:x=n:=by simpa using hx
     subst e;cases h;exact .inl List.mem_cons_self
   | false=>
     rw[hx] at h;exact(ih h).imp (List.mem_cons_of_mem _) id
theorem jX{a b:List (Str × Addr)}(h:∃c,b.lookup x=some c):∃c,(a++b).lookup x=some c:=by
 induction a with
 | nil=>exact h
 | cons y r ih=>
   rw[List.cons_append,List.lookup_cons];cases x==y.1 with
   | true=>exact⟨_,rfl⟩
   | false=>exact ih
theorem rW{a b:List (Str × Addr)}{c:Addr}(h:a.lookup x=some c):∃c,(a++b).lookup x=some c:=by
 induction a with
 | nil=>cases h
 | cons y r ih=>
   rw[List.cons_append,List.lookup_cons];rw[List.lookup_cons] at h;cases hx:x==y.1 with
   | true=>exact⟨_,rfl⟩
   | false=>rw [hx] at h;exact ih h
theorem qN{M:Model}{A:Around}{E:Ti}{s:Shared}{scope:Scope}{cl:List (Str × Addr)}{qual:Str}{env:Env}{Q:Env->Shared->Prop}(hQ:∀h',h'.Ns s.heap.objs.size (fun _=>none)->(∀b o,s.heap.get? b=some o->h'.get? b=some o)->CellsOk h' (s.heap.objs.size+1) (cellsFrom (s.heap.objs.size+1) scope.names [])->
 Q (newEnv scope s.heap.objs.size env.globals (cellsFrom (s.heap.objs.size+1) scope.names cl) qual none .none (some env) builtinsNs) {s with heap:=h'}) :
 wpAny M A (newFunctionEnv scope env.globals cl [] qual none .none (some env)) Q E s:=by
 simp only[newFunctionEnv,Option.isSome_some,if_true];refine wpAny_bind (wpAny_alloc ?_);refine wpAny_bind (wpAny_layCells _ (fun name kind cells=>by cases hkc:kind==NameKind.cell <;> simp [hkc]) _ _ _ _ ?_)
 have ok:=cellsFrom_ok scope.names (s.heap.push {cls:= .type "dict",data:= .dict #[]}) (s.heap.objs.size+1) [] ⟨fun _ _ hm=>(nomatch hm),List.Pairwise.nil⟩ (by rw[Heap.size_push];exact Nat.le_refl _)
 rw[Heap.size_push] at ok;rw[show({s with heap:=s.heap.push {cls:= .type "dict",data:= .dict #[]}}:Shared).heap.objs.size=s.heap.objs.size+1 from Heap.size_push ..]
 rw[List.forIn_nil];refine wpAny_bind (wpAny_pure (wpAny_pure ?_));exact hQ _ ((Heap.Ns.new s.heap (.type "dict")).keeps (pushCells_keeps _ _)) (fun b o e=>pushCells_keeps _ _ b o (Heap.get?_push_of_some _ e)) ok
def bx(X:Cx)(scope:Scope)(N':List Str)(fp:List Addr)(s:Shared)(H:Hp):Cx where
 prog:=X.prog
 w:=X.w
 K:=X.K
 mg:=X.mg
 base:=X.base
 A:=X.A
 N:=N'
 s₀:=s
 H₀:=H
 env:=compEnvC scope (cellsFrom (s.heap.objs.size+1) scope.names (kJ X.env.cells scope.names [])) s.heap.objs.size X.env
 outer:=X.stack
 stack:=X.stack
 ex:=fp
 fn:=fun x=>scope.names.lookup x==some .cell
 calm:=X.calm
 pn:=[]
 xe:=fun _ _=>False
structure eF (X:Cx) (scope:Scope) (own:List Str) (kp:List Nat) (kn:List Str):Prop where
 kind:scope.kind= .function
 cel:∀y∈scope.names,y.2= .cell->scope.names.lookup y.1=some .cell
 nd:∀y∈scope.names,y.2= .local->scope.names.lookup y.1=some .local
 free:∀y∈scope.names,y.2= .free->X.env.kindOf y.1=some .cell\/X.env.kindOf y.1=some .free
 frl:∀y∈scope.names,y.2= .free->scope.names.lookup y.1=some .free
 names:kn.length=kp.length
 at_:∀(j i:Nat) (x:Str),kp[j]? =some i->kn[j]? =some x->X.N[i]? =some x
 isfree:∀x∈kn,scope.names.lookup x=some .free
def cO(own:List Str)(kp:List Nat)(σ:St):St:=List.replicate own.length none++kp.map fun i=>(σ[i]?).getD none
section
variable {X:Cx} {scope:Scope} {own:List Str} {kp:List Nat} {kn:List Str}
theorem dw{env:Env}:∀{names:List (Str × NameKind)} {x:Str} {k:NameKind},
 (names.map fun(n,k)=>if(k==NameKind.free && env.scope.kind== .function && env.kindOf n==some .cell) then(n,NameKind.cell) else(n,k)).lookup x=some k->
 names.lookup x=some k\/(k= .cell/\names.lookup x=some .free)
 | [],_,_,h=>by simp at h
 | (n,k) ::r,x,k',h=>by
   have ih:=@dw env r x k';have h:List.lookup x ((if(k==NameKind.free && env.scope.kind== .function && env.kindOf n==some .cell)=true then(n,NameKind.cell) else(n,k)) ::_)=some k':=h
   by_cases hc:(k==NameKind.free && env.scope.kind== .function && env.kindOf n==some .cell)=true
   .rw [if_pos hc] at h;have hkf:k= .free:=by
     simp only[Bool.and_eq_true,beq_iff_eq] at hc;exact hc.1.1
    cases hx:x==n with
    | true=>
      rw[List.lookup_cons,hx] at h;cases h;exact .inr ⟨rfl,by rw[List.lookup_cons,hx,hkf]⟩
    | false=>
      rw[List.lookup_cons,hx] at h;rw[List.lookup_cons,hx];exact ih h
   .rw [if_neg hc] at h;cases hx:x==n with
    | true=>
      rw[List.lookup_cons,hx] at h;rw[List.lookup_cons,hx];exact .inl h
    | false=>
      rw[List.lookup_cons,hx] at h;rw[List.lookup_cons,hx];exact ih h
theorem lH{pins:Th}{s:Shared}(C:eF X scope own kp kn)(I:Inv X pins σ H s):∀y∈scope.names,y.2= .free->∃c,X.env.cells.lookup y.1=some c:=fun y hy hf=>
 I.ok.has y.1 (C.free y hy hf)
theorem BJ{pins:Th}{σ:St}{H:Hp}{s:Shared}{fp:List Addr}{iH:Heap}{tk:Nat}(C:eF X scope own kp kn)(I:Inv X pins σ H s)(hf:∀b∈fp,nJ X pins H b)(hb:∀b∈fp,b < s.heap.objs.size)
 (hn:iH.Ns s.heap.objs.size (fun _=>none)) (hk:∀b o,s.heap.get? b=some o->iH.get? b=some o) (hC:CellsOk iH (s.heap.objs.size+1) (cellsFrom (s.heap.objs.size+1) scope.names [])):Inv (bx X scope (own++kn) fp s H) [] (cO own kp σ) H {s with heap:=iH,toks:=tk}:=by
 have cl:∀x c,(kJ X.env.cells scope.names []).lookup x=some c->X.env.cells.lookup x=some c:=fun x c e=>by
  rcases gR scope.names [] e with q | ⟨q1,q2⟩
  .simp at q
  .obtain⟨c',zu⟩:=lH C I (x, .free) q1 rfl;have zu:X.env.cells.lookup x=some c':=zu;rw[zu] at q2;rw[zu,q2];rfl
 have clA:∀x c,(cellsFrom (s.heap.objs.size+1) scope.names (kJ X.env.cells scope.names [])).lookup x=some c->(x,c)∈cellsFrom (s.heap.objs.size+1) scope.names []\/(kJ X.env.cells scope.names []).lookup x=some c:=fun x c e=>by
  rw[lz] at e;exact wb e
 have old:∀x c,(kJ X.env.cells scope.names []).lookup x=some c->c < s.heap.objs.size:=fun x c e=>by
  obtain⟨v,h⟩:=I.cell x c (cl x c e);exact h.lt
 have new:∀x c,(x,c)∈cellsFrom (s.heap.objs.size+1) scope.names []->s.heap.objs.size<=c:=fun x c e=>Nat.le_of_lt (hC.empty x c e).2
 have clh:∀x,scope.names.lookup x=some .free->∃c,(kJ X.env.cells scope.names []).lookup x=some c:=fun x hx=>tU scope.names [] (.inl (PySem.mem_of_lookup hx))
 refine⟨⟨I.ok.mod,C.kind,I.ok.glob,I.ok.blt,Nat.le_refl _,fun x y c h1 h2=>?inj,fun x hx=>?_,fun x c hn h=>?cab,I.ok.hd,I.ok.frames, .inl rfl,fun b sR=>⟨Nat.ne_of_lt (hb b sR),fun x c e z=>?exf⟩,
  fun b o e=>I.bs b o e,Nat.le_trans I.ok.bsz I.sz,fun b o e sR=>?_,fun b sR hs=>?_,I.stack,I.ya⟩,
  rfl,I.bare,Un.kept hk,⟨_,hn,fun i x v h1 h2 h3=>?_⟩,fun x c e=>?_,I.hok.fresh (Nat.le_refl _),fun x c e=>?frc,fun p hp=>(by cases hp),I.hok.kept hk,?_⟩
 case inj=>
  rcases clA x c h1 with a | a <;> rcases clA y c h2 with b | b
  .exact name_of_addr hC.apart a b
  .exact absurd (Nat.lt_of_lt_of_le (old y c b) (new x c a)) (Nat.lt_irrefl _)
  .exact absurd (Nat.lt_of_lt_of_le (old x c a) (new y c b)) (Nat.lt_irrefl _)
  .exact I.ok.inj x y c (cl x c a) (cl y c b)
 case cab=>
  have hn:(scope.names.lookup x==some .cell)=true:=hn;rcases clA x c h with a | a
  .exact new x c a
  .rcases gR scope.names [] a with q | ⟨q1,q2⟩
   .simp at q
   .have hx:scope.names.lookup x=some .cell:=by simpa using hn
    have h7:scope.names.lookup x=some .free:=C.frl _ q1 rfl;rw[hx] at h7;cases h7
 case exf=>
  rcases clA x c e with a | a
  .subst z;exact absurd (Nat.lt_of_lt_of_le (hb _ sR) (new x _ a)) (Nat.lt_irrefl _)
  .exact(hf b sR).2.2.2.2.1 x c (cl x c a) z
 case frc=>
  rcases clA x c e with a | a
  .exact I.hok.fresh (new x c a)
  .exact I.freeC x c (cl x c a)
 .have hx:(relabel scope X.env).names.lookup x=some .cell\/(relabel scope X.env).names.lookup x=some .free:=hx;show ∃c,(cellsFrom (s.heap.objs.size+1) scope.names (kJ X.env.cells scope.names [])).lookup x=some c;rcases hx with hx | hx
  .rcases dw hx with q | ⟨_,q⟩
   .rw [lz];obtain⟨c,hc⟩:=pK (n:=s.heap.objs.size+1) q;exact rW hc
   .rw [lz];exact jX (clh x q)
  .rcases dw hx with q | ⟨q,_⟩
   .rw [lz];exact jX (clh x q)
   .cases q
 .rcases(hf b sR).2.2.2.1 with z | z
  .exact I.ok.noex b o e z
  .exact absurd (Nat.lt_of_lt_of_le (Heap.lt_size (I.ok.bs b o e).1) z) (Nat.lt_irrefl _)
 .rcases List.mem_cons.mp (I.vt b hs) with z | z
  .exact(hf b sR).2.1 z
  .exact(hf b sR).2.2.1 z
 .-- a kept name
  have h1:(own++kn)[i]? =some x:=h1;have h2:(cO own kp σ)[i]? =some (some v):=h2;unfold cO at h2;by_cases hi:i < own.length
  .rw [List.getElem?_append_left (by simpa using hi),List.getElem?_replicate] at h2
   split at h2 <;> cases h2
  .rw [List.getElem?_append_right (by simpa using hi),List.length_replicate,List.getElem?_map] at h2
   rw[List.getElem?_append_right (by simpa using hi)] at h1
   cases e:kp[i - own.length]? with
   | none=>rw [e] at h2;cases h2
   | some j=>
     rw[e] at h2;have h2:(σ[j]?).getD none=some v:=Option.some.inj h2;have hj:X.N[j]? =some x:=C.at_ _ j x e h1;have Ee:σ[j]? =some (some v):=by
      cases q:σ[j]? with
      | none=>rw [q] at h2;cases h2
      | some y=>rw [q] at h2;exact congrArg some h2
     have hfree:scope.names.lookup x=some .free:=C.isfree x (List.mem_of_getElem? h1);have hkind:=C.free (x, .free) (PySem.mem_of_lookup hfree) rfl;obtain⟨m,hm,hl⟩:=I.loc;obtain⟨u,r,l⟩:=hl j x v hj Ee (hkind.elim (fun q=>Or.inr (Or.inl q)) fun q=>Or.inr (Or.inr q))
     refine⟨u,r, .inr ⟨?_,?_⟩⟩
     .have h3:(relabel scope X.env).names.lookup x=some .local\/(relabel scope X.env).names.lookup x=some .cell\/(relabel scope X.env).names.lookup x=some .free:=h3;rcases h3 with q | q | q
      .rcases dw q with z | ⟨z,_⟩
       .rw [hfree] at z;cases z
       .cases z
      .exact .inl q
      .exact .inr q
     .rcases l with⟨k,_⟩ | ⟨_,c,hc,hcell⟩
      .rcases hkind with q | q
       .rw [show X.env.kindOf x=some .cell from q] at k;cases k
       .rw [show X.env.kindOf x=some .free from q] at k;cases k
      .obtain⟨c',zu⟩:=clh x hfree;have:=cl x c' zu;rw[hc] at this;cases this;obtain⟨o,ho,hd⟩:=hcell;exact⟨c,(r_ _ _ _ fun z=>by have:=C.cel _ z rfl;rw [hfree] at this;cases this).trans zu,o,hk c o ho,hd⟩
 .rcases clA x c e with a | a
  .exact⟨_,(hC.empty x c a).1⟩
  obtain⟨v,o,ho,hd⟩:=I.cell x c (cl x c a);exact⟨v,o,hk c o ho,hd⟩
 .show(cO own kp σ).length=(own++kn).length;unfold cO;rw[List.length_append,List.length_replicate,List.length_map,List.length_append,C.names]
theorem o9{pins:Th}{s s':Shared}{fp:List Addr}{N':List Str}(I:Inv X pins σ H s)(hf:∀b∈fp,nJ X pins H b)(J:Inv (bx X scope N' fp s H) [] cG H' s'):Inv X pins σ H' s':=
 I.Jo (ch:=fp) J.os J.base J.hok J.bare fun b hb=>⟨(hf b hb).2.2.2.1,(hf b hb).2.1,(hf b hb).2.2.2.2.1,(hf b hb).2.2.2.2.2⟩
end
def mU(X:Cx)(ifs:List Expr)(t:TT):Prop:=
 ∀(pins:Th) (s:Shared) (σ:St) (H:Hp) (Q:Bool->Hp->Prop),Inv X pins σ H s->t σ H Q->
  wpAny (model X.prog X.w) X.A (forIn ifs true fun c r=>if r=true then do let ok <-isTrue c X.env (eval c X.env);pure (ForInStep.yield ok) else pure (ForInStep.yield r)) (TP X pins σ Q) X.xe s
def LF:TT:=fun _ H Q=>Q true H
theorem uB{X:Cx}:mU X [] LF:=fun _ _ _ H _ I h=>wpAny_tests_nil ⟨H,I,h⟩
theorem uH{X:Cx}{t:TT}(h:PT X c t):mU X [c] t:=fun pins s σ H Q I hq=>wpAny_tests_one (h pins s σ H Q I hq)
def xN(wi:TI)(g:TG)(tc:TT)(te:TE)(own:List Str)(kp:List Nat):TE:=fun σ H Q=>wi σ H fun J H1=>∀D,H1 D=none->
 ∃W:Nat->Nat->List V->Hp->Prop,(∃m,W 0 m [] (upd H1 D (.lst [])))/\∀i m ys H,W i m ys H->
  (J.stop i H/\Q (.ref D) H)\/(J.go i H/\∀x H',J.yld i H x H'->g x (cO own kp σ) H' fun sS H2=>tc sS H2 fun c H3=>
    if c=true then te sS H3 fun y H4=>H4 D=some (.lst ys)/\ys.length < sizeLine/\∃m',m' < m/\W (i+1) m' (ys++[y]) (upd H4 D (.lst (ys++[y])))
    else ∃m',m' < m/\W (i+1) m' ys H3)
section
variable {X:Cx} {scope:Scope} {own:List Str} {kp:List Nat} {kn:List Str} {tg iter elt:Expr} {ifs:List Expr} {wi:TI} {g:TG} {tc:TT} {te:TE} {pos:Pos}
theorem uF{pins:Th}{σ:St}{H:Hp}{s:Shared}{fp:List Addr}{it D:Addr}{tn:Nat->Heap->Prop}{J:It}{Q:VK}{iH:Heap}{tk:Nat}{R:Result->Shared->Prop}
 (hc:X.calm=true) (C:eF X scope own kp kn) (I:Inv X pins σ H s) (hf:∀b∈fp,nJ X pins H b) (hb:∀b∈fp,b < s.heap.objs.size) (T:Turn X.prog X.w X.K tg J fp it tn)
 (hg:PG (bx X scope (own++kn) fp s H) tg g) (hi:mU (bx X scope (own++kn) fp s H) ifs tc) (he:PE (bx X scope (own++kn) fp s H) elt te)
 (hn:iH.Ns s.heap.objs.size (fun _=>none)) (hk:∀b o,s.heap.get? b=some o->iH.get? b=some o) (hC:CellsOk iH (s.heap.objs.size+1) (cellsFrom (s.heap.objs.size+1) scope.names [])) (st:tn 0 s.heap)
 (W:Nat->Nat->List V->Hp->Prop) (w0:∃m,W 0 m [] H)
 (turn:∀i m ys H,W i m ys H->
   (J.stop i H/\Q (.ref D) H)\/(J.go i H/\∀x H',J.yld i H x H'->g x (cO own kp σ) H' fun sS H2=>tc sS H2 fun c H3=>
     if c=true then te sS H3 fun y H4=>H4 D=some (.lst ys)/\ys.length < sizeLine/\∃m',m' < m/\W (i+1) m' (ys++[y]) (upd H4 D (.lst (ys++[y])))
     else ∃m',m' < m/\W (i+1) m' ys H3))
 (hR:∀H' s' cG,Inv (bx X scope (own++kn) fp s H) [] cG H' s'->Q (.ref D) H'->R (.ok .next) s') :
 codeAny (model X.prog X.w) X.A (.compStart (.ListComp elt [⟨tg,iter,ifs,0⟩] scope pos) 0 (.ref it) (.ref D) (bx X scope (own++kn) fp s H).env) R {s with heap:=iH,toks:=tk}:=by
 have I1:Inv (bx X scope (own++kn) fp s H) [] (cO own kp σ) H {s with heap:=iH,toks:=tk}:=BJ C I hf hb hn hk hC
 have Ol:tn 0 iH:=T.keep _ _ _ st fun b _ o e=>hk b o e
 have fp1:∀{H':Hp} {p:Th},(∀b∈fp,H' b=none)->(∀b∈fp,∀q∈p,q.1≠b)->∀b∈fp,nJ (bx X scope (own++kn) fp s H) p H' b:=fun {H' p} hn hp b sR=>
  ⟨hn b sR,(I1.ok.exf b sR).1,I1.ok.exfs b sR, .inl sR,fun x c e=>(I1.ok.exf b sR).2 x c e,fun q hq=>hp b sR q hq⟩
 obtain⟨m0,w0⟩:=w0;have loop:codeAny (model X.prog X.w) X.A (.compLoop (.ListComp elt [⟨tg,iter,ifs,0⟩] scope pos) 0 (.ref it) (.ref D) (bx X scope (own++kn) fp s H).env) R {s with heap:=iH,toks:=tk}:=by
  refine codeAny_loop rfl (fun n s'=>∃i ys H',Inv (bx X scope (own++kn) fp s H) [] (cO own kp σ) H' s'/\tn i s'.heap/\(∀b∈fp,H' b=none)/\W i n ys H') (fun n s' hI=>?_) m0 ⟨0,[],H,I1,Ol,fun b sR=>(hf b sR).1,w0⟩
  obtain⟨i,ys,H3,I3,Ef,J8,w3⟩:=hI;show wpAny _ _ ((compTurn (.ListComp elt [⟨tg,iter,ifs,0⟩] scope pos) 0 (.ref it) (.ref D) (bx X scope (own++kn) fp s H).env).onRaise (fun x=>do noteFrame x (bx X scope (own++kn) fp s H).env;theTreesLotGoes x)) _ _ s'
  refine wpAny_noted (wpAny_noRaise ?_);rw[compTurn_list];refine wpAny_bind (wpAny_standAt (wpAny_bind ?_));rcases turn i n ys H3 w3 with⟨stop,q⟩ | ⟨go,step⟩
  .refine dc (T.done (bx X scope (own++kn) fp s H) rfl rfl rfl hc i [] s' _ H3 _ I3 (fp1 J8 (fun _ _ q hq=>by cases hq)) Ef stop) fun r s4 ⟨hr,I4⟩=>?_
   subst hr;exact wpAny_pure (hR H3 s4 _ I4 q)
  .refine dc (T.item (bx X scope (own++kn) fp s H) rfl rfl rfl hc i [] s' _ H3 _ I3 (fp1 J8 (fun _ _ q hq=>by cases hq)) Ef go) fun r s4 ⟨u,hr,h4⟩=>?_
   subst hr;refine wpAny_bind (dc h4 fun _ s5 ⟨x,H5,I5,r5,y5,HH,Mx⟩=>?_)
   have I5':=I5.pinned (fp1 Mx (fun _ _ q hq=>by cases hq)) (T.obj _ _ HH)
   have keepIt:∀{vc:St} {H7:Hp} {s7:Shared},Inv (bx X scope (own++kn) fp s H) ([]++lF fp s5.heap) vc H7 s7->tn (i+1) s7.heap/\∀b∈fp,H7 b=none:=fun {vc H7 s7} I7=>by
    refine⟨T.keep _ _ _ HH fun b hb o e=>(I7.pin (b,o) (List.mem_append_right _ (List.mem_append_right _ (iK hb e)))).1,fun b hb=>?_⟩
    obtain⟨o,e,d⟩:=T.obj _ _ HH b hb;exact(I7.pin (b,o) (List.mem_append_right _ (List.mem_append_right _ (iK hb e)))).2.1
   have reset:∀{vc:St} {H7:Hp} {s7:Shared},Inv (bx X scope (own++kn) fp s H) ([]++lF fp s5.heap) vc H7 s7->Inv (bx X scope (own++kn) fp s H) [] (cO own kp σ) H7 s7:=fun {vc H7 s7} I7=>by
    have I8:=I7.l_;have hun:Un (xu X.stack) fp H H7 s.heap s7.heap:=I8.base;have I9:Inv X pins σ H7 s7:=o9 I hf I8;refine⟨I8.ok,I8.os,I8.bare,I8.base,?_,I8.cell,I8.free,I8.freeC,I8.pin,I8.hok,I1.len⟩;obtain⟨m,hm,_⟩:=I8.loc;refine⟨m,hm,fun i x v h1 h2 h3=>?_⟩
    obtain⟨m1,OE,Ea⟩:=I1.loc;obtain⟨u1,r1,l1⟩:=Ea i x v h1 h2 h3;have h1:(own++kn)[i]? =some x:=h1;have h2:(cO own kp σ)[i]? =some (some v):=h2;unfold cO at h2;by_cases hi:i < own.length
    .rw [List.getElem?_append_left (by simpa using hi),List.getElem?_replicate] at h2
     split at h2 <;> cases h2
    .rw [List.getElem?_append_right (by simpa using hi),List.length_replicate,List.getElem?_map] at h2
     rw[List.getElem?_append_right (by simpa using hi)] at h1
     cases e:kp[i - own.length]? with
     | none=>rw [e] at h2;cases h2
     | some j=>
       rw[e] at h2;have h2:(σ[j]?).getD none=some v:=Option.some.inj h2;have hj:X.N[j]? =some x:=C.at_ _ j x e h1;have Ee:σ[j]? =some (some v):=by
        cases q:σ[j]? with
        | none=>rw [q] at h2;cases h2
        | some y=>rw [q] at h2;exact congrArg some h2
       have hfree:scope.names.lookup x=some .free:=C.isfree x (List.mem_of_getElem? h1);have hkind:=C.free (x, .free) (PySem.mem_of_lookup hfree) rfl;obtain⟨m9,S6,Rx⟩:=I9.loc;obtain⟨u,r,l⟩:=Rx j x v hj Ee (hkind.elim (fun q=>Or.inr (Or.inl q)) fun q=>Or.inr (Or.inr q))
       refine⟨u,r, .inr ?_⟩;rcases l1 with⟨k,k2⟩ | ⟨k,c,hc,hcell⟩
       .have k:(relabel scope X.env).names.lookup x=some .local:=k;rcases dw k with z | ⟨z,_⟩
        .rw [hfree] at z;cases z
        .cases z
       .refine⟨k,c,hc,?_⟩;rcases l with⟨k',_⟩ | ⟨_,c',zu,HK⟩
        .rcases hkind with q | q
         .rw [show X.env.kindOf x=some .cell from q] at k';cases k'
         .rw [show X.env.kindOf x=some .free from q] at k';cases k'
        .have HM:(kJ X.env.cells scope.names []).lookup x=some c:=(r_ _ _ _ fun z=>by have:=C.cel _ z rfl;rw [hfree] at this;cases this).symm.trans hc
         rcases gR scope.names [] HM with q | ⟨q1,q2⟩
         .simp at q
         .rw [zu] at q2;have q2:c=c':=q2;rw[q2];exact HK
   have hmm:=hg ([]++lF fp s5.heap) s5 (cO own kp σ) H5 x u _ I5' r5 (step x H5 y5);refine wpAny_bind (dc hmm fun _ s6 ⟨JP,H6,I6,q6⟩=>?_)
   refine wpAny_bind (dc (hi _ s6 JP H6 _ I6 q6) fun ok s7 ⟨H7,I7,q7⟩=>?_)
   cases ok with
   | false=>
     simp only[Bool.false_eq_true,if_false] at q7 ⊢;obtain⟨m',HG,w7⟩:=q7;obtain⟨a1,a2⟩:=keepIt I7;exact wpAny_pure ⟨rfl,m',HG,i+1,ys,H7,reset I7,a1,a2,w7⟩
   | true=>
     simp only[if_true] at q7 ⊢;refine wpAny_bind (wpAny_bind (dc (he _ s7 JP H7 _ I7 q7) fun yv s8 ⟨y,H8,I8,r8,hD,mE,m',HG,w8⟩=>wpAny_bind ?_))
     obtain⟨a1,a2⟩:=keepIt I8;refine dc (qV _ s8 JP H8 (.ref D) [y] (.ref D) [yv] (fun v H9=>v= .cu/\H9=upd H8 D (.lst (ys++[y]))) I8 rfl (.cons r8 .nil) ⟨D,ys,y,rfl,rfl,hD,mE,rfl,rfl⟩) fun _ s9 ⟨v9,H9,I9,_,_,e9⟩=>?_
     subst e9;obtain⟨b1,b2⟩:=keepIt I9;exact wpAny_pure (wpAny_pure ⟨rfl,m',HG,i+1,ys++[y],_,reset I9,b1,b2,w8⟩)
 exact codeAny_compStart_list loop (T.self _ _ _ _ _ Ol loop)
theorem C4(hc:X.calm=true)(C:eF X scope own kp kn)(hi:PI X tg iter wi)(hg:∀fp s H,PG (bx X scope (own++kn) fp s H) tg g)(zl:∀fp s H,mU (bx X scope (own++kn) fp s H) ifs tc)
 (he:∀fp s H,PE (bx X scope (own++kn) fp s H) elt te) (hs:∀x,foldedSetIterable iter X.env x=pure x:=by intro _;rfl):PE X (.ListComp elt [⟨tg,iter,ifs,0⟩] scope pos) (xN wi g tc te own kp):=by
 intro pins s σ H Q I h;rw[eval_ListComp];refine wpAny_comprehension_free (use:=none) rfl hs (jb (lH C I)) C.kind C.nd (dc (hi pins s σ H _ I h) fun v s1 h1=>dc h1 fun KC s2 h2=>?_)
 obtain⟨it,fp,tn,J,H2,e,I2,T,HJ,f2,q⟩:=h2;subst e;refine wpAny_newObj_type ?_;have I3:Inv X pins σ (upd H2 s2.heap.objs.size (.lst [])) {s2 with heap:=s2.heap.push {cls:= .type "list",dict:=none,data:= .seq ([]:List Value).toArray}}:=I2.CN (its:=[]) (t':=s2.toks) .nil (Nat.zero_le _)
 obtain⟨W,w0,turn⟩:=q s2.heap.objs.size I2.fresh;have fne:∀b∈fp,b < s2.heap.objs.size:=fun b hb=>let⟨o,e,_⟩:=T.obj _ _ HJ b hb;Heap.lt_size e
 have f3:∀b∈fp,nJ X pins (upd H2 s2.heap.objs.size (.lst [])) b:=fun b hb=>⟨by rw[bo (Nat.ne_of_lt (fne b hb))];exact(f2 b hb).1,(f2 b hb).2⟩
 generalize hs3:({s2 with heap:=s2.heap.push {cls:= .type "list",dict:=none,data:= .seq ([]:List Value).toArray}}:Shared)=s3 at I3 ⊢
 have Ef:tn 0 s3.heap:=by rw[<-hs3];exact T.keep _ _ _ HJ fun b _ o e=>Heap.get?_push_of_some _ e
 have fne3:∀b∈fp,b < s3.heap.objs.size:=fun b hb=>by rw[<-hs3];exact Nat.lt_of_lt_of_le (fne b hb) (by rw[Heap.size_push];exact Nat.le_succ _)
 refine qN fun iH wu hk hC=>?_
 refine uF (D:=s2.heap.objs.size) hc C I3 f3 fne3 T (hg fp s3 _) (zl fp s3 _) (he fp s3 _) wu hk hC Ef W w0 turn fun H' s' cG J' hq=>?_
 have B:=o9 I3 f3 J';obtain⟨m',HG,_⟩:=J'.loc;refine⟨m',HG,fun h' sb=>⟨.ref s2.heap.objs.size,H',?_,rfl,hq⟩⟩
 have fC:=I3.uV (H':=H') (b:=s3.heap.objs.size) (Nat.le_refl _) J'.free;exact B.turned (it:=s3.heap.objs.size) (t':=s'.toks) (fun b o hb e=>(sb.2 b hb).trans e) fC.1 fC.2.1 fC.2.2.2.1 fC.2.2.2.2.1 fC.2.2.2.2.2
theorem pA{i:Nat}{x:Str}{pos' pX:Pos}(hc:X.calm=true)(hN:X.N.Nodup)(hx:X.N[i]? =some x)(E5:X.env.scope.names.lookup x=some .local)(C:eF X scope own kp kn)(hi:PI X tg iter wi)
 (hg:∀fp s H,PG (bx X scope (own++kn) fp s H) tg g) (zl:∀fp s H,mU (bx X scope (own++kn) fp s H) ifs tc)
 (he:∀fp s H,PE (bx X scope (own++kn) fp s H) elt te)
 (ve:swapsWith (.ListComp elt [⟨tg,iter,ifs,0⟩] scope pos) (some (.Name x pos')) pX.line X.env=pure true:=by rfl)
 (hs:∀x,foldedSetIterable iter X.env x=pure x:=by intro _;rfl) :
 PS X (.Assign [.Name x pos'] (.ListComp elt [⟨tg,iter,ifs,0⟩] scope pos) pX) (yi (xN wi g tc te own kp) (oS i)):=by
 intro pins s σ H D I h;rw[exec_Assign_Name_used _ _ _ _ ve];refine wpAny_bind (wpAny_standAt (wpAny_bind ?_));show wpAny _ X.A (do let _ <-comprehension (.ListComp elt [⟨tg,iter,ifs,0⟩] scope pos) scope X.env _ (newList []) false (eval iter X.env) (some (assign (.Name x pos') X.env))) _ _ s
 refine wpAny_bind (wpAny_mono (wpAny_comprehension_free (use:=some (assign (.Name x pos') X.env)) (Q:=fun _ s'=>SP X pins D .next s') rfl hs (jb (lH C I)) C.kind C.nd
  (dc (hi pins s σ H _ I h) fun v s1 h1=>dc h1 fun KC s2 h2=>?_)) (fun _ s' hq=>wpAny_pure (wpAny_pure hq)) fun _ _ e=>e)
 obtain⟨it,fp,tn,J,H2,e,I2,T,HJ,f2,q⟩:=h2;subst e;refine wpAny_newObj_type ?_;have I3:Inv X pins σ (upd H2 s2.heap.objs.size (.lst [])) {s2 with heap:=s2.heap.push {cls:= .type "list",dict:=none,data:= .seq ([]:List Value).toArray}}:=I2.CN (its:=[]) (t':=s2.toks) .nil (Nat.zero_le _)
 obtain⟨W,w0,turn⟩:=q s2.heap.objs.size I2.fresh;have fne:∀b∈fp,b < s2.heap.objs.size:=fun b hb=>let⟨o,e,_⟩:=T.obj _ _ HJ b hb;Heap.lt_size e
 have f3:∀b∈fp,nJ X pins (upd H2 s2.heap.objs.size (.lst [])) b:=fun b hb=>⟨by rw[bo (Nat.ne_of_lt (fne b hb))];exact(f2 b hb).1,(f2 b hb).2⟩
 generalize hs3:({s2 with heap:=s2.heap.push {cls:= .type "list",dict:=none,data:= .seq ([]:List Value).toArray}}:Shared)=s3 at I3 ⊢
 have Ef:tn 0 s3.heap:=by rw[<-hs3];exact T.keep _ _ _ HJ fun b _ o e=>Heap.get?_push_of_some _ e
 have fne3:∀b∈fp,b < s3.heap.objs.size:=fun b hb=>by rw[<-hs3];exact Nat.lt_of_lt_of_le (fne b hb) (by rw[Heap.size_push];exact Nat.le_succ _)
 refine qN fun iH wu hk hC=>?_
 refine uF (Q:=fun x H1=>oS i x σ H1 D.nx) (D:=s2.heap.objs.size) hc C I3 f3 fne3 T (hg fp s3 _) (zl fp s3 _) (he fp s3 _) wu hk hC Ef W w0 turn fun H' s' cG J' hq=>?_
 have B:=o9 I3 f3 J';obtain⟨m',HG,_⟩:=J'.loc;have fC:=I3.uV (H':=H') (b:=s3.heap.objs.size) (Nat.le_refl _) J'.free;show wpAny _ X.A (assign (.Name x pos') X.env (.ref s2.heap.objs.size)) _ _ s';refine wpAny_assign_Name (qZ B hN hx (.inl E5) (v:= .ref s2.heap.objs.size) rfl (fun s4 I4 ⟨a,sb,ha⟩=>?_) (.inr E5))
 have ha':s3.heap.objs.size≠a:=by
  rcases ha with rfl | z
  .exact fC.2.1
  .exact fun e=>fC.2.2.2.2.1 x a z e.symm
 refine⟨m',HG.sameBut sb ha',fun h' RL=>⟨_,H',?_,hq⟩⟩
 exact I4.turned (it:=s3.heap.objs.size) (t':=s4.toks) (fun b o hb e=>(RL.2 b hb).trans e) fC.1 fC.2.1 fC.2.2.2.1 fC.2.2.2.2.1 fC.2.2.2.2.2
end
end L2
end
section
namespace L2
open PySem PySem.Spec PyProof.Rows
inductive D where
 | cu | bl (b:Bool) | int (i:Int) | str (x:Str) | lst (ds:List D) | tup (ds:List D) | dct (ks:List Key) (ds:List D)
inductive R (α:Type) where
 | ok (a:α) | ex (c:Nat) | no
def R.bind{α β:Type}:R α->(α->R β)->R β
 | .ok a,f=>f a
 | .ex c,_=> .ex c
 | .no,_=> .no
theorem R.ak{α β:Type}{r:R α}{f:α->R β}{b:β}(h:r.bind f= .ok b):∃a,r= .ok a/\f a= .ok b:=by
 cases r with
 | ok a=>exact⟨a,rfl,h⟩
 | ex c=>cases h
 | no=>cases h
@[simp] theorem R.aM{α β:Type}(a:α)(f:α->R β):(R.ok a).bind f=f a:=rfl
def R.aR{α:Type}(c:Bool)(r:R α):R α:=if c then r else .no
theorem R.aW{α:Type}{c:Bool}{r:R α}{a:α}(h:R.aR c r= .ok a):c=true/\r= .ok a:=by
 cases c with
 | true=>exact⟨rfl,h⟩
 | false=>cases h
@[simp] theorem R.H_{α:Type}(r:R α):R.aR true r=r:=rfl
def sj(K:W.Frag)(B:List Addr)(H:Hp)(a:Addr)(xs:List V):Prop:=
 (a ∉ B/\Rd H a (.lst xs))\/∃(its:List Value) (n:Nat),K.lookup a=some {cls:= .type "list",data:= .seq its.toArray n}/\xs.length<=sizeLine/\Vals xs its
def qH(K:W.Frag)(B:List Addr)(H:Hp)(a:Addr)(xs:List V):Prop:=
 (a ∉ B/\Rd H a (.tup xs))\/∃(o:Obj) (its:Array Value) (n:Nat),K.lookup a=some o/\o.cls= .type "tuple"/\o.data= .seq its n/\its.size<=sizeLine/\Vals xs its.toList
theorem sj.sq{K:W.Frag}{B:List Addr}{a:Addr}{xs:List V}(h:sj K B H a xs):lD K H a xs:=by
 rcases h with z | ⟨its,n,hk,hz,r⟩
 .exact .inl z.2
 .exact .inr ⟨_,its.toArray,n,hk,rfl,rfl,rfl,by rw[List.size_toArray,<-r.length];exact hz,by simpa using r⟩
theorem qH.sq{K:W.Frag}{B:List Addr}{a:Addr}{xs:List V}(h:qH K B H a xs):l6 K H a xs:=h.elim (fun z=> .inl z.2) .inr
mutual
def Rep(K:W.Frag)(B:List Addr)(H:Hp):D->V->Prop
 | .cu,v=>v= .cu
 | .bl b,v=>v= .bl b
 | .int i,v=>v= .int i
 | .str x,v=>v= .str x
 | .lst ds,v=>∃a xs,v= .ref a/\sj K B H a xs/\aC K B H ds xs
 | .tup ds,v=>∃a xs,v= .ref a/\qH K B H a xs/\aC K B H ds xs
 | .dct ks ds,v=>∃(a:Addr) (kvs:List (Key × V)),v= .ref a/\(a ∉ B/\H a=some (.dK kvs))/\kvs.map (·.1)=ks/\aC K B H ds (kvs.map (·.2))
def aC(K:W.Frag)(B:List Addr)(H:Hp):List D->List V->Prop
 | [],xs=>xs=[]
 | d ::ds,xs=>∃x r,xs=x ::r/\Rep K B H d x/\aC K B H ds r
end
def cW(B:List Addr)(H:Hp)(B':List Addr)(H':Hp):Prop:=∀b o,H b=some o->b ∉ B->H' b=some o/\b ∉ B'
theorem cW.rd{B B':List Addr}(p:cW B H B' H'){a:Addr}{u:HO}(h:Rd H a u)(n:a ∉ B):Rd H' a u/\a ∉ B':=by
 rcases h with e | ⟨o,e⟩
 .exact⟨.inl (p a _ e n).1,(p a _ e n).2⟩
 .exact⟨.inr ⟨o,(p a _ e n).1⟩,(p a _ e n).2⟩
theorem cW.trans{B B' J7:List Addr}(p:cW B H B' H')(q:cW B' H' J7 lP):cW B H J7 lP:=fun b o e n=>
 let⟨e1,n1⟩:=p b o e n;q b o e1 n1
theorem cW.same{B:List Addr}(s:aP H H'):cW B H B H':=fun b o e n=>⟨s b o e,n⟩
theorem cW.refl(B:List Addr)(H:Hp):cW B H B H:=cW.same (aP.refl H)
theorem sj.aY{K:W.Frag}{B B':List Addr}(p:cW B H B' H'){a:Addr}{xs:List V}(l:sj K B H a xs):sj K B' H' a xs:=
 l.elim (fun z=> .inl ⟨(p.rd z.2 z.1).2,(p.rd z.2 z.1).1⟩) .inr
mutual
theorem Rep.aY{K:W.Frag}{B B':List Addr}(p:cW B H B' H'):∀{d:D} {v:V},Rep K B H d v->Rep K B' H' d v
 | .cu,_,h=>h
 | .bl _,_,h=>h
 | .int _,_,h=>h
 | .str _,_,h=>h
 | .lst ds,v,h=>by
   unfold Rep at h ⊢;obtain⟨a,xs,e,l,r⟩:=h;exact⟨a,xs,e,l.aY p,aC.aY p r⟩
 | .tup ds,v,h=>by
   unfold Rep at h ⊢;obtain⟨a,xs,e,l,r⟩:=h;exact⟨a,xs,e,l.elim (fun z=> .inl ⟨(p.rd z.2 z.1).2,(p.rd z.2 z.1).1⟩) .inr,aC.aY p r⟩
 | .dct ks ds,v,h=>by
   unfold Rep at h ⊢;obtain⟨a,kvs,e,⟨n,l⟩,k,r⟩:=h;exact⟨a,kvs,e,⟨(p a _ l n).2,(p a _ l n).1⟩,k,aC.aY p r⟩
theorem aC.aY{K:W.Frag}{B B':List Addr}(p:cW B H B' H'):∀{ds:List D} {xs:List V},aC K B H ds xs->aC K B' H' ds xs
 | [],_,h=>h
 | d ::ds,xs,h=>by
   unfold aC at h ⊢;obtain⟨x,r,e,h1,h2⟩:=h;exact⟨x,r,e,Rep.aY p h1,aC.aY p h2⟩
end
theorem Rep.same{K:W.Frag}{B:List Addr}{d:D}{v:V}(h:Rep K B H d v)(s:aP H H'):Rep K B H' d v:=h.aY (cW.same s)
theorem aC.same{K:W.Frag}{B:List Addr}{d:List D}{v:List V}(h:aC K B H d v)(s:aP H H'):aC K B H' d v:=h.aY (cW.same s)
theorem aC.nil{K:W.Frag}{B:List Addr}:aC K B H [] []:=by unfold aC;rfl
theorem aC.cons{K:W.Frag}{B:List Addr}{d:D}{ds:List D}{x:V}{xs:List V}(h:Rep K B H d x)(t:aC K B H ds xs):aC K B H (d ::ds) (x ::xs):=by
 unfold aC;exact⟨x,xs,rfl,h,t⟩
theorem aC.bX{K:W.Frag}{B:List Addr}{d:D}{ds:List D}{xs:List V}(h:aC K B H (d ::ds) xs):∃x r,xs=x ::r/\Rep K B H d x/\aC K B H ds r:=by
 unfold aC at h;exact h
theorem aC.length{K:W.Frag}{B:List Addr}:∀{ds:List D} {xs:List V},aC K B H ds xs->ds.length=xs.length
 | [],_,h=>by unfold aC at h;rw [h];rfl
 | d ::ds,xs,h=>by
   obtain⟨x,r,rfl,_,h2⟩:=h.bX;simp [h2.length]
theorem aC.get{K:W.Frag}{B:List Addr}:∀{ds:List D} {xs:List V} {i:Nat} {d:D},aC K B H ds xs->ds[i]? =some d->∃x,xs[i]? =some x/\Rep K B H d x
 | [],_,_,_,_,e=>by simp at e
 | d ::ds,xs,0,d',h,e=>by
   obtain⟨x,r,rfl,h1,h2⟩:=h.bX;simp at e;subst e;exact⟨x,rfl,h1⟩
 | d ::ds,xs,i+1,d',h,e=>by
   obtain⟨x,r,rfl,h1,h2⟩:=h.bX;obtain⟨y,e1,e2⟩:=aC.get (i:=i) h2 (by simpa using e)
   exact⟨y,by simpa using e1,e2⟩
theorem aC.append{K:W.Frag}{B:List Addr}:∀{ds es:List D} {xs ys:List V},aC K B H ds xs->aC K B H es ys->aC K B H (ds++es) (xs++ys)
 | [],_,_,_,h,t=>by unfold aC at h;subst h;exact t
 | d ::ds,es,xs,ys,h,t=>by
   obtain⟨x,r,rfl,h1,h2⟩:=h.bX;exact aC.cons h1 (aC.append h2 t)
theorem aC.drop{K:W.Frag}{B:List Addr}:∀{ds:List D} {xs:List V} (n:Nat),aC K B H ds xs->aC K B H (ds.drop n) (xs.drop n)
 | _,_,0,h=>h
 | [],_,n+1,h=>by unfold aC at h;subst h;exact aC.nil
 | d ::ds,xs,n+1,h=>by
   obtain⟨x,r,rfl,h1,h2⟩:=h.bX;exact aC.drop n h2
theorem aC.take{K:W.Frag}{B:List Addr}:∀{ds:List D} {xs:List V} (n:Nat),aC K B H ds xs->aC K B H (ds.take n) (xs.take n)
 | _,_,0,h=>aC.nil
 | [],_,n+1,h=>by unfold aC at h;subst h;exact aC.nil
 | d ::ds,xs,n+1,h=>by
   obtain⟨x,r,rfl,h1,h2⟩:=h.bX;exact aC.cons h1 (aC.take n h2)
def D.atom:D->Bool
 | .cu=>true | .bl _=>true | .int _=>true | .str _=>true | _=>false
theorem Rep.atom{K:W.Frag}{B B':List Addr}{d:D}{v:V}(a:d.atom=true)(h:Rep K B H d v):Rep K B' H' d v:=by
 cases d <;> first | exact h | cases a
inductive Sl where
 | un | val (d:D) | bld (ds:List D)
abbrev aq:=List Sl
structure di (K:W.Frag) (Z B:List Addr) (H:Hp) (σ:St) (δ:aq):Prop where
 len:δ.length=σ.length
 bs:∀a∈B,∃o,H a=some o
 zb:∀a∈Z,a∈B
 val:∀(i:Nat) (d:D),δ[i]? =some (.val d)->∃v,σ[i]? =some (some v)/\Rep K B H d v
 bld:∀(i:Nat) (ds:List D),δ[i]? =some (.bld ds)->∃a xs,σ[i]? =some (some (.ref a))/\a∈B/\a ∉ Z/\H a=some (.lst xs)/\aC K B H ds xs
 dis:∀(i j:Nat) (a:Addr) (ds es:List D),δ[i]? =some (.bld ds)->δ[j]? =some (.bld es)->σ[i]? =some (some (.ref a))->σ[j]? =some (some (.ref a))->i=j
theorem di.same{K:W.Frag}{Z B:List Addr}{δ:aq}(E:di K Z B H σ δ)(s:aP H H'):di K Z B H' σ δ where
 len:=E.len
 bs:=fun a ha=>let⟨o,e⟩:=E.bs a ha;⟨o,s a o e⟩
 zb:=E.zb
 val:=fun i d e=>let⟨v,h1,h2⟩:=E.val i d e;⟨v,h1,h2.same s⟩
 bld:=fun i ds e=>let⟨a,xs,h1,h2,h3,h4,h5⟩:=E.bld i ds e;⟨a,xs,h1,h2,h3,s a _ h4,h5.same s⟩
 dis:=E.dis
def IC(δ:aq):aq:=δ.map fun x=>match x with | .bld ds=> .val (.lst ds) | y=>y
theorem PE.imp{X:Cx}{t t':TE}(h:PE X e t)(w:∀σ H Q,t' σ H Q->t σ H Q):PE X e t':=fun pins s σ H Q I hq=>h pins s σ H Q I (w σ H Q hq)
theorem PT.imp{X:Cx}{t t':TT}(h:PT X e t)(w:∀σ H Q,t' σ H Q->t σ H Q):PT X e t':=fun pins s σ H Q I hq=>h pins s σ H Q I (w σ H Q hq)
theorem PA.imp{X:Cx}{t t':TA}(h:PA X e t)(w:∀σ H Q,t' σ H Q->t σ H Q):PA X e t':=fun pos pins s σ H Q I hq=>h pos pins s σ H Q I (w σ H Q hq)
theorem PS.imp{X:Cx}{t t':TS}(h:PS X e t)(w:∀D σ H,t' D σ H->t D σ H):PS X e t':=fun pins s σ H D I hq=>h pins s σ H D I (w D σ H hq)
theorem r6.imp{X:Cx}{t t':TS}(h:r6 X e t)(w:∀D σ H,t' D σ H->t D σ H):r6 X e t':=fun pins s σ H D I hq=>h pins s σ H D I (w D σ H hq)
theorem PG.imp{X:Cx}{t t':TG}(h:PG X e t)(w:∀v σ H Q,t' v σ H Q->t v σ H Q):PG X e t':=fun pins s σ H v u Q I r hq=>h pins s σ H v u Q I r (w v σ H Q hq)
theorem PI.imp{X:Cx}{t t':TI}(h:PI X tg e t)(w:∀σ H Q,t' σ H Q->t σ H Q):PI X tg e t':=fun pins s σ H Q I hq=>h pins s σ H Q I (w σ H Q hq)
abbrev FD:=aq->R D
def tD(K:W.Frag)(f:FD):TE:=fun σ H Q=>∃Z B δ d,di K Z B H σ δ/\f δ= .ok d/\∀v H',aP H H'->Rep K B H' d v->Q v H'
def tN(K:W.Frag)(f:aq->R (List D)):TE:=fun σ H Q=>∃Z B δ ds,di K Z B H σ δ/\f δ= .ok ds/\∀a xs H',aP H H'->H a=none->H' a=some (.lst xs)->aC K (a ::B) H' ds xs->Q (.ref a) H'
def ED(K:W.Frag)(f:aq->R Bool):TT:=fun σ H Q=>∃Z B δ b,di K Z B H σ δ/\f δ= .ok b/\∀H',aP H H'->Q b H'
def NB(K:W.Frag)(f:aq->R (List D)):TA:=fun σ H Q=>∃Z B δ ds,di K Z B H σ δ/\f δ= .ok ds/\∀vs H',aP H H'->aC K B H' ds vs->Q vs H'
abbrev PD(X:Cx)(e:Expr)(f:FD):Prop:=PE X e (tD X.K f)
abbrev PN(X:Cx)(e:Expr)(f:aq->R (List D)):Prop:=PE X e (tN X.K f)
abbrev PB(X:Cx)(e:Expr)(f:aq->R Bool):Prop:=PT X e (ED X.K f)
abbrev AK(X:Cx)(es:List Expr)(f:aq->R (List D)):Prop:=PA X es (NB X.K f)
section
variable {X:Cx}
def eNew(f:aq->R (List D)):FD:=fun δ=>(f δ).bind fun ds=> .ok (.lst ds)
theorem Fo{f:aq->R (List D)}(h:PN X e f):PD X e (eNew f):=h.imp fun σ H Q ⟨Z,B,δ,d,E,hf,q⟩=>by
 obtain⟨ds,h1,h2⟩:=R.ak hf;cases h2;refine⟨Z,B,δ,ds,E,h1,fun a xs H' s n e r=>q _ H' s ?_⟩
 unfold Rep;refine⟨a,xs,rfl, .inl ⟨fun ha=>?_, .inl e⟩,r.aY fun b o e nb=>⟨e,fun hb=>nb (List.mem_cons_of_mem _ hb)⟩⟩
 obtain⟨o,ho⟩:=E.bs a ha;rw[n] at ho;cases ho
theorem sZ{B:List Addr}{H:Hp}{p:Addr}{o:HO}(h:H p=none):cW B H (p ::B) (upd H p o):=fun b u e nb=>
 ⟨by rw[bo (bY e h)];exact e,fun hb=>by
   rcases List.mem_cons.mp hb with z | z
   .exact bY e h z
   .exact nb z⟩
def Nn(f:FD):FD:=fun δ=>(f (IC δ)).bind fun d=>R.aR d.atom (.ok d)
def NW(f:aq->R Bool):aq->R Bool:=fun δ=>f (IC δ)
def af(i:Nat):FD:=fun δ=>match δ[i]? with | some (.val d)=> .ok d | _=> .no
def eC(d:D):FD:=fun _=> .ok d
theorem G3(i:Nat){x:Str}{pos:Pos}(hN:X.N[i]? =some x:=by rfl)(hv:B4 X.env.scope x:=by first | exact Or.inl rfl | exact Or.inr (Or.inl rfl) | exact Or.inr (Or.inr rfl))(hd:(x==("__debug__":Str))=false:=by decide)
 (nR:(x==("__classdict__":Str))=false:=by decide):PD X (.Name x pos) (af i):=(m3 hN hv hd nR).imp fun σ H Q ⟨Z,B,δ,d,E,hf,q⟩=>by
 unfold af at hf;split at hf
 .rename_i d' e;cases hf;obtain⟨v,h1,h2⟩:=E.val i d e;exact⟨v,h1,q v H (aP.refl H) h2⟩
 .cases hf
theorem lZ{v:V}{d:D}(h:PE X e (tC v))(r:∀B H,Rep X.K B H d v):PD X e (eC d):=h.imp fun σ H Q ⟨Z,B,δ,d',E,hf,q⟩=>by
 cases hf;exact q v H (aP.refl H) (r B H)
theorem Gs{i j pos}:PD X (.Constant (.int i) j pos) (eC (.int i)):=lZ pC fun _ _=>by unfold Rep;rfl
theorem Iy{b j pos}:PD X (.Constant (.bool b) j pos) (eC (.bl b)):=lZ Jl fun _ _=>by unfold Rep;rfl
theorem GA{x j pos}:PD X (.Constant (.str x) j pos) (eC (.str x)):=lZ pQ fun _ _=>by unfold Rep;rfl
def Glob(K:W.Frag)(mg:Tq)(x:Str)(d:D):Prop:=∃(u:Value) (v:V),mg x=some u/\RelV v u/\∀B H,Rep K B H d v
theorem Cr{d:D}{pos:Pos}(g:Glob X.K X.mg x d)(hg:Gl X x)(hd:(x==("__debug__":Str))=false:=by decide):PD X (.Name x pos) (eC d):=by
 obtain⟨u,v,hm,r,h⟩:=g;exact lZ (D4 hg hm r hd) h
def aD:aq->R (List D):=fun _=> .ok []
def ag(f:FD)(g:aq->R (List D)):aq->R (List D):=fun δ=>(f δ).bind fun d=>(g δ).bind fun ds=> .ok (d ::ds)
theorem Ci:AK X [] aD:=gn.imp fun σ H Q ⟨Z,B,δ,d,E,hf,q⟩=>by
 cases hf;exact q [] H (aP.refl H) aC.nil
theorem AV{g:aq->R (List D)}(h:PD X e f)(t:AK X es g)(hs:starEach (e ::es) X.env=(false,eval e X.env) ::starEach es X.env:=by rfl):AK X (e ::es) (ag f g):=
 (dH h t hs).imp fun σ H Q ⟨Z,B,δ,d,E,hf,q⟩=>by
   obtain⟨d1,h1,h2⟩:=R.ak hf;obtain⟨ds,h3,h4⟩:=R.ak h2;cases h4;exact⟨Z,B,δ,d1,E,h1,fun v H1 s1 r1=>⟨Z,B,δ,ds,E.same s1,h3,fun vs H2 s2 r2=>q _ H2 (s1.trans s2) (aC.cons (r1.same s2) r2)⟩⟩
def cN(g:aq->R (List D)):FD:=fun δ=>(g δ).bind fun ds=>R.aR (decide (ds.length<=sizeLine)) (.ok (.tup ds))
def dP(g:aq->R (List D)):aq->R (List D):=fun δ=>(g δ).bind fun ds=>R.aR (decide (ds.length<=sizeLine)) (.ok ds)
theorem aT{H:Hp}{p:Addr}{o:HO}(h:H p=none):aP H (upd H p o):=fun b u e=>by rw[bo (bY e h)];exact e
theorem Gz{g:aq->R (List D)}{x1 pos}(h:AK X es g):PD X (.Tuple es x1 pos) (cN g):=(vv h).imp fun σ H Q ⟨Z,B,δ,d,E,hf,q⟩=>by
 obtain⟨ds,h1,h2⟩:=R.ak hf;obtain⟨hl,h3⟩:=R.aW h2;cases h3;refine⟨Z,B,δ,ds,E,h1,fun vs H1 s1 r1=>⟨by rw[<-r1.length];exact of_decide_eq_true hl,fun p hp=>q _ _ (s1.trans (aT hp)) ?_⟩⟩
 unfold Rep;refine⟨p,vs,rfl, .inl ⟨fun ha=>?_, .inl aU⟩,r1.same (aT hp)⟩
 obtain⟨o,ho⟩:=(E.same s1).bs p ha;rw[hp] at ho;cases ho
theorem Fi{g:aq->R (List D)}{pos}(h:AK X es g):PN X (.List es pos) (dP g):=(GQ h).imp fun σ H Q ⟨Z,B,δ,d,E,hf,q⟩=>by
 obtain⟨ds,h1,h2⟩:=R.ak hf;obtain⟨hl,h3⟩:=R.aW h2;cases h3;exact⟨Z,B,δ,_,E,h1,fun vs H1 s1 r1=>⟨by rw[<-r1.length];exact of_decide_eq_true hl,fun p hp=>q p vs _ (s1.trans (aT hp)) (s1.free hp) aU (r1.aY (sZ hp))⟩⟩
def kH(X:Cx)(f:Value->Value->Sem Value)(g:D->D->R D):Prop:=
 ∀(pins:Th) (s:Shared) (σ:St) (H:Hp) (B:List Addr) (da db d:D) (x y:V) (v u:Value),Inv X pins σ H s->(∀a∈B,∃o,H a=some o)->RelV x v->RelV y u->Rep X.K B H da x->Rep X.K B H db y->g da db= .ok d->
  wpAny (model X.prog X.w) X.A (f v u) (EP X pins σ fun z H'=>aP H H'/\Rep X.K B H' d z) X.xe s
def e2(g:D->D->R D)(fa fb:FD):FD:=fun δ=>(fa δ).bind fun a=>(fb δ).bind fun b=>g a b
theorem kH.r{f:Value->Value->Sem Value}{g:D->D->R D}(h:kH X f g):lA X f (fun x y H Q=>∃B da db d,(∀a∈B,∃o,H a=some o)/\Rep X.K B H da x/\Rep X.K B H db y/\g da db= .ok d/\∀z H',aP H H'->Rep X.K B H' d z->Q z H'):=by
 intro pins s σ H x y v u Q I rx ry ⟨B,da,db,d,hb,ha,sR,hg,q⟩;exact dc (h pins s σ H B da db d x y v u I hb rx ry ha sR hg) fun z s' ⟨zv,H',I',r',s1,r1⟩=>⟨zv,H',I',r',q zv H' s1 r1⟩
theorem G5{K:W.Frag}{g:D->D->R D}{Q:VK}(h:tD K (e2 g fa fb) σ H Q) :
 Ic (fun x y H Q=>∃B da db d,(∀a∈B,∃o,H a=some o)/\Rep K B H da x/\Rep K B H db y/\g da db= .ok d/\∀z H',aP H H'->Rep K B H' d z->Q z H') (tD K fa) (tD K fb) σ H Q:=by
 obtain⟨Z,B,δ,d,E,hf,q⟩:=h;obtain⟨d1,h1,h2⟩:=R.ak hf;obtain⟨d2,h3,h4⟩:=R.ak h2;exact⟨Z,B,δ,d1,E,h1,fun v1 H1 s1 r1=>⟨Z,B,δ,d2,E.same s1,h3,fun v2 H2 s2 r2=>⟨B,d1,d2,d,(E.same (s1.trans s2)).bs,r1.same s2,r2,h4,fun z H' s3 r3=>q z H' (s1.trans (s2.trans s3)) r3⟩⟩⟩
theorem Ip{op:Operator}{g:D->D->R D}(ho:kH X (binaryOp op) g)(ha:PD X a fa)(hb:PD X b fb):PD X (.BinOp a op b pos) (e2 g fa fb):=
 (zE ho.r ha hb).imp fun σ H Q h=>G5 h
theorem Hd{op:CmpOp}{g:D->D->R D}(ho:kH X (compareOp op) g)(ha:PD X a fa)(hb:PD X b fb)(hm:behindInMarks op b=false):PD X (.Compare a [op] [b] pos) (e2 g fa fb):=
 (Dc ho.r ha hb hm).imp fun σ H Q h=>G5 h
def b2(g:D->D->R D)(fa fb:FD):aq->R Bool:=fun δ=>(e2 g fa fb δ).bind fun d=>match d with | .bl b=> .ok b | _=> .no
theorem HB{op:CmpOp}{g:D->D->R D}(ho:kH X (compareOp op) g)(ha:PD X a fa)(hb:PD X b fb)(hm:behindInMarks op b=false):PB X (.Compare a [op] [b] pos) (b2 g fa fb):=
 (wK ho.r ha hb hm).imp fun σ H Q ⟨Z,B,δ,b,E,hf,q⟩=>by
   obtain⟨d,h1,h2⟩:=R.ak hf;cases d with
   | bl k=>
     cases h2;exact G5 (g:=g) (Q:=fun x H'=>∃k,x= .bl k/\Q k H') ⟨Z,B,δ, .bl b,E,h1,fun v H' s r=>⟨b,by unfold Rep at r;exact r,q H' s⟩⟩
   | _=>cases h2
def GI(g g':D->D->R D)(fa fb fc:FD):FD:=fun δ=>(fa δ).bind fun a=>(fb δ).bind fun b=>(g a b).bind fun r=>match r with
 | .bl true=>(fc δ).bind fun c=>g' b c
 | .bl false=> .ok (.bl false)
 | _=> .no
def Fu:D->R Bool
 | .cu=> .ok false
 | .bl b=> .ok b
 | .int i=> .ok (i !=0)
 | .str x=>R.aR (decide (x.length<=sizeLine)) (.ok ((x.length:Int) !=0))
 | .lst ds=> .ok (!ds.isEmpty)
 | .tup ds=> .ok (!ds.isEmpty)
 | .dct _ _=> .no
def qe(f:FD):aq->R Bool:=fun δ=>(f δ).bind Fu
theorem aC.isEmpty{K:W.Frag}{B:List Addr}{ds:List D}{xs:List V}(h:aC K B H ds xs):ds.isEmpty=xs.isEmpty:=by
 have:=h.length;cases ds <;> cases xs <;> simp_all
theorem Hl{K:W.Frag}{B:List Addr}{d:D}{v:V}{b:Bool}(r:Rep K B H d v)(h:Fu d= .ok b):Fb K v H b:=by
 cases d with
 | cu=>unfold Rep at r;subst r;cases h;exact rfl
 | bl k=>unfold Rep at r;subst r;cases h;exact rfl
 | int i=>unfold Rep at r;subst r;cases h;exact rfl
 | str x=>unfold Rep at r;subst r;obtain⟨h1,h2⟩:=R.aW h;cases h2;exact⟨of_decide_eq_true h1,rfl⟩
 | lst ds=>unfold Rep at r;obtain⟨a,xs,rfl,l,r⟩:=r;cases h;exact .inl ⟨xs,l.sq,by rw[r.isEmpty]⟩
 | tup ds=>unfold Rep at r;obtain⟨a,xs,rfl,l,r⟩:=r;cases h;exact .inr (.inl ⟨xs,l.sq,by rw[r.isEmpty]⟩)
 | dct _ _=>cases h
theorem G_{a:Expr}(ha:PD X a f)(he:∀whole,isTrue a X.env whole=(do let v <-whole;standAt a.pos;holding [v] (truthy v)):=by intro _;rfl):PB X a (qe f):=
 (Ab ha he).imp fun σ H Q ⟨Z,B,δ,b,E,hf,q⟩=>by
   obtain⟨d,h1,h2⟩:=R.ak hf;exact⟨Z,B,δ,d,E,h1,fun v H' s r=>⟨b,Hl r h2,q H' s⟩⟩
def yK(f g:aq->R Bool):aq->R Bool:=fun δ=>(f δ).bind fun b=>if b then g δ else .ok false
def t5(f g:aq->R Bool):aq->R Bool:=fun δ=>(f δ).bind fun b=>if b then .ok true else g δ
def yx(f:aq->R Bool):aq->R Bool:=fun δ=>(f δ).bind fun b=> .ok (!b)
def BX(X:Cx)(e:Expr)(f:aq->R Bool):Prop:=PW X e (ED X.K f)
theorem BX.pb{f:aq->R Bool}(h:BX X e f):PB X e f:=PW.pt h
theorem zA{f:aq->R Bool}(h:PB X a f):BX X (.BoolOp .And [a] pos) f:=DV h
theorem DT{f:aq->R Bool}(h:PB X a f):BX X (.BoolOp .Or [a] pos) f:=AG h
theorem D0{rest:List Expr}{f g:aq->R Bool}(ha:PB X a f)(hb:BX X (.BoolOp .And (b ::rest) pos) g):BX X (.BoolOp .And (a ::b ::rest) pos) (yK f g):=by
 intro wh pins s σ H Q I ⟨Z,B,δ,k,E,hf,q⟩;refine Gu ha hb wh pins s σ H Q I ?_;obtain⟨c,h1,h2⟩:=R.ak hf;refine⟨Z,B,δ,c,E,h1,fun H1 s1=>?_⟩
 cases c with
 | true=>rw [if_pos rfl] at h2 ⊢;exact⟨Z,B,δ,k,E.same s1,h2,fun H' s2=>q H' (s1.trans s2)⟩
 | false=>rw [if_neg (by decide)] at h2 ⊢;cases h2;exact q H1 s1
theorem Gp{rest:List Expr}{f g:aq->R Bool}(ha:PB X a f)(hb:BX X (.BoolOp .Or (b ::rest) pos) g):BX X (.BoolOp .Or (a ::b ::rest) pos) (t5 f g):=by
 intro wh pins s σ H Q I ⟨Z,B,δ,k,E,hf,q⟩;refine Eo ha hb wh pins s σ H Q I ?_;obtain⟨c,h1,h2⟩:=R.ak hf;refine⟨Z,B,δ,c,E,h1,fun H1 s1=>?_⟩
 cases c with
 | true=>rw [if_pos rfl] at h2 ⊢;cases h2;exact q H1 s1
 | false=>rw [if_neg (by decide)] at h2 ⊢;exact⟨Z,B,δ,k,E.same s1,h2,fun H' s2=>q H' (s1.trans s2)⟩
theorem Hs{f:aq->R Bool}(ha:PB X a f):PB X (.UnaryOp .Not a pos) (yx f):=(Gw ha).imp fun σ H Q ⟨Z,B,δ,k,E,hf,q⟩=>by
 obtain⟨c,h1,h2⟩:=R.ak hf;cases h2;exact⟨Z,B,δ,c,E,h1,fun H1 s1=>q H1 s1⟩
def LD(f:FD):aq->R Bool:=fun δ=>(f δ).bind fun d=>match d with | .bl b=> .ok b | _=> .no
def O1(f g:FD):FD:=fun δ=>(LD f δ).bind fun b=>if b then g δ else .ok (.bl false)
def Sb(f g:FD):FD:=fun δ=>(LD f δ).bind fun b=>if b then .ok (.bl true) else g δ
def QE(f:FD):FD:=fun δ=>(LD f δ).bind fun b=> .ok (.bl (!b))
def SV(c:aq->R Bool)(f g:FD):FD:=fun δ=>(c δ).bind fun b=>if b then f δ else g δ
def cI(X:Cx)(f:Value)(g:List D->R D):Prop:=
 ∀(pins:Th) (s:Shared) (σ:St) (H:Hp) (B:List Addr) (ds:List D) (d:D) (xs:List V) (us:List Value),Inv X pins σ H s->(∀a∈B,∃o,H a=some o)->Vals xs us->aC X.K B H ds xs->g ds= .ok d->
  wpAny (model X.prog X.w) X.A (call f us) (EP X pins σ fun z H'=>aP H H'/\Rep X.K B H' d z) X.xe s
def aG(g:List D->R D)(fs:aq->R (List D)):FD:=fun δ=>(fs δ).bind g
theorem cI.r{f:Value}{g:List D->R D}(h:cI X f g):jM X f (fun xs H Q=>∃B ds d,(∀a∈B,∃o,H a=some o)/\aC X.K B H ds xs/\g ds= .ok d/\∀z H',aP H H'->Rep X.K B H' d z->Q z H'):=by
 intro pins s σ H xs us Q I rx ⟨B,ds,d,hb,hr,hg,q⟩;exact dc (h pins s σ H B ds d xs us I hb rx hr hg) fun z s' ⟨zv,H',I',r',s1,r1⟩=>⟨zv,H',I',r',q zv H' s1 r1⟩
theorem xq{K:W.Frag}{g:List D->R D}{fs:aq->R (List D)}{Q:VK}(h:tD K (aG g fs) σ H Q) :
 NB K fs σ H fun vs H1=>∃B ds d,(∀a∈B,∃o,H1 a=some o)/\aC K B H1 ds vs/\g ds= .ok d/\∀z H',aP H1 H'->Rep K B H' d z->Q z H':=by
 obtain⟨Z,B,δ,d,E,hf,q⟩:=h;obtain⟨ds,h1,h2⟩:=R.ak hf;exact⟨Z,B,δ,ds,E,h1,fun vs H1 s1 r1=>⟨B,ds,d,(E.same s1).bs,r1,h2,fun z H' s2 r2=>q z H' (s1.trans s2) r2⟩⟩
theorem zy{g:List D->R D}{x:Str}{id:String}{p pos:Pos}{e:Expr}{es:List Expr}{fs:aq->R (List D)}(hc:cI X (.builtin id) g)(hg:Gl X x)(hm:X.mg x=none)(hv:bootBuiltins x=some (.builtin id))(ha:AK X (e ::es) fs)(hn:x≠"__name__":=by decide)(pY:(x==("__debug__":Str))=false:=by decide)
 (he:starEach (e ::es) X.env=(false,eval e X.env) ::starEach es X.env:=by rfl) (j5:(backTo pos (starEach es X.env)).any (·.1)=false:=by rfl):PD X (.Call (.Name x p) (e ::es) [] pos) (aG g fs):=
 (tH hc.r hg hm hv ha hn pY he j5).imp fun σ H Q h=>xq h
theorem y0{g:List D->R D}{x:Str}{T:String}{p pos:Pos}{e:Expr}{es:List Expr}{fs:aq->R (List D)}(hc:cI X (.type T) g)(hg:Gl X x)(hm:X.mg x=none)(hv:bootBuiltins x=some (.type T))(ha:AK X (e ::es) fs)(hn:x≠"__name__":=by decide)(pY:(x==("__debug__":Str))=false:=by decide)
 (he:starEach (e ::es) X.env=(false,eval e X.env) ::starEach es X.env:=by rfl) (j5:(backTo pos (starEach es X.env)).any (·.1)=false:=by rfl):PD X (.Call (.Name x p) (e ::es) [] pos) (aG g fs):=
 (yV hc.r hg hm hv ha hn pY he j5).imp fun σ H Q h=>xq h
def Dj(K:W.Frag)(n:Nat)(g:List D->R D):Sp:=fun vs H Q _=>vs.length=n/\∃B ds d,(∀a∈B,∃o,H a=some o)/\aC K B H ds vs/\g ds= .ok d/\∀z H',aP H H'->Rep K B H' d z->Q z H'
theorem Dy{g:List D->R D}{k n:Nat}{f:Addr}{fd:FuncData}{ps:List Str}{x:Str}{p pos:Pos}{e:Expr}{es:List Expr}{fs:aq->R (List D)}
 (F:gH X.prog X.w X.K X.mg X.base pZ k f fd ps (Dj X.K n g)) (hr:et k X.A) (hg:Gl X x) (hm:X.mg x=some (.ref f)) (hk:PySem.W.keepIn X.K (.ref f)=true) (hb:Binds X.K fd ps []) (ha:AK X (e ::es) fs)
 (hn:∀δ ds,fs δ= .ok ds->ds.length=n) (pY:(x==("__debug__":Str))=false:=by decide) (he:starEach (e ::es) X.env=(false,eval e X.env) ::starEach es X.env:=by rfl) (j5:(backTo pos (starEach es X.env)).any (·.1)=false:=by rfl) :
 PD X (.Call (.Name x p) (e ::es) [] pos) (aG g fs):=
 (rQ F hr hg hm hk hb .nil Bp ha pY he j5).imp fun σ H Q ⟨Z,B,δ,d,E,hf,q⟩=>by
   obtain⟨ds,h1,h2⟩:=R.ak hf;refine⟨Z,B,δ,ds,E,h1,fun vs H1 s1 r1=>?_⟩
   show Dj X.K n g (vs++[]) H1 Q E0;rw[List.append_nil];exact⟨by rw[<-r1.length];exact hn δ ds h1,B,ds,d,(E.same s1).bs,r1,h2,fun z H' s2 r2=>q z H' (s1.trans s2) r2⟩
end
end L2
end
section
namespace L2
open PySem PySem.Spec PyProof.Rows
inductive Out where
 | nx (δ:aq) | rt (d:D)
abbrev FS:=aq->R Out
structure Ev (Z B:List Addr) (H:Hp) (B':List Addr) (H':Hp):Prop where
 aY:cW B H B' H'
 zs:∀b o,H b=some o->b∈Z->H' b=some o/\b∈B'
theorem Ev.refl(Z B:List Addr)(H:Hp)(zb:∀a∈Z,a∈B):Ev Z B H B H:=⟨cW.refl B H,fun b o e z=>⟨e,zb b z⟩⟩
theorem Ev.trans{Z B B' J7:List Addr}(a:Ev Z B H B' H')(b:Ev Z B' H' J7 lP):Ev Z B H J7 lP:=
 ⟨a.aY.trans b.aY,fun c o e z=>let⟨e1,_⟩:=a.zs c o e z;b.zs c o e1 z⟩
theorem Ev.same{Z B:List Addr}(zb:∀a∈Z,a∈B)(s:aP H H'):Ev Z B H B H':=⟨cW.same s,fun b o e z=>⟨s b o e,zb b z⟩⟩
def wH(K:W.Frag)(Z B:List Addr)(H:Hp)(D:Ends):Out->Prop
 | .nx df=>∀cG B' H',Ev Z B H B' H'->di K Z B' H' cG df->D.nx cG H'
 | .rt d=>∀v B' H',Ev Z B H B' H'->(∀a∈Z,a∈B')->Rep K B' H' d v->D.rt v H'
theorem wH.ev{K:W.Frag}{Z B B1:List Addr}{D:Ends}{o:Out}(q:wH K Z B H D o)(ev:Ev Z B H B1 H1):wH K Z B1 H1 D o:=by
 cases o with
 | nx df=>exact fun cG B' H' BR E'=>q cG B' H' (ev.trans BR) E'
 | rt d=>exact fun v B' H' BR z r=>q v B' H' (ev.trans BR) z r
def sD(K:W.Frag)(F:FS):TS:=fun D σ H=>∃Z B δ o,di K Z B H σ δ/\F δ= .ok o/\wH K Z B H D o
abbrev B5(X:Cx)(st:Stmt)(F:FS):Prop:=PS X st (sD X.K F)
abbrev nE(X:Cx)(st:List Stmt)(F:FS):Prop:=r6 X st (sD X.K F)
section
variable {X:Cx}
def sd:FS:=fun δ=> .ok (.nx δ)
def cU(F G:FS):FS:=fun δ=>(F δ).bind fun o=>match o with | .nx df=>G df | .rt d=> .ok (.rt d)
theorem Dg:nE X [] sd:=xf.imp fun D σ H ⟨Z,B,δ,o,E,hf,q⟩=>by
 cases hf;exact q σ B H (Ev.refl Z B H E.zb) E
theorem HA{K:W.Frag}{F G:FS}{D:Ends}(h:sD K (cU F G) D σ H):IP (sD K F) (sD K G) D σ H:=by
 obtain⟨Z,B,δ,o,E,hf,q⟩:=h;obtain⟨o1,h1,h2⟩:=R.ak hf;refine⟨Z,B,δ,o1,E,h1,?_⟩;cases o1 with
 | nx δ1=>
   intro JQ B1 H1 ev E1;refine⟨Z,B1,δ1,o,E1,h2,?_⟩;cases o with
   | nx e8=>exact fun cG B' H' BR E'=>q cG B' H' (ev.trans BR) E'
   | rt d=>exact fun v B' H' BR z r=>q v B' H' (ev.trans BR) z r
 | rt d=>
   cases h2;exact q
theorem A7{st:Stmt}{rest:List Stmt}{F G:FS}(h1:B5 X st F)(h2:nE X rest G):nE X (st ::rest) (cU F G):=(t6 h1 h2).imp fun D σ H h=>HA h
theorem De{st:Stmt}{F:FS}(h1:B5 X st F):nE X [st] F:=wz h1
theorem di.set{K:W.Frag}{Z B:List Addr}{σ:St}{δ:aq}(E:di K Z B H σ δ){i:Nat}{d:D}{v:V}(hi:i < σ.length)(r:Rep K B H d v):di K Z B H (σ.set i (some v)) (δ.set i (.val d)) where
 len:=by rw[List.length_set,List.length_set];exact E.len
 bs:=E.bs
 zb:=E.zb
 val:=fun j d' e=>by
  by_cases h:i=j
  .subst h;rw[List.getElem?_set_self (by rw[E.len];exact hi)] at e
   cases e;exact⟨v,List.getElem?_set_self hi,r⟩
  .rw [List.getElem?_set_ne h] at e ⊢;exact E.val j d' e
 bld:=fun j ds e=>by
  by_cases h:i=j
  .subst h;rw[List.getElem?_set_self (by rw[E.len];exact hi)] at e
   cases e
  .rw [List.getElem?_set_ne h] at e ⊢;exact E.bld j ds e
 dis:=fun j k a ds es e1 e2 e3 e4=>by
  by_cases h:i=j
  .subst h;rw[List.getElem?_set_self (by rw[E.len];exact hi)] at e1
   cases e1
  .by_cases h':i=k
   .subst h';rw[List.getElem?_set_self (by rw[E.len];exact hi)] at e2
    cases e2
   .rw [List.getElem?_set_ne h] at e1 e3;rw[List.getElem?_set_ne h'] at e2 e4;exact E.dis j k a ds es e1 e2 e3 e4
theorem di.setB{K:W.Frag}{Z B:List Addr}{H:Hp}{σ:St}{δ:aq}(E:di K Z B H σ δ){i:Nat}{ds:List D}{a:Addr}{xs:List V}(hi:i < σ.length)(hB:a∈B)(hZ:a ∉ Z)(hH:H a=some (.lst xs))(r:aC K B H ds xs)
 (new:∀j es,j≠i->δ[j]? =some (.bld es)->σ[j]?≠some (some (.ref a))):di K Z B H (σ.set i (some (.ref a))) (δ.set i (.bld ds)) where
 len:=by rw[List.length_set,List.length_set];exact E.len
 bs:=E.bs
 zb:=E.zb
 val:=fun j d' e=>by
  by_cases h:i=j
  .subst h;rw[List.getElem?_set_self (by rw[E.len];exact hi)] at e
   cases e
  .rw [List.getElem?_set_ne h] at e ⊢;exact E.val j d' e
 bld:=fun j es e=>by
  by_cases h:i=j
  .subst h;rw[List.getElem?_set_self (by rw[E.len];exact hi)] at e
   cases e;exact⟨a,xs,List.getElem?_set_self hi,hB,hZ,hH,r⟩
  .rw [List.getElem?_set_ne h] at e ⊢;exact E.bld j es e
 dis:=fun j k b J4 JR e1 e2 e3 e4=>by
  by_cases h:i=j
  .subst h;by_cases h':i=k
   .exact h'
   .rw [List.getElem?_set_self hi] at e3;cases e3;rw[List.getElem?_set_ne h'] at e2 e4;exact absurd e4 (new k JR (Ne.symm h') e2)
  .by_cases h':i=k
   .subst h';rw[List.getElem?_set_self hi] at e4;cases e4;rw[List.getElem?_set_ne h] at e1 e3;exact absurd e3 (new j J4 (Ne.symm h) e1)
   .rw [List.getElem?_set_ne h] at e1 e3;rw[List.getElem?_set_ne h'] at e2 e4;exact E.dis j k b J4 JR e1 e2 e3 e4
def eU(i:Nat)(f:FD):FS:=fun δ=>(f δ).bind fun d=>R.aR (decide (i < δ.length)) (.ok (.nx (δ.set i (.val d))))
theorem AL{K:W.Frag}{i:Nat}{D:Ends}(h:sD K (eU i f) D σ H):yi (tD K f) (oS i) D σ H:=by
 obtain⟨Z,B,δ,o,E,hf,q⟩:=h;obtain⟨d,h1,h2⟩:=R.ak hf;obtain⟨hi,h3⟩:=R.aW h2;cases h3;refine⟨Z,B,δ,d,E,h1,fun v H1 s1 r1=>?_⟩
 exact q _ B H1 (Ev.same E.zb s1) ((E.same s1).set (by rw[<-E.len];exact of_decide_eq_true hi) r1)
theorem Cq{i:Nat}{pos pos':Pos}(hN:X.N.Nodup)(hi:X.N[i]? =some x)(hx:Loc X.env.scope x)(he:PD X e f)(hs:swapsWith e (some (.Name x pos')) pos.line X.env=pure false:=by rfl)(hf:X.fn x=true\/X.env.scope.names.lookup x=some .local:=by first | exact .inl rfl | exact .inr rfl | assumption) :
 B5 X (.Assign [.Name x pos'] e pos) (eU i f):=(vF hN hi hx he hs hf).imp fun D σ H h=>AL h
def vG(i:Nat)(f:aq->R (List D)):FS:=fun δ=>(f δ).bind fun ds=>R.aR (decide (i < δ.length)) (.ok (.nx (δ.set i (.bld ds))))
theorem Gy{K:W.Frag}{i:Nat}{f:aq->R (List D)}{D:Ends}(h:sD K (vG i f) D σ H):yi (tN K f) (oS i) D σ H:=by
 obtain⟨Z,B,δ,o,E,hf,q⟩:=h;obtain⟨ds,h1,h2⟩:=R.ak hf;obtain⟨hi,h3⟩:=R.aW h2;cases h3;refine⟨Z,B,δ,ds,E,h1,fun a xs H1 s1 n e r=>?_⟩
 have E1:=E.same s1;have aB:a ∉ B:=fun ha=>by obtain⟨o,ho⟩:=E.bs a ha;rw [n] at ho;cases ho
 have nZ:a ∉ Z:=fun ha=>aB (E.zb a ha)
 have p0:cW B H (a ::B) H1:=fun b o e' nb=>⟨s1 b o e',fun hb=>by
  rcases List.mem_cons.mp hb with z | z
  .subst z;rw [n] at e';cases e'
  .exact nb z⟩
 have E2:di K Z (a ::B) H1 σ δ:={
  len:=E.len
  bs:=fun b hb=>by
   rcases List.mem_cons.mp hb with z | z
   .subst z;exact⟨_,e⟩
   .exact E1.bs b z
  zb:=fun b hb=>List.mem_cons_of_mem _ (E.zb b hb)
  val:=fun j d e=>let⟨v,q1,q2⟩:=E.val j d e;⟨v,q1,q2.aY p0⟩
  bld:=fun j es e=>let⟨b,ys,q1,q2,q3,q4,q5⟩:=E.bld j es e;⟨b,ys,q1,List.mem_cons_of_mem _ q2,q3,s1 b _ q4,q5.aY p0⟩
  dis:=E.dis}
 refine q _ (a ::B) H1 ⟨p0,fun b o e' hb=>⟨s1 b o e',List.mem_cons_of_mem _ (E.zb b hb)⟩⟩ (E2.setB (by rw[<-E.len];exact of_decide_eq_true hi) List.mem_cons_self nZ e r fun j es hj ej Ee=>?_)
 obtain⟨b,ys,q1,_,_,q4,_⟩:=E.bld j es ej;rw[Ee] at q1;cases q1;rw[n] at q4;cases q4
theorem Cm{i:Nat}{f:aq->R (List D)}{pos pos':Pos}(hN:X.N.Nodup)(hi:X.N[i]? =some x)(hx:Loc X.env.scope x)(he:PN X e f)(hs:swapsWith e (some (.Name x pos')) pos.line X.env=pure false:=by rfl)(hf:X.fn x=true\/X.env.scope.names.lookup x=some .local:=by first | exact .inl rfl | exact .inr rfl | assumption) :
 B5 X (.Assign [.Name x pos'] e pos) (vG i f):=(vF hN hi hx he hs hf).imp fun D σ H h=>Gy h
theorem di.grow{K:W.Frag}{Z B:List Addr}{H:Hp}{σ:St}{δ:aq}(E:di K Z B H σ δ){i:Nat}{ds es:List D}{a:Addr}{xs ys:List V}(hd:δ[i]? =some (.bld ds))(Ee:σ[i]? =some (some (.ref a)))(hB:a∈B)(hH:H a=some (.lst xs))(r:aC K B H es ys) :
 di K Z B (upd H a (.lst ys)) σ (δ.set i (.bld es))/\cW B H B (upd H a (.lst ys)):=by
 have p:cW B H B (upd H a (.lst ys)):=fun b o e nb=>⟨by rw[bo (fun(z:b=a)=>nb (by rw[z];exact hB))];exact e,nb⟩
 have hi:i < δ.length:=(List.getElem?_eq_some_iff.mp hd).1;refine⟨{
  len:=by rw[List.length_set];exact E.len
  bs:=fun b hb=>by
   by_cases z:b=a
   .subst z;exact⟨_,aU⟩
   .rw [bo z];exact E.bs b hb
  zb:=E.zb
  val:=fun j d e=>by
   by_cases h:i=j
   .subst h;rw [List.getElem?_set_self hi] at e;cases e
   .rw [List.getElem?_set_ne h] at e;obtain⟨v,q1,q2⟩:=E.val j d e;exact⟨v,q1,q2.aY p⟩
  bld:=fun j fs e=>by
   by_cases h:i=j
   .subst h;rw [List.getElem?_set_self hi] at e;cases e;obtain⟨b,zs,q1,q2,q3,_,_⟩:=E.bld i ds hd;rw[Ee] at q1;cases q1;exact⟨a,ys,Ee,hB,q3,aU,r.aY p⟩
   .rw [List.getElem?_set_ne h] at e;obtain⟨b,zs,q1,q2,q3,q4,q5⟩:=E.bld j fs e;have ne:b≠a:=fun z=>by subst z;exact h (E.dis i j b ds fs hd e Ee q1)
    exact⟨b,zs,q1,q2,q3,by rw[bo ne];exact q4,q5.aY p⟩
  dis:=fun j k b J4 JR e1 e2 e3 e4=>by
   have f1:∃fs,δ[j]? =some (.bld fs):=by
    by_cases h:i=j
    .subst h;exact⟨ds,hd⟩
    .rw [List.getElem?_set_ne h] at e1;exact⟨_,e1⟩
   have f2:∃fs,δ[k]? =some (.bld fs):=by
    by_cases h:i=k
    .subst h;exact⟨ds,hd⟩
    .rw [List.getElem?_set_ne h] at e2;exact⟨_,e2⟩
   obtain⟨_,f1⟩:=f1;obtain⟨_,f2⟩:=f2;exact E.dis j k b _ _ f1 f2 e3 e4},p⟩
theorem Ev.grow{Z B:List Addr}{a:Addr}{o:HO}(zb:∀a∈Z,a∈B)(hZ:a ∉ Z)(p:cW B H B (upd H a o)):Ev Z B H B (upd H a o):=
 ⟨p,fun b u e hb=>⟨by rw[bo (fun(z:b=a)=>hZ (by rw[<-z];exact hb))];exact e,zb b hb⟩⟩
def ph(δ:aq)(i:Nat):R (List D):=match δ[i]? with | some (.bld ds)=> .ok ds | _=> .no
theorem uY{δ:aq}{i:Nat}{ds:List D}(h:ph δ i= .ok ds):δ[i]? =some (.bld ds):=by
 unfold ph at h;split at h
 .rename_i q;cases h;exact q
 .cases h
def Qd(i:Nat)(f:FD):FS:=fun δ=>(f δ).bind fun d=>(ph δ i).bind fun ds=>R.aR (decide (ds.length < sizeLine)) (.ok (.nx (δ.set i (.bld (ds++[d])))))
def Cn(i:Nat)(f:aq->R (List D)):FS:=fun δ=>(f δ).bind fun es=>(ph δ i).bind fun ds=>R.aR (decide (ds.length+es.length<=sizeLine)) (.ok (.nx (δ.set i (.bld (ds++es)))))
theorem Dw{i:Nat}{x:Str}{e:Expr}{f:aq->R (List D)}{eZ apos bL pos:Pos}(hN:X.N[i]? =some x)(hv:B4 X.env.scope x)(he:PN X e f)
 (hd:(x==("__debug__":Str))=false:=by decide) (nR:(x==("__classdict__":Str))=false:=by decide)
 (hs:starEach [e] X.env=(false,eval e X.env) ::starEach [] X.env:=by rfl) (gz:(apos.endLine==bL.line)=true:=by rfl)
 (lK:((backTo bL (starEach [e] X.env)).all (fun x=>!x.1) && (backToKw bL (keywordEach [] X.env)).all (fun x=>x.1.isSome)
   && decide (([e]:List Expr).length+([]:List Keyword).length+(if([]:List Keyword).isEmpty then 0 else 1) < 30))=true:=by rfl)
 (ve:swapsWith (.Call (.Attribute (.Name x eZ) "extend" apos) [e] [] bL) none pos.line X.env=pure false:=by rfl)
 (gA:attributeBase (.Name x eZ) "extend" X.env (eval (.Name x eZ) X.env)=eval (.Name x eZ) X.env:=by rfl) :
 B5 X (.Expr (.Call (.Attribute (.Name x eZ) "extend" apos) [e] [] bL) pos) (Cn i f):=by
 refine(nX (yb (X:=X) PySem.F.plainAttrs_list PySem.F.slot_list_extend PySem.F.type_list_extend yy (m3 hN hv hd nR) (dH he gn hs) gA lK gz hs) ve).imp fun D σ H ⟨Z,B,δ,o,E,hf,q⟩=>?_
 obtain⟨es,h1,h2⟩:=R.ak hf;obtain⟨ds,h3,h4⟩:=R.ak h2;obtain⟨hl,h5⟩:=R.aW h4;cases h5;have hb:=uY h3;obtain⟨a,xs,q1,q2,q3,q4,q5⟩:=E.bld i ds hb;refine⟨.ref a,q1, .inl ⟨rfl,xs,lD.of q4⟩,⟨Z,B,δ,es,E,h1,fun b ys H1 s1 n e r=>?_⟩⟩
 have E1:=E.same s1;have r':aC X.K B H1 es ys:=r.aY fun b o e nb=>⟨e,fun hb=>nb (List.mem_cons_of_mem _ hb)⟩
 refine⟨a,b,xs,ys,rfl,rfl,s1 a _ q4,e,by rw[<-q5.length,<-r'.length];exact of_decide_eq_true hl,?_⟩
 obtain⟨E2,p2⟩:=E1.grow (es:=ds++es) (ys:=xs++ys) hb q1 q2 (s1 a _ q4) ((q5.same s1).append r');exact q σ B _ ((Ev.same E.zb s1).trans (Ev.grow E.zb q3 p2)) E2
def ft(i:Nat)(δ:aq):aq:=match δ[i]? with | some (.bld ds)=>δ.set i (.val (.lst ds)) | _=>δ
theorem di.ft{K:W.Frag}{Z B:List Addr}{δ:aq}(E:di K Z B H σ δ)(i:Nat):∃B',Ev Z B H B' H/\di K Z B' H σ (ft i δ):=by
 unfold L2.ft;cases hd:δ[i]? with
 | none=>exact⟨B,Ev.refl Z B H E.zb,E⟩
 | some x=>
   cases x with
   | un=>exact⟨B,Ev.refl Z B H E.zb,E⟩
   | val d=>exact⟨B,Ev.refl Z B H E.zb,E⟩
   | bld ds=>
     obtain⟨a,xs,q1,q2,q3,q4,q5⟩:=E.bld i ds hd;have hi:i < δ.length:=(List.getElem?_eq_some_iff.mp hd).1;have p:cW B H (B.filter fun b=>decide (b≠a)) H:=fun b o e nb=>⟨e,fun hb=>nb (List.mem_filter.mp hb).1⟩
     have zb:∀b∈Z,b∈B.filter fun b=>decide (b≠a):=fun b hb=>List.mem_filter.mpr ⟨E.zb b hb,decide_eq_true fun z=>q3 (z▸hb)⟩
     refine⟨B.filter fun b=>decide (b≠a),⟨p,fun b o e hb=>⟨e,zb b hb⟩⟩,{
      len:=by rw[List.length_set];exact E.len
      bs:=fun b hb=>E.bs b (List.mem_filter.mp hb).1
      zb:=zb
      val:=fun j d e=>by
       by_cases h:i=j
       .subst h;rw [List.getElem?_set_self hi] at e;cases e;refine⟨.ref a,q1,?_⟩;unfold Rep;exact⟨a,xs,rfl, .inl ⟨fun hb=>by simpa using(List.mem_filter.mp hb).2, .inl q4⟩,q5.aY p⟩
       .rw [List.getElem?_set_ne h] at e;obtain⟨v,z1,z2⟩:=E.val j d e;exact⟨v,z1,z2.aY p⟩
      bld:=fun j fs e=>by
       by_cases h:i=j
       .subst h;rw [List.getElem?_set_self hi] at e;cases e
       .rw [List.getElem?_set_ne h] at e;obtain⟨b,zs,z1,z2,z3,z4,z5⟩:=E.bld j fs e;exact⟨b,zs,z1,List.mem_filter.mpr ⟨z2,decide_eq_true fun z=>by subst z;exact h (E.dis i j b ds fs hd e q1 z1)⟩,z3,z4,z5.aY p⟩
      dis:=fun j k b J4 JR e1 e2 e3 e4=>by
       by_cases h:i=j
       .subst h;rw [List.getElem?_set_self hi] at e1;cases e1
       .by_cases h':i=k
        .subst h';rw [List.getElem?_set_self hi] at e2;cases e2
        .rw [List.getElem?_set_ne h] at e1;rw[List.getElem?_set_ne h'] at e2;exact E.dis j k b J4 JR e1 e2 e3 e4}⟩
def zM(i:Nat)(F:FS):FS:=fun δ=>F (ft i δ)
theorem Fg{K:W.Frag}{i:Nat}{F:FS}{D:Ends}(h:sD K (zM i F) D σ H):sD K F D σ H:=by
 obtain⟨Z,B,δ,o,E,hf,q⟩:=h;obtain⟨B1,ev,E1⟩:=E.ft i;refine⟨Z,B1,L2.ft i δ,o,E1,hf,?_⟩;cases o with
 | nx df=>exact fun cG B' H' BR E'=>q cG B' H' (ev.trans BR) E'
 | rt d=>exact fun v B' H' BR z r=>q v B' H' (ev.trans BR) z r
theorem CY(i:Nat){F:FS}(h:nE X E4 F):nE X E4 (zM i F):=h.imp fun D σ H h=>Fg h
def iF(f:FD):FS:=fun δ=>(f δ).bind fun d=> .ok (.rt d)
theorem C_(he:PD X e f):B5 X (.Return (some e) pos) (iF f):=(Bd he).imp fun D σ H ⟨Z,B,δ,o,E,hf,q⟩=>by
 obtain⟨d,h1,h2⟩:=R.ak hf;cases h2;exact⟨Z,B,δ,d,E,h1,fun v H1 s1 r1=>q v B H1 (Ev.same E.zb s1) E.zb r1⟩
def wL(c:aq->R Bool)(F G:FS):FS:=fun δ=>(c δ).bind fun b=>if b then F δ else G δ
theorem F4{fc:aq->R Bool}{F G:FS}(hc:PB X c fc)(ha:nE X a F)(hb:nE X b G):B5 X (.If c a b pos) (wL fc F G):=(EI hc ha hb).imp fun D σ H ⟨Z,B,δ,o,E,hf,q⟩=>by
 obtain⟨k,h1,h2⟩:=R.ak hf;refine⟨Z,B,δ,k,E,h1,fun H1 s1=>?_⟩
 have q':=q.ev (Ev.same E.zb s1);cases k with
 | true=>rw [if_pos rfl] at h2;exact Cy ⟨Z,B,δ,o,E.same s1,h2,q'⟩
 | false=>rw [if_neg (by decide)] at h2;exact Dh ⟨Z,B,δ,o,E.same s1,h2,q'⟩
abbrev FT:=D->aq->R aq
def gD(K:W.Frag)(t:FT):TG:=fun v σ H Q=>∃Z B δ d df,di K Z B H σ δ/\Rep K B H d v/\t d δ= .ok df/\∀cG H',aP H H'->di K Z B H' cG df->cG.length=σ.length->Q cG H'
abbrev Fc(X:Cx)(tg:Expr)(t:FT):Prop:=PG X tg (gD X.K t)
def aJ(i:Nat):FT:=fun d δ=>R.aR (decide (i < δ.length)) (.ok (δ.set i (.val d)))
theorem zV{i:Nat}{pos:Pos}(hN:X.N.Nodup)(hi:X.N[i]? =some x)(hx:Loc X.env.scope x)(hf:X.fn x=true\/X.env.scope.names.lookup x=some .local:=by first | exact .inl rfl | exact .inr rfl | assumption):Fc X (.Name x pos) (aJ i):=
 (xB hN hi hx hf).imp fun v σ H Q ⟨Z,B,δ,d,df,E,r,ht,q⟩=>by
   obtain⟨hi,h⟩:=R.aW ht;cases h;exact q _ H (aP.refl H) (E.set (by rw[<-E.len];exact of_decide_eq_true hi) r) (List.length_set ..)
abbrev zm:=List D->aq->R aq
def Pr(K:W.Frag)(t:zm):Ay:=fun vs σ H Q=>∃Z B δ ds df,di K Z B H σ δ/\aC K B H ds vs/\t ds δ= .ok df/\∀cG H',aP H H'->di K Z B H' cG df->cG.length=σ.length->Q cG H'
abbrev Al(X:Cx)(ts:List Expr)(t:zm):Prop:=D7 X ts (Pr X.K t)
theorem D7.imp{X:Cx}{t t':Ay}(h:D7 X e t)(w:∀v σ H Q,t' v σ H Q->t v σ H Q):D7 X e t':=fun pins s σ H v u Q I r hq=>h pins s σ H v u Q I r (w v σ H Q hq)
def cY:zm:=fun ds δ=>match ds with | []=> .ok δ | _=> .no
def aX(t:FT)(u:zm):zm:=fun ds δ=>match ds with | d ::r=>(t d δ).bind fun df=>u r df | []=> .no
theorem BO:Al X [] cY:=wI.imp fun vs σ H Q ⟨Z,B,δ,ds,df,E,r,ht,q⟩=>by
 cases ds with
 | nil=>unfold aC at r;cases ht;exact⟨r,q σ H (aP.refl H) E rfl⟩
 | cons=>cases ht
theorem yo{u:zm}(h1:Fc X e t)(h2:Al X es u)(hs:(assignEach (e ::es) X.env).map (·.2)=assign e X.env ::(assignEach es X.env).map (·.2):=by rfl):Al X (e ::es) (aX t u):=
 (tQ h1 h2 hs).imp fun vs σ H Q ⟨Z,B,δ,ds,df,E,r,ht,q⟩=>by
   cases ds with
   | nil=>cases ht
   | cons d ds=>
     obtain⟨x,xs,rfl,r1,r2⟩:=r.bX;obtain⟨δ1,h1,h2⟩:=R.ak ht;exact⟨x,xs,rfl,Z,B,δ,d,δ1,E,r1,h1,fun JQ H1 s1 E1 l1=>⟨Z,B,δ1,ds,df,E1,r2.same s1,h2,fun sS H2 s2 E2 l2=>q sS H2 (s1.trans s2) E2 (l2.trans l1)⟩⟩
def c7(n:Nat)(t:zm):FT:=fun d δ=>match d with | .tup ds=>R.aR (decide (ds.length=n)) (t ds δ) | _=> .no
theorem DB{k:Nat}{t:zm}{n:Nat}{pos:Pos}(hc:X.calm=true)(h:Al X es t)(hn:(assignEach es X.env).length=n:=by rfl)(Ed:(assignEach es X.env).findIdx? (·.1)=none:=by rfl):Fc X (.Tuple es k pos) (c7 n t):=
 (zL hc h hn Ed).imp fun v σ H Q ⟨Z,B,δ,d,df,E,r,ht,q⟩=>by
   cases d with
   | tup ds=>
     unfold Rep at r;obtain⟨a,xs,rfl,l,r⟩:=r;obtain⟨hl,h⟩:=R.aW ht;exact⟨a,xs,rfl,l.sq,by rw[<-r.length];exact of_decide_eq_true hl,Z,B,δ,ds,df,E,r,h,q⟩
   | _=>cases ht
def PM(f:FD)(t:FT):FS:=fun δ=>(f δ).bind fun d=>(t d δ).bind fun df=> .ok (.nx df)
def As(K:W.Frag)(B:List Addr)(H:Hp)(J:It)(ds:List D):Prop:=∀B' H',cW B H B' H'->(∀(i:Nat) (d:D),ds[i]? =some d->J.go i H'/\∀x lP,J.yld i H' x lP->(∀a∈B',∃o,H' a=some o)->aP H' lP/\Rep K B' lP d x)/\J.stop ds.length H'
def iD(K:W.Frag)(f:aq->R (List D)):TI:=fun σ H R=>∃Z B δ ds,di K Z B H σ δ/\f δ= .ok ds/\∀J H1,aP H H1->As K B H1 J ds->R J H1
abbrev GG(X:Cx)(tg e:Expr)(f:aq->R (List D)):Prop:=PI X tg e (iD X.K f)
def bV(f:FD):aq->R (List D):=fun δ=>(f δ).bind fun d=>match d with | .lst ds=> .ok ds | .tup ds=> .ok ds | _=> .no
theorem DR(h:PD X e f):GG X tg e (bV f):=by
 intro pins s σ H RR I ⟨Z,B,δ,ds,E,hf,q⟩;obtain⟨d,h1,h2⟩:=R.ak hf;refine dc (h pins s σ H (fun v H1=>aP H H1/\Rep X.K B H1 d v) I ⟨Z,B,δ,d,E,h1,fun v H1 s1 r1=>⟨s1,r1⟩⟩) fun v s1 ⟨x,H1,I1,r1,ss,rr⟩=>?_
 cases d with
 | lst es=>
   cases h2;unfold Rep at rr;obtain⟨a,xs,rfl,l,rr⟩:=rr;cases r1;obtain⟨its,rv,p,hz⟩:=I1.list l.sq;refine wpAny_pyIter_list p.isList ?_;refine⟨s1.heap.objs.size,[s1.heap.objs.size],_,_,H1,rfl,I1.kept (t':=s1.toks) fun b o e=>Heap.get?_push_of_some _ e,za a _,⟨_,Heap.get?_push_size _ rfl,rfl,rfl⟩,fun b hb=>?_,q _ H1 ss fun B' H' pr=>?_⟩
   .have e:b=s1.heap.objs.size:=by simpa using hb
    subst e;exact I1.uV (Nat.le_refl _) (I1.hok.fresh (Nat.le_refl _))
   .have l':sj X.K B' H' a xs:=l.aY pr;have rr':=rr.aY pr;refine⟨fun i d hd=>?_,⟨xs,l'.sq,by rw[rr.length];exact Nat.le_refl _⟩⟩
    obtain⟨x,hx,rx⟩:=rr'.get hd;exact⟨⟨xs,x,l'.sq,hx⟩,fun y lP ⟨e1,e2⟩ _=>by
     subst e1;have:=e2 xs l'.sq;rw[hx] at this;cases this;exact⟨aP.refl _,rx⟩⟩
 | tup es=>
   cases h2;unfold Rep at rr;obtain⟨a,xs,rfl,l,rr⟩:=rr;cases r1;obtain⟨its,rv,p,hz⟩:=I1.tuple l.sq;refine wpAny_pyIter_tuple (show s1.heap.IsTuple a its.toArray from p) ?_
   refine⟨s1.heap.objs.size,[s1.heap.objs.size],_,_,H1,rfl,I1.kept (t':=s1.toks) fun b o e=>Heap.get?_push_of_some _ e,o4 a _,⟨_,Heap.get?_push_size _ rfl,rfl,rfl⟩,fun b hb=>?_,q _ H1 ss fun B' H' pr=>?_⟩
   .have e:b=s1.heap.objs.size:=by simpa using hb
    subst e;exact I1.uV (Nat.le_refl _) (I1.hok.fresh (Nat.le_refl _))
   .have l':qH X.K B' H' a xs:=l.elim (fun z=> .inl ⟨(pr.rd z.2 z.1).2,(pr.rd z.2 z.1).1⟩) .inr
    have rr':=rr.aY pr;refine⟨fun i d hd=>?_,⟨xs,l'.sq,by rw[rr.length];exact Nat.le_refl _⟩⟩
    obtain⟨x,hx,rx⟩:=rr'.get hd;exact⟨⟨xs,x,l'.sq,hx⟩,fun y lP ⟨e1,e2⟩ _=>by
     subst e1;have:=e2 xs l'.sq;rw[hx] at this;cases this;exact⟨aP.refl _,rx⟩⟩
 | _=>cases h2
def jl(lo:Int)(n:Nat):List D:=(List.range n).map fun(i:Nat)=>D.int (lo+i)
theorem G1{K:W.Frag}{B:List Addr}(lo:Int)(n:Nat):As K B H (Jd lo n) (jl lo n):=fun B' H' _=>by
 refine⟨fun i d hd=>?_,?_⟩
 .unfold jl at hd;rw[List.getElem?_map] at hd;cases e:(List.range n)[i]? with
  | none=>rw [e] at hd;cases hd
  | some j=>
    rw[e] at hd;cases hd;obtain⟨hi,ej⟩:=List.getElem?_eq_some_iff.mp e;rw[List.getElem_range] at ej;subst ej;rw[List.length_range] at hi;exact⟨hi,fun x lP ⟨e1,e2⟩ _=>by subst e1 e2;exact⟨aP.refl _,by unfold Rep;rfl⟩⟩
 .show n<=(jl lo n).length;unfold jl;rw[List.length_map,List.length_range];exact Nat.le_refl _
def de(f:FD):aq->R (List D):=fun δ=>(f δ).bind fun d=>match d with | .int j=>R.aR (decide (-(2 ^ 62)<=j/\j < 2 ^ 62)) (.ok (jl 0 j.toNat)) | _=> .no
theorem vw{tg a:Expr}{p pos:Pos}(h:PD X a f)(hg:Gl X "range")(hm:X.mg "range"=none)(hs:starEach [a] X.env=[(false,eval a X.env)]:=by rfl):GG X tg (.Call (.Name "range" p) [a] [] pos) (de f):=
 (yq hg hm (dH h gn hs) hs).imp fun σ H RR ⟨Z,B,δ,ds,E,hf,q⟩=>by
   obtain⟨d,h1,h2⟩:=R.ak hf;cases d with
   | int j=>
     obtain⟨hb,h3⟩:=R.aW h2;cases h3;have hb:=of_decide_eq_true hb;refine⟨Z,B,δ, .int j,E,h1,fun v H1 s1 r1=>⟨j,?_,hb.1,hb.2,q _ H1 s1 (G1 0 _)⟩⟩
     unfold Rep at r1;rw[r1]
   | _=>cases h2
def LU(f g:FD):aq->R (List D):=fun δ=>(f δ).bind fun d=>(g δ).bind fun e=>match d,e with
 | .int i, .int j=>R.aR (decide (-(2 ^ 62)<=i/\i < 2 ^ 62/\ -(2 ^ 62)<=j/\j < 2 ^ 62)) (.ok (jl i (j - i).toNat)) | _,_=> .no
def nc(t:FT)(body:FS):List D->FS
 | [],δ=> .ok (.nx δ)
 | d ::ds,δ=>(t d δ).bind fun δ1=>(body δ1).bind fun o=>match o with | .nx e8=>nc t body ds e8 | .rt r=> .ok (.rt r)
def vq(it:aq->R (List D))(t:FT)(body:FS):FS:=fun δ=>(it δ).bind fun ds=>nc t body ds δ
theorem Cw{tg iter:Expr}{body:List Stmt}{it:aq->R (List D)}{t:FT}{F:FS}{pos:Pos}(hp:PassesOwn (model X.prog X.w) X.A X.env X.xe)(hc:X.calm=true)(hi:GG X tg iter it)(hg:Fc X tg t)(hb:nE X body F)
 (hs:∀x,foldedSetIterable iter X.env x=pure x:=by intro _;rfl):B5 X (.For tg iter body [] pos) (vq it t F):=(Am hp hc hi hg hb hs).imp fun D σ H ⟨Z,B,δ,o,E,hf,q⟩=>by
 obtain⟨ds,h1,h2⟩:=R.ak hf;refine⟨Z,B,δ,ds,E,h1,fun J H1 s1 ir=>?_⟩
 refine⟨fun i m cG H'=>m=ds.length - i/\i<=ds.length/\∃B' df,Ev Z B H1 B' H'/\di X.K Z B' H' cG df/\nc t F (ds.drop i) df= .ok o,⟨ds.length,rfl,Nat.zero_le _,B,δ,Ev.refl Z B H1 E.zb,E.same s1,by simpa using h2⟩,?_⟩
 rintro i m cG H' ⟨rfl,hi,B',df,ev,E',hl⟩;obtain⟨go,stop⟩:=ir B' H' ev.aY;by_cases mE:i < ds.length
 .have hd:ds[i]? =some ds[i]:=List.getElem?_eq_getElem mE;have hdrop:ds.drop i=ds[i] ::ds.drop (i+1):=List.drop_eq_getElem_cons mE;rw[hdrop] at hl;obtain⟨δ1,h3,h4⟩:=R.ak hl;obtain⟨o1,h5,h6⟩:=R.ak h4;obtain⟨g1,g2⟩:=go i _ hd;refine .inr ⟨g1,fun sS H2=>∃B2 e8,Ev Z B H1 B2 H2/\di X.K Z B2 H2 sS e8/\nc t F (ds.drop (i+1)) e8= .ok o,fun sS H2 n=>⟨ds.length - (i+1),by omega,rfl,mE,n⟩,fun x lP y=>?_⟩
  obtain⟨ss,rr⟩:=g2 x lP y E'.bs;refine⟨Z,B',df,ds[i],δ1,E'.same ss,rr,h3,fun sS H2 s2 E2 l2=>⟨Z,B',δ1,o1,E2,h5,?_⟩⟩
  have ev2:Ev Z B H1 B' H2:=ev.trans (Ev.same E'.zb (ss.trans s2));cases o1 with
  | nx e8=>exact fun Eb B3 H3 Mz E3=>⟨B3,e8,ev2.trans Mz,E3,h6⟩
  | rt d=>
    cases h6;exact fun v B3 H3 Mz z r=>q v B3 H3 ((Ev.same E.zb s1).trans (ev2.trans Mz)) z r
 .have e:i=ds.length:=by omega
  subst e;rw[List.drop_length] at hl;cases hl;exact .inl ⟨stop,q cG B' H' ((Ev.same E.zb s1).trans ev) E'⟩
def Bk(c:aq->R Bool)(body:FS):Nat->FS
 | 0,_=> .no
 | n+1,δ=>(c δ).bind fun b=>if b then(body δ).bind fun o=>match o with | .nx e8=>Bk c body n e8 | .rt r=> .ok (.rt r) else .ok (.nx δ)
def LX(n:Nat)(c:aq->R Bool)(body:FS):FS:=fun δ=>Bk c body n δ
def oy(δ:aq)(i:Nat):Sl:=match δ[i]? with | some (.val d)=> .val d | _=> .un
def oq(own:List Str)(kp:List Nat)(δ:aq):aq:=List.replicate own.length .un++kp.map (oy δ)
def l8(t:FT)(c:aq->R Bool)(f:FD)(δ:aq):List D->R (List D)
 | []=> .ok []
 | d ::ds=>(t d δ).bind fun δ1=>(c δ1).bind fun b=>if b then(f δ1).bind fun y=>(l8 t c f δ ds).bind fun ys=> .ok (y ::ys) else l8 t c f δ ds
def cb(it:aq->R (List D))(t:FT)(c:aq->R Bool)(f:FD)(own:List Str)(kp:List Nat):aq->R (List D):=fun δ=>(it δ).bind fun ds=>R.aR (decide (ds.length<=sizeLine)) (l8 t c f (oq own kp δ) ds)
theorem Fj{K:W.Frag}{Z B B':List Addr}{H H':Hp}{δ:aq}{own:List Str}{kp:List Nat}(E:di K Z B H σ δ)(p:cW B H B' H')(hB:∀a∈B',∃o,H' a=some o):di K [] B' H' (cO own kp σ) (oq own kp δ) where
 len:=by unfold cO oq;simp
 bs:=hB
 zb:=fun a ha=>by cases ha
 val:=fun i d e=>by
  unfold oq at e;unfold cO;by_cases hi:i < own.length
  .rw [List.getElem?_append_left (by simpa using hi),List.getElem?_replicate] at e
   split at e <;> cases e
  .rw [List.getElem?_append_right (by simpa using hi),List.length_replicate,List.getElem?_map] at e ⊢
   cases q:kp[i - own.length]? with
   | none=>rw [q] at e;cases e
   | some j=>
     rw[q] at e;have e:oy δ j= .val d:=Option.some.inj e;unfold oy at e;split at e
     .rename_i d' ed;cases e;obtain⟨v,h1,h2⟩:=E.val j d ed;exact⟨v,by simp [h1],h2.aY p⟩
     .cases e
 bld:=fun i ds e=>by
  unfold oq at e;by_cases hi:i < own.length
  .rw [List.getElem?_append_left (by simpa using hi),List.getElem?_replicate] at e
   split at e <;> cases e
  .rw [List.getElem?_append_right (by simpa using hi),List.length_replicate,List.getElem?_map] at e
   cases q:kp[i - own.length]? with
   | none=>rw [q] at e;cases e
   | some j=>
     rw[q] at e;have e:oy δ j= .bld ds:=Option.some.inj e;unfold oy at e;split at e <;> cases e
 dis:=fun i j a ds es e=>by
  unfold oq at e;by_cases hi:i < own.length
  .rw [List.getElem?_append_left (by simpa using hi),List.getElem?_replicate] at e
   split at e <;> cases e
  .rw [List.getElem?_append_right (by simpa using hi),List.length_replicate,List.getElem?_map] at e
   cases q:kp[i - own.length]? with
   | none=>rw [q] at e;cases e
   | some j=>
     rw[q] at e;have e:oy δ j= .bld ds:=Option.some.inj e;unfold oy at e;split at e <;> cases e
theorem xw{K:W.Frag}{it:aq->R (List D)}{c:aq->R Bool}{own:List Str}{kp:List Nat}{Q:VK}(h:tN K (cb it t c f own kp) σ H Q) :
 xN (iD K it) (gD K t) (ED K c) (tD K f) own kp σ H Q:=by
 obtain⟨Z,B,δ,ds,E,hf,q⟩:=h;obtain⟨es,h1,h2⟩:=R.ak hf;obtain⟨hl,h3⟩:=R.aW h2;have hl:=of_decide_eq_true hl;refine⟨Z,B,δ,es,E,h1,fun J H1 s1 ir Dd hD=>?_⟩
 have E1:=E.same s1;have pD:cW B H1 (Dd ::B) (upd H1 Dd (.lst [])):=sZ hD;refine⟨fun i m ys H'=>m=es.length - i/\i<=es.length/\ys.length<=i/\H' Dd=some (.lst ys)/\aP H1 H'/\∃done rest,ds=done++rest/\aC K (Dd ::B) H' done ys/\l8 t c f (oq own kp δ) (es.drop i)= .ok rest,
  ⟨es.length,rfl,Nat.zero_le _,Nat.le_refl _,aU,aT hD,[],ds,rfl,aC.nil,by simpa using h3⟩,?_⟩
 rintro i m ys H' ⟨rfl,hi,hy,hDl,ss,done,rest,rfl,rd,hc⟩;have dB:Dd ∉ B:=fun hb=>by obtain⟨o,ho⟩:=E1.bs Dd hb;rw [hD] at ho;cases ho
 have p':cW B H1 (Dd ::B) H':=fun b o e nb=>⟨ss b o e,fun hb=>by
  rcases List.mem_cons.mp hb with z | z
  .exact bY e hD z
  .exact nb z⟩
 have Ij:∀a∈Dd ::B,∃o,H' a=some o:=fun a ha=>by
  rcases List.mem_cons.mp ha with z | z
  .subst z;exact⟨_,hDl⟩
  .obtain⟨o,ho⟩:=E1.bs a z;exact⟨o,ss a o ho⟩
 obtain⟨go,stop⟩:=ir (Dd ::B) H' p';by_cases mE:i < es.length
 .have hd:es[i]? =some es[i]:=List.getElem?_eq_getElem mE;have hdrop:es.drop i=es[i] ::es.drop (i+1):=List.drop_eq_getElem_cons mE;rw[hdrop] at hc;obtain⟨δ1,h4,h5⟩:=R.ak hc;obtain⟨b,h6,h7⟩:=R.ak h5;obtain⟨g1,g2⟩:=go i _ hd;refine .inr ⟨g1,fun x H2 y=>?_⟩
  obtain⟨sy,ry⟩:=g2 x H2 y Ij;have Ec:di K [] (Dd ::B) H2 (cO own kp σ) (oq own kp δ):=Fj E1 (p'.trans (cW.same sy)) fun a ha=>let⟨o,ho⟩:=Ij a ha;⟨o,sy a o ho⟩
  refine⟨[],Dd ::B,oq own kp δ,es[i],δ1,Ec,ry,h4,fun Eb H3 s3 E3 _=>⟨[],Dd ::B,δ1,b,E3,h6,fun H4 s4=>?_⟩⟩
  have sAll:aP H' H4:=sy.trans (s3.trans s4);cases b with
  | true=>
    rw[if_pos rfl] at h7;refine Cy ?_;obtain⟨yv,h8,h9⟩:=R.ak h7;obtain⟨rs,Mp,HE⟩:=R.ak h9;cases HE;refine⟨[],Dd ::B,δ1,yv,E3.same s4,h8,fun v H5 s5 r5=>?_⟩
    have s':aP H' H5:=sAll.trans s5;have MF:H5 Dd=some (.lst ys):=s' Dd _ hDl;have pu:cW (Dd ::B) H5 (Dd ::B) (upd H5 Dd (.lst (ys++[v]))):=fun b o e nb=>⟨by rw[bo (fun(z:b=Dd)=>nb (by rw[z];exact List.mem_cons_self))];exact e,nb⟩
    refine⟨MF,by omega,es.length - (i+1),by omega,rfl,mE,by rw[List.length_append,List.length_singleton];omega,aU,fun b o e=>?_,done++[yv],rs,by simp,((rd.same s').append (aC.cons r5 aC.nil)).aY pu,Mp⟩
    rw[bo (bY e hD)];exact s' b o (ss b o e)
  | false=>
    rw[if_neg (by decide)] at h7
    refine Dh ?_;exact⟨es.length - (i+1),by omega,rfl,mE,by omega,sAll Dd _ hDl,ss.trans sAll,done,rest,rfl,rd.same sAll,h7⟩
 .have e:i=es.length:=by omega
  subst e;rw[List.drop_length] at hc;cases hc;rw[List.append_nil] at q;exact .inl ⟨stop,q Dd ys H' (s1.trans ss) (s1.free hD) hDl rd⟩
theorem CO{scope:Scope}{own:List Str}{kp:List Nat}{kn:List Str}{tg iter elt:Expr}{ifs:List Expr}{it:aq->R (List D)}{t:FT}{c:aq->R Bool}{f:FD}{pos:Pos}(hc:X.calm=true)(C:eF X scope own kp kn)(hi:GG X tg iter it)
 (hg:∀fp s H,Fc (bx X scope (own++kn) fp s H) tg t) (zl:∀fp s H,mU (bx X scope (own++kn) fp s H) ifs (ED X.K c)) (he:∀fp s H,PD (bx X scope (own++kn) fp s H) elt f)
 (hs:∀x,foldedSetIterable iter X.env x=pure x:=by intro _;rfl):PN X (.ListComp elt [⟨tg,iter,ifs,0⟩] scope pos) (cb it t c f own kp):=
 (C4 hc C hi hg zl he hs).imp fun σ H Q h=>xw h
def fS:aq->R Bool:=fun _=> .ok true
theorem zS:mU X [] (ED X.K fS):=fun pins s σ H Q I ⟨Z,B,δ,b,E,hf,q⟩=>uB pins s σ H Q I (by cases hf;exact q H (aP.refl H))
theorem DH{c:aq->R Bool}(h:PB X e c):mU X [e] (ED X.K c):=uH h
theorem uO{i:Nat}{x:Str}{pos' pX:Pos}{scope:Scope}{own:List Str}{kp:List Nat}{kn:List Str}{tg iter elt:Expr}{ifs:List Expr}{it:aq->R (List D)}{t:FT}{c:aq->R Bool}{f:FD}{pos:Pos}(hc:X.calm=true)
 (hN:X.N.Nodup) (hx:X.N[i]? =some x) (E5:X.env.scope.names.lookup x=some .local) (C:eF X scope own kp kn) (hi:GG X tg iter it)
 (hg:∀fp s H,Fc (bx X scope (own++kn) fp s H) tg t) (zl:∀fp s H,mU (bx X scope (own++kn) fp s H) ifs (ED X.K c)) (he:∀fp s H,PD (bx X scope (own++kn) fp s H) elt f)
 (ve:swapsWith (.ListComp elt [⟨tg,iter,ifs,0⟩] scope pos) (some (.Name x pos')) pX.line X.env=pure true:=by rfl)
 (hs:∀x,foldedSetIterable iter X.env x=pure x:=by intro _;rfl):B5 X (.Assign [.Name x pos'] (.ListComp elt [⟨tg,iter,ifs,0⟩] scope pos) pX) (eU i (eNew (cb it t c f own kp))):=
 (pA hc hN hx E5 C hi hg zl he ve hs).imp fun D σ H h=>by
   have h1:=AL h;obtain⟨Z,B,δ,d,E,hf,q⟩:=h1;obtain⟨ds,h2,h3⟩:=R.ak hf;cases h3;refine xw ⟨Z,B,δ,ds,E,h2,fun a xs H' s n e r=>q _ H' s ?_⟩
   unfold Rep;refine⟨a,xs,rfl, .inl ⟨fun ha=>?_, .inl e⟩,r.aY fun b o e nb=>⟨e,fun hb=>nb (List.mem_cons_of_mem _ hb)⟩⟩
   obtain⟨o,ho⟩:=E.bs a ha;rw[n] at ho;cases ho
end
def cn(N:List Str)(ds:List D):aq:=ds.map .val++List.replicate (N.length - ds.length) .un
def p6(N:List Str)(F:FS):List D->R D:=fun ds=>(F (cn N ds)).bind fun o=>match o with | .rt d=> .ok d | .nx _=> .ok .cu
theorem C0{K:W.Frag}{B:List Addr}{H:Hp}{N:List Str}{ds:List D}{vs:List V}(hB:∀a∈B,∃o,H a=some o)(r:aC K B H ds vs):di K B B H (start N vs) (cn N ds) where
 len:=by unfold start cn;simp [r.length]
 bs:=hB
 zb:=fun a ha=>ha
 val:=fun i d e=>by
  unfold cn at e;unfold start;by_cases hi:i < ds.length
  .rw [List.getElem?_append_left (by simpa using hi),List.getElem?_map] at e
   cases q:ds[i]? with
   | none=>rw [q] at e;cases e
   | some d'=>
     rw[q] at e;cases e;obtain⟨x,h1,h2⟩:=r.get q;exact⟨x,by rw[List.getElem?_append_left (by rw[List.length_map,<-r.length];exact hi),List.getElem?_map,h1];rfl,h2⟩
  .rw [List.getElem?_append_right (by simpa using hi),List.getElem?_replicate] at e
   split at e <;> cases e
 bld:=fun i es e=>by
  unfold cn at e;by_cases hi:i < ds.length
  .rw [List.getElem?_append_left (by simpa using hi),List.getElem?_map] at e
   cases q:ds[i]? with
   | none=>rw [q] at e;cases e
   | some d'=>rw [q] at e;cases e
  .rw [List.getElem?_append_right (by simpa using hi),List.getElem?_replicate] at e
   split at e <;> cases e
 dis:=fun i j a es fs e=>by
  unfold cn at e;by_cases hi:i < ds.length
  .rw [List.getElem?_append_left (by simpa using hi),List.getElem?_map] at e
   cases q:ds[i]? with
   | none=>rw [q] at e;cases e
   | some d'=>rw [q] at e;cases e
  .rw [List.getElem?_append_right (by simpa using hi),List.getElem?_replicate] at e
   split at e <;> cases e
theorem D9{P:Program}{w:World}{K:W.Frag}{mg:Tq}{base:Heap}{x qual:Str}{st:Stmt}{f:Addr}{fd:FuncData}{N ps:List Str}{k:Nat}{F:FS}(Fn:yd K x qual st f fd)(S:bB N ps (aK st))
 (fN:∀(er:Value) (A:Around) (outer:List Env) (s:Shared) (H:Hp) (E:XK),et k (A.deeper (envOfC qual (aK st) s.heap.objs.size f er))->
   nE (mP pZ P w K mg base N qual (aK st) f er A outer s H E).By (bp st) F):gH P w K mg base pZ (k+1) f fd ps (Dj K ps.length (p6 N F)):=by
 refine Fn.ok S (fun vs H Q E h=>h.1) (fun er A outer s H vs Q E hr h=>⟨_,fN er A outer s H E hr,?_⟩)
 obtain⟨_,B,ds,d,hB,r,hg,q⟩:=h;obtain⟨o,h1,h2⟩:=R.ak hg;refine⟨B,B,cn N ds,o,C0 hB r,h1,?_⟩;have sm:∀{B':List Addr} {H':Hp},Ev B B H B' H'->aP H H':=fun {B' H'} ev b u e=>by
  by_cases hb:b∈B
  .exact(ev.zs b u e hb).1
  .exact(ev.aY b u e hb).1
 cases o with
 | nx df=>
   cases h2;exact fun cG B' H' ev _=>q _ H' (sm ev) (by unfold Rep;rfl)
 | rt d'=>
   cases h2;exact fun v B' H' ev z rr=>q v H' (sm ev) (rr.aY fun b o e nb=>⟨e,fun hb=>nb (z b hb)⟩)
end L2
end
section
namespace L2
open PySem PySem.Spec PyProof.Rows
theorem Rep.int{K:W.Frag}{B:List Addr}{i:Int}{v:V}:Rep K B H (.int i) v↔v= .int i:=by unfold Rep;exact Iff.rfl
theorem Rep.bl{K:W.Frag}{B:List Addr}{i:Bool}{v:V}:Rep K B H (.bl i) v↔v= .bl i:=by unfold Rep;exact Iff.rfl
theorem Rep.str{K:W.Frag}{B:List Addr}{v:V}:Rep K B H (.str i) v↔v= .str i:=by unfold Rep;exact Iff.rfl
theorem Rep.cu{K:W.Frag}{B:List Addr}{v:V}:Rep K B H .cu v↔v= .cu:=by unfold Rep;exact Iff.rfl
theorem Rep.lst{K:W.Frag}{B:List Addr}{ds:List D}{v:V}:Rep K B H (.lst ds) v↔∃a xs,v= .ref a/\sj K B H a xs/\aC K B H ds xs:=by rw[Rep]
theorem Rep.tup{K:W.Frag}{B:List Addr}{ds:List D}{v:V}:Rep K B H (.tup ds) v↔∃a xs,v= .ref a/\qH K B H a xs/\aC K B H ds xs:=by rw[Rep]
section
variable {X:Cx}
theorem kH.of{f:Value->Value->Sem Value}{r:R2}{g:D->D->R D}(h:lA X f r)
 (w:∀(B:List Addr) (H:Hp) (da db d:D) (x y:V) (Q:VK),(∀a∈B,∃o,H a=some o)->Rep X.K B H da x->Rep X.K B H db y->g da db= .ok d->(∀z H',aP H H'->Rep X.K B H' d z->Q z H')->r x y H Q):kH X f g:=by
 intro pins s σ H B da db d x y v u I hb rx ry ra rb hg;exact h pins s σ H x y v u _ I rx ry (w B H da db d x y _ hb ra rb hg fun z H' s1 r1=>⟨s1,r1⟩)
theorem cI.of{f:Value}{r:List V->Hp->VK->Prop}{g:List D->R D}(h:jM X f r)
 (w:∀(B:List Addr) (H:Hp) (ds:List D) (d:D) (xs:List V) (Q:VK),(∀a∈B,∃o,H a=some o)->aC X.K B H ds xs->g ds= .ok d->(∀z H',aP H H'->Rep X.K B H' d z->Q z H')->r xs H Q):cI X f g:=by
 intro pins s σ H B ds d xs us I hb rx rs hg;exact h pins s σ H xs us _ I rx (w B H ds d xs _ hb rs hg fun z H' s1 r1=>⟨s1,r1⟩)
theorem cI.or{f:Value}{g g1 g2:List D->R D}(h1:cI X f g1)(h2:cI X f g2)(e:∀a d,g a= .ok d->g1 a= .ok d\/g2 a= .ok d):cI X f g:=by
 intro pins s σ H B ds d xs us I hb rx rs hg;rcases e ds d hg with q | q
 .exact h1 pins s σ H B ds d xs us I hb rx rs q
 .exact h2 pins s σ H B ds d xs us I hb rx rs q
def B0(C:Int->Int->Bool)(g:Int->Int->Int):D->D->R D
 | .int i, .int j=>R.aR (C i j) (.ok (.int (g i j)))
 | _,_=> .no
theorem xQ{f:Value->Value->Sem Value}{C:Int->Int->Bool}{Cp:Int->Int->Prop}{g:Int->Int->Int}(h:lA X f (rI Cp fun i j=> .int (g i j)))(hc:∀i j,C i j=true->Cp i j):kH X f (B0 C g):=
 kH.of h fun B H da db d x y Q _ ra rb hg q=>by
  unfold B0 at hg;split at hg
  .obtain⟨h1,h2⟩:=R.aW hg;cases h2;exact⟨_,_,Rep.int.mp ra,Rep.int.mp rb,hc _ _ h1,q _ H (aP.refl H) (Rep.int.mpr rfl)⟩
  .cases hg
def yS(g:Int->Int->Int):D->D->R D
 | .int i, .int j=> .ok (.int (g i j))
 | _,_=> .no
theorem GU{f:Value->Value->Sem Value}{g:Int->Int->Int}(h:lA X f (Cf fun i j=> .int (g i j))):kH X f (yS g):=
 kH.of h fun B H da db d x y Q _ ra rb hg q=>by
  unfold yS at hg;split at hg
  .cases hg;exact⟨_,_,Rep.int.mp ra,Rep.int.mp rb,q _ H (aP.refl H) (Rep.int.mpr rfl)⟩
  .cases hg
def HQ(g:Int->Int->Bool):D->D->R D
 | .int i, .int j=> .ok (.bl (g i j))
 | _,_=> .no
theorem BH{f:Value->Value->Sem Value}{g:Int->Int->Bool}(h:lA X f (Cf fun i j=> .bl (g i j))):kH X f (HQ g):=
 kH.of h fun B H da db d x y Q _ ra rb hg q=>by
  unfold HQ at hg;split at hg
  .cases hg;exact⟨_,_,Rep.int.mp ra,Rep.int.mp rb,q _ H (aP.refl H) (Rep.bl.mpr rfl)⟩
  .cases hg
abbrev kI:D->D->R D:=yS fun i j=>i - j
theorem mw:kH X (binaryOp .Sub) kI:=GU F6
abbrev kL:D->D->R D:=B0 (fun _ j=>decide (0 < j/\j < 1073741824)) fun i j=>i / j
theorem pI:kH X (binaryOp .FloorDiv) kL:=xQ Ce fun i j h=>(of_decide_eq_true h:0 < j/\j < 1073741824)
abbrev eu:D->D->R D:=B0 (fun _ j=>decide (0 < j)) fun i j=>i % j
theorem eT:kH X (binaryOp .Mod) eu:=xQ GY fun i j h=>of_decide_eq_true h
abbrev yE:D->D->R D:=B0 (fun i j=>decide (0<=j/\j<=1000000/\i.natAbs < 2 ^ 64)) fun i j=>i ^ j.toNat
theorem AD:kH X (binaryOp .Pow) yE:=xQ Fw fun i j h=>(of_decide_eq_true h:0<=j/\j<=1000000/\i.natAbs < 2 ^ 64)
abbrev JL:D->D->R D:=B0 (fun _ j=>decide (0<=j)) fun i j=>i / 2 ^ j.toNat
theorem IS:kH X (binaryOp .RShift) JL:=xQ E7 fun i j h=>of_decide_eq_true h
abbrev Sd:D->D->R D:=yS fun i j=>Builtin.bitAnd i j
abbrev R4:D->D->R D:=yS fun i j=>Builtin.bitOr i j
abbrev R8:D->D->R D:=yS fun i j=>Builtin.bitXor i j
abbrev R_:D->D->R D:=HQ fun i j=>decide (i < j)
abbrev Kp:D->D->R D:=HQ fun i j=>decide (i<=j)
theorem LR:kH X (compareOp .LtE) Kp:=BH Jz
abbrev xj:D->D->R D:=HQ fun i j=>decide (j < i)
theorem yX:kH X (compareOp .Gt) xj:=BH IH
abbrev Iv:D->D->R D:=HQ fun i j=>decide (j<=i)
theorem JN:kH X (compareOp .GtE) Iv:=BH Jn
theorem sj.n_{K:W.Frag}{B:List Addr}{H:Hp}{a:Addr}{xs:List V}(h:H a=some (.lst xs))(n:a ∉ B):sj K B H a xs:= .inl ⟨n, .inl h⟩
theorem Inv.zr{pins:Th}{s:Shared}{a:Addr}{xs:List V}{B:List Addr}(I:Inv X pins σ H s)(h:sj X.K B H a xs):∃(its:List Value) (n:Nat),Vals xs its/\s.heap.get? a=some {cls:= .type "list",data:= .seq its.toArray n}/\xs.length<=sizeLine:=by
 rcases h with⟨_,h⟩ | ⟨its,n,hk,hz,r⟩
 .obtain⟨z,its,n,r,e⟩:=h.ok I.hok;exact⟨its,n,r,e,z⟩
 .exact⟨its,n,r,I.qX a _ hk,hz⟩
theorem xO:lA X (binaryOp .Add) (fun x y H Q=>∃B l b xs zs,x= .ref l/\y= .ref b/\sj X.K B H l xs/\sj X.K B H b zs/\xs.length+zs.length<=sizeLine/\∀p,H p=none->Q (.ref p) (upd H p (.lst (xs++zs)))):=by
 intro pins s σ H x y v u Q I rx ry h;obtain⟨B,l,b,xs,zs,rfl,rfl,hH,hB,hz,q⟩:=h;cases rx;cases ry;obtain⟨its,n,r,e,_⟩:=I.zr hH;obtain⟨lN,n2,r2,e2,_⟩:=I.zr hB;have l1:=r.length;have l2:=r2.length;refine PySem.P.add_list e e2 ?_ (by rw[List.size_toArray,List.size_toArray];omega)
 have ea:its.toArray++lN.toArray=(its++lN).toArray:=by simp
 rw[ea];exact⟨.ref _,_,I.CN (t':=s.toks) (r.append r2) (by rw[List.length_append];omega),rfl,q _ I.fresh⟩
def bU:D->D->R D
 | .int i, .int j=> .ok (.int (i+j))
 | .str a, .str b=>R.aR (decide (a.length+b.length<=sizeLine)) (.ok (.str (a++b)))
 | .lst a, .lst b=>R.aR (decide (a.length+b.length<=sizeLine)) (.ok (.lst (a++b)))
 | _,_=> .no
theorem bH:kH X (binaryOp .Add) bU:=by
 intro pins s σ H B da db d x y v u I hb rx ry ra rb hg;unfold bU at hg;split at hg
 .cases hg;exact F_ pins s σ H x y v u _ I rx ry ⟨_,_,Rep.int.mp ra,Rep.int.mp rb,aP.refl H,Rep.int.mpr rfl⟩
 .obtain⟨h1,h2⟩:=R.aW hg;cases h2;exact vS pins s σ H x y v u _ I rx ry ⟨_,_,Rep.str.mp ra,Rep.str.mp rb,of_decide_eq_true h1,aP.refl H,Rep.str.mpr rfl⟩
 .obtain⟨h1,h2⟩:=R.aW hg;cases h2;obtain⟨a1,Rp,rfl,l1,r1⟩:=Rep.lst.mp ra;obtain⟨a2,Ri,rfl,l2,r2⟩:=Rep.lst.mp rb;refine xO pins s σ H _ _ v u _ I rx ry ⟨B,a1,a2,Rp,Ri,rfl,rfl,l1,l2,by rw[<-r1.length,<-r2.length];exact of_decide_eq_true h1,fun p hp=>⟨aT hp,Rep.lst.mpr ⟨p,_,rfl, .n_ aU fun ha=>?_,(r1.append r2).same (aT hp)⟩⟩⟩
  obtain⟨o,ho⟩:=hb p ha;rw[hp] at ho;cases ho
 .cases hg
theorem DW:lA X (binaryOp .Mult) (fun x y H Q=>∃z n,x= .str z/\y= .int n/\MulOk z n/\Q (.str (Txt.mul z n)) H):=by
 intro pins s σ H x y v u Q I rx ry h;obtain⟨z,n,rfl,rfl,hm,q⟩:=h;obtain⟨t,rfl⟩:=rx;obtain⟨t',rfl⟩:=ry;exact SB.mul hm fun t2 k=>⟨.str _,H,I.tok _,⟨_,rfl⟩,q⟩
end
end L2
end
section
namespace L2
open PySem PySem.Spec PyProof.Rows
section
variable {X:Cx}
theorem mulOk_of{x:Str}{n:Int}(h1: -(2 ^ 63)<=n)(h2:n < 2 ^ 63)(h3:x.length*n.toNat<=sizeLine):MulOk x n:=by
 refine⟨by simp only[Bool.or_eq_false_iff,decide_eq_false_iff_not];omega,fun hn _=>?_,fun hn _=>?_⟩
 .have hz:sizeLine=16777216:=sizeLine_eq;have e:(n.toNat:Int)=n:=by omega
  have h4:(x.length:Int)*n<=16777216:=by
   have:((x.length*n.toNat:Nat):Int)<=((16777216:Nat):Int):=Int.ofNat_le.mpr (by omega)
   rw[Int.natCast_mul,e] at this;exact this
  have:(x.length:Int)<=(2 ^ 63 - 1) / n:=(Int.le_ediv_iff_mul_le (by omega)).mpr (by omega)
  omega
 .unfold Builtin.Str.tooLong;exact decide_eq_false (by omega)
def jm:D->D->R D
 | .int i, .int j=>R.aR (decide ((-(2 ^ 64) < i/\i < 2 ^ 64)\/(-(2 ^ 64) < j/\j < 2 ^ 64))) (.ok (.int (i*j)))
 | .str x, .int n=>R.aR (decide (-(2 ^ 63)<=n/\n < 2 ^ 63/\x.length*n.toNat<=sizeLine)) (.ok (.str (Txt.mul x n)))
 | _,_=> .no
theorem jo:kH X (binaryOp .Mult) jm:=by
 intro pins s σ H B da db d x y v u I hb rx ry ra rb hg;unfold jm at hg;split at hg
 .obtain⟨h1,h2⟩:=R.aW hg;cases h2;have h1:=of_decide_eq_true h1;exact FU pins s σ H x y v u _ I rx ry ⟨_,_,Rep.int.mp ra,Rep.int.mp rb,h1,aP.refl H,Rep.int.mpr rfl⟩
 .obtain⟨h1,h2⟩:=R.aW hg;cases h2;have h1:=of_decide_eq_true h1;exact DW pins s σ H x y v u _ I rx ry ⟨_,_,Rep.str.mp ra,Rep.int.mp rb,mulOk_of h1.1 h1.2.1 h1.2.2,aP.refl H,Rep.str.mpr rfl⟩
 .cases hg
mutual
def toPy:D->PyData
 | .cu=> .none
 | .bl b=> .bool b
 | .int i=> .int i
 | .str x=> .str x
 | .lst ds=> .list (iu ds)
 | .tup ds=> .tuple (iu ds)
 | .dct _ _=> .dict []
def iu:List D->List PyData
 | []=>[]
 | d ::ds=>toPy d ::iu ds
end
mutual
def c8:D->Bool
 | .dct _ _=>false
 | .lst ds=>gO ds
 | .tup ds=>gO ds
 | _=>true
def gO:List D->Bool
 | []=>true
 | d ::ds=>c8 d && gO ds
end
mutual
theorem Rep.reads{pins:Th}{s:Shared}{B:List Addr}(I:Inv X pins σ H s):∀{d:D} {v:V} {u:Value},c8 d=true->Rep X.K B H d v->RelV v u->∃as,Reads s.heap u (toPy d) as
 | .cu,v,u,_,r,q=>by rw[Rep.cu.mp r] at q;cases q;unfold toPy;exact⟨_, .none⟩
 | .bl b,v,u,_,r,q=>by rw[Rep.bl.mp r] at q;cases q;unfold toPy;exact⟨_, .bool b⟩
 | .int i,v,u,_,r,q=>by rw[Rep.int.mp r] at q;obtain⟨t,rfl⟩:=q;unfold toPy;exact⟨_, .int i t⟩
 | .str x,v,u,_,r,q=>by rw[Rep.str.mp r] at q;obtain⟨t,rfl⟩:=q;unfold toPy;exact⟨_, .str x t⟩
 | .lst ds,v,u,hp,r,q=>by
   obtain⟨a,xs,rfl,l,rs⟩:=Rep.lst.mp r;cases q;obtain⟨its,rv,⟨o,n,e,hc,hd,he⟩,_⟩:=I.list l.sq;obtain⟨as,ra⟩:=aC.reads I (by unfold c8 at hp;exact hp) rs rv
   unfold toPy;exact⟨_, .list e hc he (by simpa using ra)⟩
 | .tup ds,v,u,hp,r,q=>by
   obtain⟨a,xs,rfl,l,rs⟩:=Rep.tup.mp r;cases q;obtain⟨its,rv,⟨o,e,hc,n,hd⟩,_⟩:=I.tuple l.sq;obtain⟨as,ra⟩:=aC.reads I (by unfold c8 at hp;exact hp) rs rv
   unfold toPy;exact⟨_, .tuple e hc hd (by simpa using ra)⟩
 | .dct _ _,v,u,hp,r,q=>by unfold c8 at hp;cases hp
theorem aC.reads{pins:Th}{s:Shared}{B:List Addr}(I:Inv X pins σ H s):∀{ds:List D} {vs:List V} {us:List Value},gO ds=true->aC X.K B H ds vs->Vals vs us->∃as,ReadsAll s.heap us (iu ds) as
 | [],vs,us,_,r,q=>by unfold aC at r;subst r;cases q;unfold iu;exact⟨_, .nil⟩
 | d ::ds,vs,us,hp,r,q=>by
   obtain⟨x,xs,rfl,r1,r2⟩:=r.bX;cases q with
   | cons q1 q2=>
     unfold gO at hp;obtain⟨h1,h2⟩:=Bool.and_eq_true_iff.mp hp;obtain⟨as,a1⟩:=Rep.reads I h1 r1 q1;obtain⟨bs,a2⟩:=aC.reads I h2 r2 q2;unfold iu;exact⟨_, .cons a1 a2⟩
end
def CB:D->D->R Bool
 | .int i, .int j=> .ok (decide (i=j))
 | .str x, .str y=> .ok (decide (x=y))
 | .bl a, .bl b=> .ok (decide (a=b))
 | d,e=>R.aR (c8 d && c8 e && SeqAt.shaped (toPy d) && SeqAt.shaped (toPy e)) (.ok (PyData.eqv (toPy d) (toPy e)))
def t7(d e:D):R D:=(CB d e).bind fun b=> .ok (.bl b)
def n0(d e:D):R D:=(CB d e).bind fun b=> .ok (.bl (!b))
theorem qo(hu:X.A.units+64 < cLine):kH X (compareOp .Eq) t7:=by
 intro pins s σ H B da db d x y v u I hb rx ry ra rb hg;obtain⟨b,h1,h2⟩:=R.ak hg;cases h2;unfold CB at h1;split at h1
 .cases h1;rename_i i j;have:=BC pins s σ H x y v u (fun z H'=>aP H H'/\Rep X.K B H' (.bl (decide (i=j))) z) I rx ry
  rw[Rep.int.mp ra,Rep.int.mp rb] at this;refine this ⟨rfl,aP.refl H,Rep.bl.mpr ?_⟩;simp [V.int.injEq]
 .cases h1;rename_i i j;have:=BC pins s σ H x y v u (fun z H'=>aP H H'/\Rep X.K B H' (.bl (decide (i=j))) z) I rx ry
  rw[Rep.str.mp ra,Rep.str.mp rb] at this;refine this ⟨rfl,aP.refl H,Rep.bl.mpr ?_⟩;simp [V.str.injEq]
 .cases h1;rename_i i j;have:=BC pins s σ H x y v u (fun z H'=>aP H H'/\Rep X.K B H' (.bl (decide (i=j))) z) I rx ry
  rw[Rep.bl.mp ra,Rep.bl.mp rb] at this;refine this ⟨rfl,aP.refl H,Rep.bl.mpr ?_⟩;simp [V.bl.injEq]
 .obtain⟨h3,h4⟩:=R.aW h1;cases h4;simp only[Bool.and_eq_true] at h3;obtain⟨⟨⟨p1,p2⟩,s1⟩,s2⟩:=h3;obtain⟨as,r1⟩:=ra.reads I p1 rx;obtain⟨bs,r2⟩:=rb.reads I p2 ry;exact eq_dataH r1 r2 s1 s2 hu ⟨.bl _,H,I,rfl,aP.refl H,Rep.bl.mpr rfl⟩
theorem uN(hu:X.A.units+64 < cLine):kH X (compareOp .NotEq) n0:=by
 intro pins s σ H B da db d x y v u I hb rx ry ra rb hg;obtain⟨b,h1,h2⟩:=R.ak hg;cases h2;unfold CB at h1;split at h1
 .cases h1;rename_i i j;have:=AN pins s σ H x y v u (fun z H'=>aP H H'/\Rep X.K B H' (.bl (!decide (i=j))) z) I rx ry
  rw[Rep.int.mp ra,Rep.int.mp rb] at this;refine this ⟨rfl,aP.refl H,Rep.bl.mpr ?_⟩;simp [V.int.injEq]
 .cases h1;rename_i i j;have:=AN pins s σ H x y v u (fun z H'=>aP H H'/\Rep X.K B H' (.bl (!decide (i=j))) z) I rx ry
  rw[Rep.str.mp ra,Rep.str.mp rb] at this;refine this ⟨rfl,aP.refl H,Rep.bl.mpr ?_⟩;simp [V.str.injEq]
 .cases h1;rename_i i j;have:=AN pins s σ H x y v u (fun z H'=>aP H H'/\Rep X.K B H' (.bl (!decide (i=j))) z) I rx ry
  rw[Rep.bl.mp ra,Rep.bl.mp rb] at this;refine this ⟨rfl,aP.refl H,Rep.bl.mpr ?_⟩;simp [V.bl.injEq]
 .obtain⟨h3,h4⟩:=R.aW h1;cases h4;simp only[Bool.and_eq_true] at h3;obtain⟨⟨⟨p1,p2⟩,s1⟩,s2⟩:=h3;obtain⟨as,r1⟩:=ra.reads I p1 rx;obtain⟨bs,r2⟩:=rb.reads I p2 ry;exact ne_dataH r1 r2 s1 s2 hu ⟨.bl _,H,I,rfl,aP.refl H,Rep.bl.mpr rfl⟩
def strs?:List D->Option (List Str)
 | []=>some []
 | .str x ::ds=>(strs? ds).map (x ::·)
 | _ ::_=>none
theorem iz{K:W.Frag}{B:List Addr}:∀{ds:List D} {xs:List V} {ss:List Str},aC K B H ds xs->strs? ds=some ss->xs=ss.map V.str
 | [],xs,ss,r,h=>by unfold aC at r;subst r;cases h;rfl
 | d ::ds,xs,ss,r,h=>by
   obtain⟨x,r',rfl,r1,r2⟩:=r.bX;cases d with
   | str z=>
     unfold strs? at h;cases e:strs? ds with
     | none=>rw [e] at h;cases h
     | some tt=>
       rw[e] at h;cases h;rw[Rep.str.mp r1,iz r2 e];rfl
   | _=>cases h
def ints?:List D->Option (List Int)
 | []=>some []
 | .int x ::ds=>(ints? ds).map (x ::·)
 | _ ::_=>none
theorem dI{K:W.Frag}{B:List Addr}:∀{ds:List D} {xs:List V} {ss:List Int},aC K B H ds xs->ints? ds=some ss->xs=ss.map V.int
 | [],xs,ss,r,h=>by unfold aC at r;subst r;cases h;rfl
 | d ::ds,xs,ss,r,h=>by
   obtain⟨x,r',rfl,r1,r2⟩:=r.bX;cases d with
   | int z=>
     unfold ints? at h;cases e:ints? ds with
     | none=>rw [e] at h;cases h
     | some tt=>
       rw[e] at h;cases h;rw[Rep.int.mp r1,dI r2 e];rfl
   | _=>cases h
def inD(d e:D):R Bool:=match d,e with
 | .str x, .lst ds=>(match strs? ds with | some ss=> .ok (ss.contains x) | none=> .no)
 | .str x, .tup ds=>(match strs? ds with | some ss=> .ok (ss.contains x) | none=> .no)
 | .str x, .str y=> .ok (!(Builtin.Str.occurrences y x 0 y.length 1).isEmpty)
 | .int x, .lst ds=>(match ints? ds with | some ss=> .ok (ss.contains x) | none=> .no)
 | .int x, .tup ds=>(match ints? ds with | some ss=> .ok (ss.contains x) | none=> .no)
 | _,_=> .no
def Su(d e:D):R D:=(inD d e).bind fun b=> .ok (.bl b)
def mF(d e:D):R D:=(inD d e).bind fun b=> .ok (.bl (!b))
theorem pf(x:Str):∀ss:List Str,EL (.str x) (ss.map V.str)=ss.contains x
 | []=>rfl
 | y ::ss=>by
   unfold EL;rw[List.map_cons,List.any_cons];have ih:=pf x ss;unfold EL at ih;rw[ih];show(y==x || ss.contains x)=_
   rw[List.contains_cons];congr 1;exact Bool.eq_iff_iff.mpr ⟨fun h=>by simpa using(beq_iff_eq.mp h).symm,fun h=>by simpa using(beq_iff_eq.mp h).symm⟩
theorem oY(x:Int):∀ss:List Int,EL (.int x) (ss.map V.int)=ss.contains x
 | []=>rfl
 | y ::ss=>by
   unfold EL;rw[List.map_cons,List.any_cons];have ih:=oY x ss;unfold EL at ih;rw[ih];show(y==x || ss.contains x)=_
   rw[List.contains_cons];congr 1;exact Bool.eq_iff_iff.mpr ⟨fun h=>by simpa using(beq_iff_eq.mp h).symm,fun h=>by simpa using(beq_iff_eq.mp h).symm⟩
theorem qW(ss:List Int):(ss.map V.int).all jg=true:=by
 rw[List.all_map];simp [List.all_eq_true,jg]
theorem qx(ss:List Str):(ss.map V.str).all jg=true:=by
 rw[List.all_map];simp [List.all_eq_true,jg]
theorem Gf{neg:Bool}{op:CmpOp}{g:D->D->R D}(h1:lA X (compareOp op) (NQ X.K neg))(h2:lA X (compareOp op) (fun x y H Q=>∃i j,x= .str i/\y= .str j/\Q (.bl (if neg then !(!(Builtin.Str.occurrences j i 0 j.length 1).isEmpty) else(!(Builtin.Str.occurrences j i 0 j.length 1).isEmpty))) H))
 (hg:∀d e r,g d e= .ok r->∃b,inD d e= .ok b/\r= .bl (if neg then !b else b)):kH X (compareOp op) g:=by
 intro pins s σ H B da db d x y v u I hb rx ry ra rb hg';obtain⟨b,hi,rfl⟩:=hg da db d hg';unfold inD at hi;split at hi
 .rename_i z ds;split at hi
  .rename_i ss e;cases hi;obtain⟨a,xs,rfl,l,rs⟩:=Rep.lst.mp rb;refine h1 pins s σ H x _ v u _ I rx ry ⟨a,xs,rfl, .inl l.sq,by rw[Rep.str.mp ra];rfl,by rw[iz rs e];exact qx _,aP.refl H,Rep.bl.mpr ?_⟩
   rw[iz rs e,Rep.str.mp ra,pf]
  .cases hi
 .rename_i z ds;split at hi
  .rename_i ss e;cases hi;obtain⟨a,xs,rfl,l,rs⟩:=Rep.tup.mp rb;refine h1 pins s σ H x _ v u _ I rx ry ⟨a,xs,rfl, .inr l.sq,by rw[Rep.str.mp ra];rfl,by rw[iz rs e];exact qx _,aP.refl H,Rep.bl.mpr ?_⟩
   rw[iz rs e,Rep.str.mp ra,pf]
  .cases hi
 .cases hi;exact h2 pins s σ H x y v u _ I rx ry ⟨_,_,Rep.str.mp ra,Rep.str.mp rb,aP.refl H,Rep.bl.mpr rfl⟩
 .rename_i z ds;split at hi
  .rename_i ss e;cases hi;obtain⟨a,xs,rfl,l,rs⟩:=Rep.lst.mp rb;refine h1 pins s σ H x _ v u _ I rx ry ⟨a,xs,rfl, .inl l.sq,by rw[Rep.int.mp ra];rfl,by rw[dI rs e];exact qW _,aP.refl H,Rep.bl.mpr ?_⟩
   rw[dI rs e,Rep.int.mp ra,oY]
  .cases hi
 .rename_i z ds;split at hi
  .rename_i ss e;cases hi;obtain⟨a,xs,rfl,l,rs⟩:=Rep.tup.mp rb;refine h1 pins s σ H x _ v u _ I rx ry ⟨a,xs,rfl, .inr l.sq,by rw[Rep.int.mp ra];rfl,by rw[dI rs e];exact qW _,aP.refl H,Rep.bl.mpr ?_⟩
   rw[dI rs e,Rep.int.mp ra,oY]
  .cases hi
 .cases hi
theorem nU:kH X (compareOp .NotIn) mF:=Gf (neg:=true) sF sg fun d e r h=>by
 obtain⟨b,h1,h2⟩:=R.ak h;cases h2;exact⟨b,h1,rfl⟩
def bJ(d e:D):R D:=match d,e with
 | .lst ds, .int i=>(match uy ds i with | some x=> .ok x | none=> .no)
 | .tup ds, .int i=>(match uy ds i with | some x=> .ok x | none=> .no)
 | .str x, .int i=>R.aR (decide (x.length<=sizeLine)) (match uy x.cps.toList i with | some c=> .ok (.str ⟨#[c]⟩) | none=> .no)
 | _,_=> .no
theorem ui{K:W.Frag}{B:List Addr}{ds:List D}{xs:List V}{i:Int}{d:D}(r:aC K B H ds xs)(h:uy ds i=some d):∃x,uy xs i=some x/\Rep K B H d x:=by
 unfold uy at h ⊢;rw[<-r.length];cases e:BY ds.length i with
 | none=>rw [e] at h;cases h
 | some j=>
   rw[e] at h;exact r.get h
theorem JA(ha:PD X a fa)(hb:PD X b fb)(hs:si b):PD X (.Subscript a b pos) (e2 bJ fa fb):=by
 refine(Jx (r:=MM X.K) GN ha hb hs).imp fun σ H Q ⟨Z,B,δ,d,E,hf,q⟩=>?_
 obtain⟨d1,h1,h2⟩:=R.ak hf;obtain⟨d2,h3,h4⟩:=R.ak h2;refine⟨Z,B,δ,d1,E,h1,fun v1 H1 s1 r1=>⟨Z,B,δ,d2,E.same s1,h3,fun v2 H2 s2 r2=>?_⟩⟩
 have vi:=r1.same s2;unfold bJ at h4;split at h4
 .split at h4
  .rename_i e;cases h4;obtain⟨p,xs,rfl,l,rs⟩:=Rep.lst.mp vi;obtain⟨y,e1,e2⟩:=ui rs e;exact .inl ⟨p,xs,_,y,rfl,Rep.int.mp r2,l.sq,e1,q y H2 (s1.trans s2) e2⟩
  .cases h4
 .split at h4
  .rename_i e;cases h4;obtain⟨p,xs,rfl,l,rs⟩:=Rep.tup.mp vi;obtain⟨y,e1,e2⟩:=ui rs e;exact .inr (.inl ⟨p,xs,_,y,rfl,Rep.int.mp r2,l.sq,e1,q y H2 (s1.trans s2) e2⟩)
  .cases h4
 .obtain⟨hl,h5⟩:=R.aW h4;split at h5
  .rename_i e;cases h5;exact .inr (.inr ⟨_,_,_,Rep.str.mp vi,Rep.int.mp r2,of_decide_eq_true hl,e,q _ H2 (s1.trans s2) (Rep.str.mpr rfl)⟩)
  .cases h5
 .cases h4
abbrev FO:=aq->R (Option Int)
def QI(K:W.Frag)(f:FO):TO:=fun σ H Q=>∃Z B δ o,di K Z B H σ δ/\f δ= .ok o/\∀H',aP H H'->Q o H'
theorem PO.imp{X:Cx}{e:Option Expr}{t t':TO}(h:PO X e t)(w:∀σ H Q,t' σ H Q->t σ H Q):PO X e t':=fun pins s σ H Q I hq=>h pins s σ H Q I (w σ H Q hq)
abbrev PP(X:Cx)(e:Option Expr)(f:FO):Prop:=PO X e (QI X.K f)
def xH:FO:=fun _=> .ok none
def pH(f:FD):FO:=fun δ=>(f δ).bind fun d=>match d with | .int i=> .ok (some i) | _=> .no
theorem Cc:PP X none xH:=DD.imp fun σ H Q ⟨Z,B,δ,o,E,hf,q⟩=>by cases hf;exact q H (aP.refl H)
theorem CS(h:PD X e f):PP X (some e) (pH f):=(DN h).imp fun σ H Q ⟨Z,B,δ,o,E,hf,q⟩=>by
 obtain⟨d,h1,h2⟩:=R.ak hf;cases d with
 | int i=>cases h2;exact⟨Z,B,δ, .int i,E,h1,fun v H1 s1 r1=>⟨i,Rep.int.mp r1,q H1 s1⟩⟩
 | _=>cases h2
theorem GS:FW X (fun x lo hi H Q=>∃z,x= .str z/\z.length<=sizeLine/\Q (.str (Txt.slice z lo hi)) H):=by
 intro pins s σ H x v vl vu lo hi sl Q I rx hs pl pu h;obtain⟨z,rfl,hz,q⟩:=h;obtain⟨t,rfl⟩:=rx;refine⟨"str",_,F.slot_str_getitem.lookup,typeIs_str _ _ _,?_⟩;have fin:∀t' k,EP X pins σ Q (.str (Txt.slice z lo hi) t') {s with toks:=k}:=fun t' k=>⟨.str _,H,I.tok _,⟨_,rfl⟩,q⟩
 obtain⟨o,ho,hc,hd⟩:=hs;cases pl with
 | none=>
   cases pu with
   | none=>exact wpAny_getItem_str_slice (l:=none) (u:=none) (st:=none) ⟨o,ho,hc,hd⟩ rfl (post_val_or_str ⟨Nat.le_trans (Txt.slice_le z _ _) hz,fin⟩)
   | int j u=>exact wpAny_getItem_str_slice (l:=none) (u:=some (j,u)) (st:=none) ⟨o,ho,hc,hd⟩ rfl (post_val_or_str ⟨Nat.le_trans (Txt.slice_le z _ _) hz,fin⟩)
 | int i t1=>
   cases pu with
   | none=>exact wpAny_getItem_str_slice (l:=some (i,t1)) (u:=none) (st:=none) ⟨o,ho,hc,hd⟩ rfl (post_val_or_str ⟨Nat.le_trans (Txt.slice_le z _ _) hz,fin⟩)
   | int j u=>exact wpAny_getItem_str_slice (l:=some (i,t1)) (u:=some (j,u)) (st:=none) ⟨o,ho,hc,hd⟩ rfl (post_val_or_str ⟨Nat.le_trans (Txt.slice_le z _ _) hz,fin⟩)
def cutD{α:Type}(xs:List α)(lo hi:Option Int):List α:=(xs.drop (HT.m8 xs.length 0 lo)).take (HT.m8 xs.length xs.length hi - HT.m8 xs.length 0 lo)
def HZ(d:D)(lo hi:Option Int):R D:=match d with
 | .str x=>R.aR (decide (x.length<=sizeLine)) (.ok (.str (Txt.slice x lo hi)))
 | .lst ds=> .ok (.lst (cutD ds lo hi))
 | _=> .no
theorem BI{K:W.Frag}{B:List Addr}{ds:List D}{xs:List V}(r:aC K B H ds xs)(lo hi:Option Int):aC K B H (cutD ds lo hi) (vV xs lo hi):=by
 unfold cutD vV;rw[<-r.length];exact(r.drop _).take _
def Ib(f:FD)(fl fh:FO):FD:=fun δ=>(f δ).bind fun d=>(fl δ).bind fun lo=>(fh δ).bind fun hi=>HZ d lo hi
theorem I_{lo hi:Option Expr}{fl fh:FO}(he:PD X e f)(hl:PP X lo fl)(hh:PP X hi fh):PD X (.Subscript e (.Slice lo hi none p2) pos) (Ib f fl fh):=by
 refine(A_ (GS.or C5) he hl hh).imp fun σ H Q ⟨Z,B,δ,d,E,hf,q⟩=>?_
 obtain⟨d1,h1,h2⟩:=R.ak hf;obtain⟨l,h3,h4⟩:=R.ak h2;obtain⟨h,h5,h6⟩:=R.ak h4;refine⟨Z,B,δ,d1,E,h1,fun v1 H1 s1 r1=>⟨Z,B,δ,l,E.same s1,h3,fun H2 s2=>⟨Z,B,δ,h,(E.same s1).same s2,h5,fun H3 s3=>?_⟩⟩⟩
 have sA:aP H H3:=s1.trans (s2.trans s3);have vi:=r1.same (s2.trans s3);unfold HZ at h6;split at h6
 .obtain⟨hz,h7⟩:=R.aW h6;cases h7;exact .inl ⟨_,Rep.str.mp vi,of_decide_eq_true hz,q _ H3 sA (Rep.str.mpr rfl)⟩
 .cases h6;obtain⟨a,xs,rfl,ls,rs⟩:=Rep.lst.mp vi;refine .inr ⟨a,xs,rfl,ls.sq,fun p hp=>q _ _ (sA.trans (aT hp)) (Rep.lst.mpr ⟨p,_,rfl, .n_ aU fun ha=>?_,(BI rs l h).same (aT hp)⟩)⟩
  obtain⟨o,ho⟩:=(E.same sA).bs p ha;rw[hp] at ho;cases ho
 .cases h6
end
end L2
end
section
namespace L2
open PySem PySem.Spec PyProof.Rows
section
variable {X:Cx}
theorem aC.one{K:W.Frag}{B:List Addr}{d:D}{xs:List V}(h:aC K B H [d] xs):∃x,xs=[x]/\Rep K B H d x:=by
 obtain⟨x,r,rfl,h1,h2⟩:=h.bX;unfold aC at h2;subst h2;exact⟨x,rfl,h1⟩
theorem aC.two{K:W.Frag}{B:List Addr}{d e:D}{xs:List V}(h:aC K B H [d,e] xs):∃x y,xs=[x,y]/\Rep K B H d x/\Rep K B H e y:=by
 obtain⟨x,r,rfl,h1,h2⟩:=h.bX;obtain⟨y,rfl,h3⟩:=h2.one;exact⟨x,y,rfl,h1,h3⟩
def cz:List D->R D
 | [.str x]=>R.aR (decide (x.length<=sizeLine)) (.ok (.int x.length))
 | [.lst ds]=> .ok (.int ds.length)
 | [.tup ds]=> .ok (.int ds.length)
 | _=> .no
theorem cQ:cI X (.builtin "len") cz:=cI.of Aa fun B H ds d xs Q _ rs hg q=>by
 unfold cz at hg;split at hg
 .obtain⟨h1,h2⟩:=R.aW hg;cases h2;obtain⟨x,rfl,r⟩:=rs.one;exact⟨x,_,rfl,by rw[Rep.str.mp r];exact⟨of_decide_eq_true h1,rfl⟩,q _ H (aP.refl H) (Rep.int.mpr rfl)⟩
 .cases hg;obtain⟨x,rfl,r⟩:=rs.one;obtain⟨a,ys,rfl,l,r⟩:=Rep.lst.mp r;exact⟨_,_,rfl, .inl ⟨ys,l.sq,rfl⟩,q _ H (aP.refl H) (Rep.int.mpr (by rw[r.length]))⟩
 .cases hg;obtain⟨x,rfl,r⟩:=rs.one;obtain⟨a,ys,rfl,l,r⟩:=Rep.tup.mp r;exact⟨_,_,rfl, .inr ⟨ys,l.sq,rfl⟩,q _ H (aP.refl H) (Rep.int.mpr (by rw[r.length]))⟩
 .cases hg
def cInt:List D->R D
 | [.int i]=> .ok (.int i)
 | [.bl b]=> .ok (.int (if b then 1 else 0))
 | _=> .no
theorem Ja:cI X (.type "int") cInt:=cI.of yN fun B H ds d xs Q _ rs hg q=>by
 unfold cInt at hg;split at hg
 .cases hg;obtain⟨x,rfl,r⟩:=rs.one;exact .inl ⟨_,by rw[Rep.int.mp r],q _ H (aP.refl H) (Rep.int.mpr rfl)⟩
 .cases hg;obtain⟨x,rfl,r⟩:=rs.one;exact .inr ⟨_,by rw[Rep.bl.mp r],q _ H (aP.refl H) (Rep.int.mpr rfl)⟩
 .cases hg
def cStr:List D->R D
 | [.int i]=>R.aR (decide (i.natAbs.log2 < 1920)) (.ok (.str (toString i)))
 | _=> .no
def Cv:List D->R D
 | [.int i, .int j]=> .ok (.int (if j < i then j else i))
 | _=> .no
theorem IM(hc:X.calm=true):cI X (.builtin "min") Cv:=cI.of (ym hc) fun B H ds d xs Q _ rs hg q=>by
 unfold Cv at hg;split at hg
 .cases hg;obtain⟨x,y,rfl,r1,r2⟩:=rs.two;exact⟨_,_,by rw[Rep.int.mp r1,Rep.int.mp r2],q _ H (aP.refl H) (Rep.int.mpr rfl)⟩
 .cases hg
def KS:List D->R D
 | [.int i, .int j]=> .ok (.int (if j > i then j else i))
 | _=> .no
def iR:List D->R D
 | [.lst ds]=> .ok (.tup ds)
 | [.tup ds]=> .ok (.tup ds)
 | _=> .no
theorem kh:cI X (.type "tuple") iR:=cI.of qk fun B H ds d xs Q hb rs hg q=>by
 unfold iR at hg;split at hg
 .cases hg;obtain⟨x,rfl,r⟩:=rs.one;obtain⟨a,ys,rfl,l,r⟩:=Rep.lst.mp r;refine⟨a,ys,rfl, .inl ⟨l.sq,fun p hp=>q _ _ (aT hp) (Rep.tup.mpr ⟨p,ys,rfl, .inl ⟨fun ha=>?_, .inl aU⟩,r.same (aT hp)⟩)⟩⟩
  obtain⟨o,ho⟩:=hb p ha;rw[hp] at ho;cases ho
 .cases hg;obtain⟨x,rfl,r⟩:=rs.one;have r0:=r;obtain⟨a,ys,rfl,l,r⟩:=Rep.tup.mp r;exact⟨a,ys,rfl, .inr ⟨l.sq,q _ H (aP.refl H) r0⟩⟩
 .cases hg
def jH:List D->R D
 | [.lst ds]=> .ok (.lst ds)
 | [.tup ds]=> .ok (.lst ds)
 | _=> .no
theorem pE:cI X (.type "list") jH:=cI.of sv fun B H ds d xs Q hb rs hg q=>by
 unfold jH at hg;split at hg
 .cases hg;obtain⟨x,rfl,r⟩:=rs.one;obtain⟨a,ys,rfl,l,r⟩:=Rep.lst.mp r;refine⟨a,ys,rfl, .inl l.sq,fun p hp=>q _ _ (aT hp) (Rep.lst.mpr ⟨p,ys,rfl, .n_ aU fun ha=>?_,r.same (aT hp)⟩)⟩
  obtain⟨o,ho⟩:=hb p ha;rw[hp] at ho;cases ho
 .cases hg;obtain⟨x,rfl,r⟩:=rs.one;obtain⟨a,ys,rfl,l,r⟩:=Rep.tup.mp r;refine⟨a,ys,rfl, .inr l.sq,fun p hp=>q _ _ (aT hp) (Rep.lst.mpr ⟨p,ys,rfl, .n_ aU fun ha=>?_,r.same (aT hp)⟩)⟩
  obtain⟨o,ho⟩:=hb p ha;rw[hp] at ho;cases ho
 .cases hg
def cAbs:List D->R D
 | [.int i]=> .ok (.int (if i < 0 then -i else i))
 | _=> .no
def G7:List D->R D
 | [.lst ds]=>(match ints? ds with | some ns=> .ok (.int ns.sum) | none=> .no)
 | _=> .no
theorem fG:∀{ns:List Int} {us:List Value},Vals (ns.map V.int) us->∃l:List (Int × Tok),us=l.map (fun p=>Value.int p.1 p.2)/\l.map (·.1)=ns
 | [],_, .nil=>⟨[],rfl,rfl⟩
 | n ::ns,_, .cons r t=>by
   obtain⟨l,rfl,e⟩:=fG t;obtain⟨tk,rfl⟩:=r;exact⟨(n,tk) ::l,rfl,by rw[List.map_cons,e]⟩
theorem IE(hc:X.calm=true):cI X (.builtin "sum") G7:=by
 intro pins s σ H B ds d xs us I hb rx rs hg;unfold G7 at hg;split at hg
 .split at hg
  .rename_i es ns e;cases hg;obtain⟨x,rfl,r⟩:=rs.one;obtain⟨a,ys,rfl,l,r⟩:=Rep.lst.mp r;obtain⟨u,rfl,ru⟩:=vals1 rx;cases ru;obtain⟨its,n,rv,e1,hz⟩:=I.zr l;rw[dI r e] at rv;obtain⟨ps,rfl,rfl⟩:=fG rv;have hl:s.heap.IsList a (intItems ps.toArray):=⟨_,e1,rfl,n,by simp [intItems]⟩
   refine sum_intListG (I.ok.hd hc) hl fun h' tk t' k=>⟨.int _,H,I.kept k,⟨t',rfl⟩,aP.refl H,Rep.int.mpr ?_⟩
   rw[preSum_eq,List.take_of_length_le (by simp)]
  .cases hg
 .cases hg
def tyName:D->String
 | .cu=>"NoneType" | .bl _=>"bool" | .int _=>"int" | .str _=>"str" | .lst _=>"list" | .tup _=>"tuple" | .dct _ _=>"dict"
def QF(T:String)(f:FD):FD:=fun δ=>(f δ).bind fun d=>R.aR (tyName d==T && d.atom) (.ok (.bl true))
def Kj(X:Cx)(id:String)(g:D->List D->R D):Prop:=
 ∀(pins:Th) (s:Shared) (σ:St) (H:Hp) (B:List Addr) (da d:D) (ds:List D) (x:V) (xs:List V) (v:Value) (us:List Value),Inv X pins σ H s->(∀a∈B,∃o,H a=some o)->RelV x v->Vals xs us->Rep X.K B H da x->aC X.K B H ds xs->g da ds= .ok d->
  wpAny (model X.prog X.w) X.A (call (.builtin id) (v ::us)) (EP X pins σ fun z H'=>aP H H'/\Rep X.K B H' d z) X.xe s
def Gg(T:String)(g:D->List D->R D)(f:FD)(fs:aq->R (List D)):FD:=fun δ=>(f δ).bind fun d=>R.aR (tyName d==T && (d.atom || T=="list")) ((fs δ).bind fun ds=>g d ds)
theorem Kj.r{id:String}{g:D->List D->R D}(h:Kj X id g):Nv X id (fun x xs H Q=>∃B da ds d,(∀a∈B,∃o,H a=some o)/\Rep X.K B H da x/\aC X.K B H ds xs/\g da ds= .ok d/\∀z H',aP H H'->Rep X.K B H' d z->Q z H'):=by
 intro pins s σ H x xs v us Q I rx rxs ⟨B,da,ds,d,hb,ra,rs,hg,q⟩;exact dc (h pins s σ H B da d ds x xs v us I hb rx rxs ra rs hg) fun z s' ⟨zv,H',I',r',s1,r1⟩=>⟨zv,H',I',r',q zv H' s1 r1⟩
theorem Iz{T id:String}{name:Str}{g:D->List D->R D}{o e:Expr}{es:List Expr}{f:FD}{fs:aq->R (List D)}{apos bL:Pos}(pa:PlainAttrs T)(slot:Slot T name id)(MD:typeOf (.builtin id)=pure (.type "method_descriptor"))(hm:Kj X id g)(ho:PD X o f)(ha:AK X (e ::es) fs)
 (hT:T="str"\/T="int"\/T="list")
 (gA:attributeBase o name X.env (eval o X.env)=eval o X.env:=by rfl)
 (lK:((backTo bL (starEach (e ::es) X.env)).all (fun x=>!x.1) && (backToKw bL (keywordEach [] X.env)).all (fun x=>x.1.isSome)
   && decide ((e ::es).length+([]:List Keyword).length+(if([]:List Keyword).isEmpty then 0 else 1) < 30))=true:=by rfl)
 (gz:(apos.endLine==bL.line)=true:=by rfl) (hs:starEach (e ::es) X.env=(false,eval e X.env) ::starEach es X.env:=by rfl) (wt:(backTo bL (starEach es X.env)).any (·.1)=false:=by rfl) :
 PD X (.Call (.Attribute o name apos) (e ::es) [] bL) (Gg T g f fs):=by
 refine(yb pa slot MD hm.r ho ha gA lK gz hs wt).imp fun σ H Q ⟨Z,B,δ,d,E,hf,q⟩=>?_
 obtain⟨d1,h1,h2⟩:=R.ak hf;obtain⟨h3,h4⟩:=R.aW h2;obtain⟨ds,h5,h6⟩:=R.ak h4;obtain⟨h7,h8⟩:=Bool.and_eq_true_iff.mp h3;have h7:tyName d1=T:=by simpa using h7
 refine⟨Z,B,δ,d1,E,h1,fun v1 H1 s1 r1=>⟨?_,Z,B,δ,ds,E.same s1,h5,fun vs H2 s2 r2=>⟨B,d1,ds,d,(E.same (s1.trans s2)).bs,r1.same s2,r2,h6,fun z H' s3 r3=>q z H' (s1.trans (s2.trans s3)) r3⟩⟩⟩
 cases d1 with
 | str z=>rw [Rep.str.mp r1];exact h7.symm
 | int i=>rw [Rep.int.mp r1];exact h7.symm
 | lst es=>obtain⟨a,xs,rfl,l,_⟩:=Rep.lst.mp r1;exact .inl ⟨h7.symm,xs,l.sq⟩
 | cu=>rcases hT with z | z | z <;> (rw [z] at h7;exact absurd (show("NoneType":String)=_ from h7) (by decide))
 | bl _=>rcases hT with z | z | z <;> (rw [z] at h7;exact absurd (show("bool":String)=_ from h7) (by decide))
 | tup _=>rcases hT with z | z | z <;> (rw [z] at h7;exact absurd (show("tuple":String)=_ from h7) (by decide))
 | dct _ _=>rcases hT with z | z | z <;> (rw [z] at h7;exact absurd (show("dict":String)=_ from h7) (by decide))
def NU(d:D)(ds:List D):R D:=match d,ds with
 | .str sep,[.lst es]=>(match strs? es with | some ss=>R.aR (JoinOk sep ss) (.ok (.str (Str.join sep ss))) | none=> .no)
 | _,_=> .no
abbrev PJ(X:Cx)(es:List Expr)(f:aq->R (List Str)):Prop:=
 ∀(pins:Th) (s:Shared) (σ:St) (H:Hp) (Z B:List Addr) (δ:aq) (acc:Str) (ss:List Str) (Q:VK),Inv X pins σ H s->di X.K Z B H σ δ->f δ= .ok ss->(ss.foldl (·++·) acc).length<=sizeLine->(∀H',aP H H'->Q (.str (ss.foldl (·++·) acc)) H')->
  wpAny (model X.prog X.w) X.A (joinParts acc (evalEach es X.env)) (EP X pins σ Q) X.xe s
def QY:aq->R (List Str):=fun _=> .ok []
def MN(f:FD)(g:aq->R (List Str)):aq->R (List Str):=fun δ=>(f δ).bind fun d=>match d with | .str x=>(g δ).bind fun ss=> .ok (x ::ss) | _=> .no
def Kb(g:aq->R (List Str)):FD:=fun δ=>(g δ).bind fun ss=>R.aR (decide ((ss.foldl (·++·) Str.empty).length<=sizeLine)) (.ok (.str (ss.foldl (·++·) Str.empty)))
def Lr:D->R D
 | .str x=>R.aR (decide (x.length<=sizeLine)) (.ok (.str x))
 | .int i=>R.aR (decide (i.natAbs.log2 < 1920)) (.ok (.str (toString i)))
 | _=> .no
def QG(f:FD):FD:=fun δ=>(f δ).bind Lr
def Jk:List (D × D)->Str->R (Option D)
 | [],_=> .ok none
 | (.str y,d) ::r,x=>(Jk r x).bind fun o=> .ok (match o with | some e=>some e | none=>if y=x then some d else none)
 | _ ::_,_=> .no
def Il(x:Str):List D:=x.cps.toList.map fun c=> .str ⟨#[c]⟩
def Sq(x:Str):It:=⟨fun i _=>i < x.cps.size,fun i H v H'=>H'=H/\∃c,x.cps[i]? =some c/\v= .str ⟨#[c]⟩,fun i _=>x.cps.size<=i⟩
def Np(f:FD):aq->R (List D):=fun δ=>(f δ).bind fun d=>match d with | .str x=> .ok (Il x) | _=> .no
def Pk(K:W.Frag)(a:Addr):It:=
 ⟨fun i H=>∃xs x,lD K H a xs/\xs[i]? =some x,fun i H v H'=>∃p x,H p=none/\v= .ref p/\(∀xs,lD K H a xs->xs[i]? =some x)/\H'=upd H p (.tup [.int i,x]),fun i H=>∃xs,lD K H a xs/\xs.length<=i⟩
theorem yz{K:W.Frag}{k:Nat}(a e it:Addr)(Ig:e≠it):Turn P w K (.Tuple elts k pos) (Pk K a) [e,it] e (fun i h=>(∃old,IsEnum h e it ((i:Nat):Int) old)/\h.IsListIter it a i) where
 mem:=by simp
 obj:=fun i h st b hb=>by
  obtain⟨⟨old,he⟩,o,ho,c,d⟩:=st;rcases List.mem_cons.mp hb with rfl | hb
  .exact⟨_,he,fun v z=>by cases z⟩
  .have e:b=it:=by simpa using hb
   subst e;exact⟨o,ho,fun v z=>by rw[d] at z;cases z⟩
 keep:=fun i h h' st k=>by
  obtain⟨⟨old,he⟩,hi⟩:=st;exact⟨⟨old,k e (by simp) _ he⟩,hi.at fun o x=>k it (by simp) o x⟩
 item:=by
  intro X hP hw hK hc i pins s σ H E I hf st hg;subst hP hw hK;obtain⟨xs,x,hq,hx⟩:=hg;obtain⟨its,rv,p,hz⟩:=I.list hq;obtain⟨u,hu,ru⟩:=rv.get hx;obtain⟨⟨old,he⟩,hit⟩:=st;obtain⟨f0,f1,f2,f3,f4,f5⟩:=hf e (by simp)
  obtain⟨g0,g1,g2,g3,g4,g5⟩:=hf it (by simp)
  refine wpAny_pyNext_enum_item he hit p.isList (x:=u) (by simpa using hu) Ig fun iH B8 wx BU J2 BS=>⟨_,rfl,?_⟩
  refine wpAny_letOwnedTupleGo_enum B8 fun lQ BQ j8=>?_
  replace j8:Heap.SameBut e iH lQ:=j8
  have hel:e < s.heap.objs.size:=Heap.lt_size he;have BP:lQ.get? s.heap.objs.size=some {cls:= .type "tuple",data:= .seq #[.int i s.toks,u]}:=(j8.2 _ (Nat.ne_of_gt hel)).trans BU;have kk:∀b o,b≠e->b≠it->s.heap.get? b=some o->lQ.get? b=some o:=fun b o h1 h2 q=>(j8.2 b h1).trans (BS b o h1 h2 q)
  have hn:H s.heap.objs.size=none:=I.fresh;have sm:aP H (upd H s.heap.objs.size (.tup [.int i,x])):=aT hn;have nit:∀b o,H b=some o->b≠e/\b≠it:=fun b o q=>⟨fun z=>(by rw[z,f0] at q;cases q),fun z=>(by rw[z,g0] at q;cases q)⟩
  have hok:kE X.prog X.w (upd H s.heap.objs.size (.tup [.int i,x])) lQ:=fun b ob q=>by
   by_cases hb:b=s.heap.objs.size
   .subst hb;rw[aU] at q;cases q;exact⟨by show 2<=sizeLine;decide,[.int i s.toks,u], .cons ⟨_,rfl⟩ (.cons ru .nil),⟨_,BP,rfl,_,rfl⟩⟩
   .rw [bo hb] at q;refine(I.hok b ob q).vo (fun c v hc z=>?_) (fun c z=>sm c _ z) fun c ys z=>sm c _ z
    rcases hc with rfl | hc
    .exact kk c v (nit c _ q).1 (nit c _ q).2 z
    .exact kk c v (nit c _ hc).1 (nit c _ hc).2 z
  have nch:∀b,b ∉ [e,it]->b≠e/\b≠it:=fun b hb=>⟨fun z=>hb (by simp [z]),fun z=>hb (by simp [z])⟩
  have I2:Inv X pins σ (upd H s.heap.objs.size (.tup [.int i,x])) {s with heap:=lQ,toks:=s.toks+1}:=by
   refine I.step (g':=s.gens) (d':=s.drawn) (ch:=[e,it]) (fun b hb=>?_) (fun b o _ _ hb q _=>kk b o (nch b hb).1 (nch b hb).2 q) (fun b o _ _ hb q _=>⟨o.slots,kk b o (nch b hb).1 (nch b hb).2 q⟩)
    (fun b o hb q n=>by rw[bo (Nat.ne_of_lt (Heap.lt_size q))];exact n) (fun b o hb q=>⟨o,kk b o (nch b hb).1 (nch b hb).2 q⟩) (fun b ys z=>sm b _ z) (fun b o u z=>sm b _ z) (fun b ps z=>⟨#[],by rw[sm b _ z];simp⟩) (fun m hm=>?_) hok I.bare
   .rcases List.mem_cons.mp hb with rfl | hb
    .exact⟨f3,f1,f4,f5⟩
    .have z:b=it:=by simpa using hb
     subst z;exact⟨g3,g1,g4,g5⟩
   .obtain⟨o,es,ep,ho,r⟩:=hm;exact⟨o,es,ep,kk _ o (Ne.symm f1) (Ne.symm g1) ho,r⟩
  refine⟨.ref s.heap.objs.size,_,I2,rfl,⟨s.heap.objs.size,x,hn,rfl,fun ys hy=>(by rw[I.s_ hy hq];exact hx),rfl⟩,⟨⟨_,by simpa using BQ⟩,wx.at fun o q=>(j8.2 it (Ne.symm Ig)).trans q⟩,fun b hb=>?_⟩
  rcases List.mem_cons.mp hb with rfl | hb
  .rw [bo (Nat.ne_of_lt hel)];exact f0
  .have z:b=it:=by simpa using hb
   subst z;obtain⟨o,ho,_⟩:=hit;rw[bo (Nat.ne_of_lt (Heap.lt_size ho))];exact g0
 done:=by
  intro X hP hw hK hc i pins s σ H E I hf st hg;subst hP hw hK;obtain⟨xs,hq,hx⟩:=hg;obtain⟨its,rv,p,hz⟩:=I.list hq;obtain⟨⟨old,he⟩,hit⟩:=st;obtain⟨g0,g1,g2,g3,g4,g5⟩:=hf it (by simp)
  have hl:=rv.length;exact wpAny_pyNext_enum_end (I.ok.hd hc) he hit p.isList (by simp;omega) fun h' eb=>⟨rfl,I.turned (t':=s.toks) (fun b o hb q=>eb b o hb q) g0 g1 g3 g4 g5⟩
 self:=fun A i s Q E st h=>let⟨⟨_,he⟩,_⟩:=st;wpAny_pyIter_enum he h
def eD(ds:List D):List D:=ds.zipIdx.map fun p=> .tup [.int p.2,p.1]
def gW(f:FD):aq->R (List D):=fun δ=>(f δ).bind fun d=>match d with | .lst ds=> .ok (eD ds) | _=> .no
theorem t4{elts:List Expr}{k:Nat}{sP:Pos}{p pos:Pos}(h:PD X a f)(hg:Gl X "enumerate")(hm:X.mg "enumerate"=none)(hs:starEach [a] X.env=[(false,eval a X.env)]:=by rfl):GG X (.Tuple elts k sP) (.Call (.Name "enumerate" p) [a] [] pos) (gW f):=by
 intro pins s σ H RR I ⟨Z,B,δ,ds,E,hf,q⟩;obtain⟨d,h1,h2⟩:=R.ak hf;have hA:=dH h gn hs pos pins s σ H (fun vs H1=>aP H H1/\∃v,vs=[v]/\Rep X.K B H1 d v) I ⟨Z,B,δ,d,E,h1,fun v H1 s1 r1=>⟨s1,v,rfl,r1⟩⟩
 refine Call_ (fQ I hg hm boot_enumerate (PyProof.Rows.callWith_type1 (dc hA fun us s1 ⟨vs,H1,I1,r1,ss,v,ev,rr⟩=>?_) hs rfl))
 subst ev;obtain⟨u,rfl,ru⟩:=vals1 r1;cases d with
 | lst es=>
   cases h2;obtain⟨b,xs,rfl,l,rs⟩:=Rep.lst.mp rr;cases ru;obtain⟨its,n,rv,e1,hz⟩:=I1.zr l;refine call_enumerate_list (items:=its.toArray) ⟨_,e1,rfl,n,rfl⟩ fun h' he hit hsz kk=>wpAny_pyIter_enum he ?_
   have I2:Inv X pins σ H1 {s1 with heap:=h'}:=I1.kept (t':=s1.toks) kk
   refine⟨s1.heap.objs.size+1,[s1.heap.objs.size+1,s1.heap.objs.size],_,_,H1,rfl,I2,yz b (s1.heap.objs.size+1) s1.heap.objs.size (Nat.succ_ne_self _),⟨⟨_,he⟩,hit⟩,fun c hc=>?_,q _ H1 ss fun B' H' pr=>?_⟩
   .have hle:s1.heap.objs.size<=c:=by
     rcases List.mem_cons.mp hc with z | hc
     .rw [z];exact Nat.le_succ _
     .have z:c=s1.heap.objs.size:=by simpa using hc
      rw[z];exact Nat.le_refl _
    exact I1.uV hle (I1.hok.fresh hle)
   .have l':sj X.K B' H' b xs:=l.aY pr;have rs':=rs.aY pr;refine⟨fun i d hd=>?_,⟨xs,l'.sq,by rw[<-rs.length];unfold eD;simp⟩⟩
    unfold eD at hd;rw[List.getElem?_map,List.getElem?_zipIdx] at hd;cases e:es[i]? with
    | none=>rw [e] at hd;cases hd
    | some d0=>
      rw[e] at hd;have hd:D.tup [.int ((0+i:Nat):Int),d0]=d:=Option.some.inj hd;rw[Nat.zero_add] at hd;obtain⟨x,hx,rx⟩:=rs'.get e;refine⟨⟨xs,x,l'.sq,hx⟩,fun v lP y Ij=>?_⟩
      obtain⟨p,y,hp,rfl,hy,rfl⟩:=y;refine⟨aT hp,?_⟩;subst hd;have hy2:=hy xs l'.sq;rw[hx] at hy2;cases hy2;refine Rep.tup.mpr ⟨p,_,rfl, .inl ⟨fun ha=>?_, .inl aU⟩,aC.cons (Rep.int.mpr rfl) (aC.cons (rx.same (aT hp)) aC.nil)⟩
      obtain⟨o,ho⟩:=Ij p ha;rw[hp] at ho;cases ho
 | _=>cases h2
end
end L2
end
section
namespace L2
open PySem PySem.Spec PyProof.Rows
def Def(K:W.Frag)(mg:Tq)(x:Str)(st:Stmt):Prop:=∃f fd,yd K x x st f fd/\mg x=some (.ref f)
def Callee(P:Program)(w:World)(K:W.Frag)(mg:Tq)(base:Heap)(k:Nat)(x:Str)(n:Nat)(g:List D->R D):Prop:=
 ∃f fd ps,gH P w K mg base pZ k f fd ps (Dj K n g)/\mg x=some (.ref f)/\PySem.W.keepIn K (.ref f)=true/\Binds K fd ps []
theorem zU:∀(δ:aq) (ds:List D),aD δ= .ok ds->ds.length=0:=fun δ ds h=>by cases h;rfl
theorem yD{g:aq->R (List D)}{n:Nat}(h:∀(δ:aq) (ds:List D),g δ= .ok ds->ds.length=n):∀(δ:aq) (ds:List D),ag f g δ= .ok ds->ds.length=n+1:=fun δ ds e=>by
 obtain⟨d,h1,h2⟩:=R.ak e;obtain⟨es,h3,h4⟩:=R.ak h2;cases h4;rw[List.length_cons,h δ es h3]
theorem AY{P:Program}{w:World}{K:W.Frag}{mg:Tq}{base:Heap}{x qual:Str}{st:Stmt}{f:Addr}{fd:FuncData}{N ps:List Str}{k:Nat}{F:FS}{b:List Stmt}{sc:Scope}(hb:bp st=b)(hs:aK st=sc)(Fn:yd K x qual st f fd)(S:bB N ps sc)
 (fN:∀(er:Value) (A:Around) (outer:List Env) (s:Shared) (H:Hp) (E:XK),et k (A.deeper (envOfC qual sc s.heap.objs.size f er))->
   nE (mP pZ P w K mg base N qual sc f er A outer s H E).By b F):gH P w K mg base pZ (k+1) f fd ps (Dj K ps.length (p6 N F)):=by
 subst hb hs;exact D9 Fn S fN
section
variable {X:Cx}
theorem Be{g:List D->R D}{k j n:Nat}{x:Str}{p pos:Pos}{e:Expr}{es:List Expr}{fs:aq->R (List D)}(C:Callee X.prog X.w X.K X.mg X.base k x n g)(hr:et j X.A)(Ej:k<=j)(hg:Gl X x)(ha:AK X (e ::es) fs)
 (hn:∀δ ds,fs δ= .ok ds->ds.length=n) (pY:(x==("__debug__":Str))=false:=by decide) (he:starEach (e ::es) X.env=(false,eval e X.env) ::starEach es X.env:=by rfl) (j5:(backTo pos (starEach es X.env)).any (·.1)=false:=by rfl) :
 PD X (.Call (.Name x p) (e ::es) [] pos) (aG g fs):=by
 obtain⟨f,fd,ps,F,hm,hk,hb⟩:=C;exact Dy F (hr.mono Ej) hg hm hk hb ha hn pY he j5
def Gb(sc:Scope)(N:List Str)(scope:Scope)(kp:List Nat)(kn:List Str):Bool:=
 decide (scope.kind= .function) && scope.names.all (fun y=>decide (y.2= .cell->scope.names.lookup y.1=some .cell)) && scope.names.all (fun y=>decide (y.2= .local->scope.names.lookup y.1=some .local))
  && scope.names.all (fun y=>decide (y.2= .free->(sc.names.lookup y.1=some .cell\/sc.names.lookup y.1=some .free))) && scope.names.all (fun y=>decide (y.2= .free->scope.names.lookup y.1=some .free)) && decide (kn.length=kp.length)
  && (List.range kp.length).all (fun j=>decide ((kp[j]?).bind (N[·]?)=kn[j]?)) && kn.all (fun x=>decide (scope.names.lookup x=some .free))
theorem eF.of{own:List Str}{kp:List Nat}{kn:List Str}{N:List Str}(h1:X.env.scope=sc)(h2:X.N=N)(h:Gb sc N scope kp kn=true):eF X scope own kp kn:=by
 unfold Gb at h;simp only[Bool.and_eq_true,decide_eq_true_eq,List.all_eq_true] at h;obtain⟨⟨⟨⟨⟨⟨⟨a1,a2⟩,a3⟩,a4⟩,a8⟩,a5⟩,a6⟩,a7⟩:=h;refine⟨a1,a2,a3,fun y hy hf=>?_,a8,a5,fun j i x hj hx=>?_,a7⟩
 .have:=a4 y hy hf;unfold Env.kindOf;rw[h1];exact this
 .have mE:j < kp.length:=(List.getElem?_eq_some_iff.mp hj).1;have:=a6 j (List.mem_range.mpr mE);rw[hj] at this;rw[h2];exact this.trans hx
def nF(kp:List Nat)(N:List Str):List Str:=kp.map fun i=>N.getD i Str.empty
theorem KZ{own:List Str}{kp:List Nat}{kn:List Str}(h:Gb X.env.scope X.N scope kp kn=true):eF X scope own kp kn:=eF.of rfl rfl h
def MW:List Str->Bool
 | []=>true
 | x ::l=>!l.contains x && MW l
theorem EF:∀{l:List Str},MW l=true->l.Nodup
 | [],_=>List.nodup_nil
 | x ::l,h=>by
   obtain⟨h1,h2⟩:=Bool.and_eq_true_iff.mp h;exact List.nodup_cons.mpr ⟨fun q=>(by rw[List.contains_iff_mem.mpr q] at h1;cases h1),EF h2⟩
def zP(kvs:List (Key × V))(f g:FD):FD:=fun δ=>(f δ).bind fun k=>(g δ).bind fun d=>match k with
 | .str x=>(match eY (iZ [] kvs) (Sum.inr x) with | some (.int i)=> .ok (.int i) | none=> .ok d | _=> .no)
 | _=> .no
theorem Hb{keys:List (Option Expr)}{values:List Expr}{rj:List (TE × TE)}{sT apos bL:Pos}{e f:Expr}{fe ff:FD}{kvs:List (Key × V)}(hu:X.A.units+1 < cLine)(h:Fx X sT keys values rj)(zk:keys.all (·.isSome)=true)(hl:keys.length=values.length)(h0:keys≠[])
 (hc:∀σ H Q,Q (kvs.map fun kv=>(kV kv.1,kv.2)) H->mQ rj σ H Q) (hlen:kvs.length<=15) (he:PD X e fe) (hf:PD X f ff) (m:M2 X (.Dict keys values sT) "get" apos e f bL)
 (hd:PE X (.Dict keys values sT) (zR rj)):PD X (.Call (.Attribute (.Dict keys values sT) "get" apos) [e,f] [] bL) (zP kvs fe ff):=by
 refine(A5 hu hd he hf m).imp fun σ H Q ⟨Z,B,δ,d,E,hfd,q⟩=>?_
 obtain⟨k,h1,h2⟩:=R.ak hfd;obtain⟨dd,h3,h4⟩:=R.ak h2;intro p hp;refine hc σ _ _ ⟨aU,kvs,rfl,hlen,p,rfl, .inl ⟨_, .inl aU⟩,?_⟩;rw[C7];have s0:aP H (upd H p (.dK (iZ [] kvs))):=aT hp;refine⟨Z,B,δ,k,E.same s0,h1,fun v1 H1 s1 r1=>⟨Z,B,δ,dd,(E.same s0).same s1,h3,fun v2 H2 s2 r2=>?_⟩⟩
 have hH2:H2 p=some (.dK (iZ [] kvs)):=s2 p _ (s1 p _ aU);have sA:aP H H2:=s0.trans (s1.trans s2);split at h4
 .rename_i x;refine⟨eY (iZ [] kvs) (Sum.inr x),?_,?_⟩
  .rw [Rep.str.mp r1];exact jw.k (k:=Sum.inr x) hH2
  .split at h4
   .rename_i i e1;cases h4;rw[e1];exact q _ H2 sA (Rep.int.mpr rfl)
   .rename_i e1;cases h4;rw[e1];exact q _ H2 sA r2
   .cases h4
 .cases h4
def Nq(i:Nat)(f:FD):FS:=fun δ=>(f δ).bind fun d=>match d with
 | .lst es=>(ph δ i).bind fun ds=>R.aR (decide (ds.length+es.length<=sizeLine)) (.ok (.nx (δ.set i (.bld (ds++es)))))
 | _=> .no
end
end L2
end
section
namespace L2
open PySem PySem.Spec PyProof.Rows
structure QD (X:Cx) (e:Expr) (f:FD):Prop where
 h:PD X e f
structure QN (X:Cx) (e:Expr) (f:aq->R (List D)):Prop where
 h:PN X e f
structure QB (X:Cx) (e:Expr) (f:aq->R Bool):Prop where
 h:PB X e f
structure GV (X:Cx) (e:Expr) (f:aq->R Bool):Prop where
 h:BX X e f
structure CL (X:Cx) (e:List Expr) (f:aq->R (List D)):Prop where
 h:AK X e f
structure Az (X:Cx) (e:Stmt) (f:FS):Prop where
 h:B5 X e f
structure oZ (X:Cx) (e:List Stmt) (f:FS):Prop where
 h:nE X e f
structure HW (X:Cx) (e:Expr) (f:FT):Prop where
 h:Fc X e f
structure DF (X:Cx) (e:List Expr) (f:zm):Prop where
 h:Al X e f
structure w6 (X:Cx) (tg e:Expr) (f:aq->R (List D)):Prop where
 h:GG X tg e f
structure QP (X:Cx) (e:Option Expr) (f:FO):Prop where
 h:PP X e f
structure QJ (X:Cx) (e:List Expr) (f:aq->R (List Str)):Prop where
 h:PJ X e f
structure D3 (X:Cx) (e:List Expr) (c:aq->R Bool):Prop where
 h:mU X e (ED X.K c)
section
variable {X:Cx}
theorem a_{f:aq->R (List D)}(h:QN X e f):QD X e (eNew f):=⟨Fo h.1⟩
theorem aa(i:Nat){pos:Pos}(hN:X.N[i]? =some x:=by rfl)(hv:B4 X.env.scope x:=by first | exact Or.inl rfl | exact Or.inr (Or.inl rfl) | exact Or.inr (Or.inr rfl))(hd:(x==("__debug__":Str))=false:=by decide)(nR:(x==("__classdict__":Str))=false:=by decide):QD X (.Name x pos) (af i):=⟨G3 i hN hv hd nR⟩
theorem aj{i j pos}:QD X (.Constant (.int i) j pos) (eC (.int i)):=⟨Gs⟩
theorem jZ{b j pos}:QD X (.Constant (.bool b) j pos) (eC (.bl b)):=⟨Iy⟩
theorem b8{x j pos}:QD X (.Constant (.str x) j pos) (eC (.str x)):=⟨GA⟩
theorem oI{d:D}{pos:Pos}(g:Glob X.K X.mg x d)(hg:Gl X x)(hd:(x==("__debug__":Str))=false:=by decide):QD X (.Name x pos) (eC d):=⟨Cr g hg hd⟩
theorem ah:CL X [] aD:=⟨Ci⟩
theorem ab{g:aq->R (List D)}(h:QD X e f)(t:CL X es g)(hs:starEach (e ::es) X.env=(false,eval e X.env) ::starEach es X.env:=by rfl):CL X (e ::es) (ag f g):=⟨AV h.1 t.1 hs⟩
theorem bj{g:aq->R (List D)}{x1 pos}(h:CL X es g):QD X (.Tuple es x1 pos) (cN g):=⟨Gz h.1⟩
theorem cg{g:aq->R (List D)}{pos}(h:CL X es g):QN X (.List es pos) (dP g):=⟨Fi h.1⟩
theorem aA{op:Operator}{g:D->D->R D}(ho:kH X (binaryOp op) g)(ha:QD X a fa)(hb:QD X b fb):QD X (.BinOp a op b pos) (e2 g fa fb):=⟨Ip ho ha.1 hb.1⟩
theorem n5{op:CmpOp}{g:D->D->R D}{pos:Pos}(ho:kH X (compareOp op) g)(ha:QD X a fa)(hb:QD X b fb)(hm:behindInMarks op b=false:=by first | exact wk _ | with_unfolding_all rfl):QD X (.Compare a [op] [b] pos) (e2 g fa fb):=⟨Hd ho ha.1 hb.1 hm⟩
theorem bC{op:CmpOp}{g:D->D->R D}{pos:Pos}(ho:kH X (compareOp op) g)(ha:QD X a fa)(hb:QD X b fb)(hm:behindInMarks op b=false:=by first | exact wk _ | with_unfolding_all rfl):QB X (.Compare a [op] [b] pos) (b2 g fa fb):=⟨HB ho ha.1 hb.1 hm⟩
theorem rO{a:Expr}(ha:QD X a f)(he:∀whole,isTrue a X.env whole=(do let v <-whole;standAt a.pos;holding [v] (truthy v)):=by intro _;rfl):QB X a (qe f):=⟨G_ ha.1 he⟩
theorem mn{f:aq->R Bool}(h:GV X e f):QB X e f:=⟨BX.pb h.1⟩
theorem qR{f:aq->R Bool}(h:QB X a f):GV X (.BoolOp .And [a] pos) f:=⟨zA h.1⟩
theorem pJ{f:aq->R Bool}(h:QB X a f):GV X (.BoolOp .Or [a] pos) f:=⟨DT h.1⟩
theorem uk{rest:List Expr}{f g:aq->R Bool}(ha:QB X a f)(hb:GV X (.BoolOp .And (b ::rest) pos) g):GV X (.BoolOp .And (a ::b ::rest) pos) (yK f g):=⟨D0 ha.1 hb.1⟩
theorem kz{rest:List Expr}{f g:aq->R Bool}(ha:QB X a f)(hb:GV X (.BoolOp .Or (b ::rest) pos) g):GV X (.BoolOp .Or (a ::b ::rest) pos) (t5 f g):=⟨Gp ha.1 hb.1⟩
theorem xv{f:aq->R Bool}(ha:QB X a f):QB X (.UnaryOp .Not a pos) (yx f):=⟨Hs ha.1⟩
theorem aQ{g:List D->R D}{id:String}{p pos:Pos}{fs:aq->R (List D)}(hc:cI X (.builtin id) g)(hg:Gl X x)(hm:X.mg x=none)(hv:bootBuiltins x=some (.builtin id))(ha:CL X (e ::es) fs)(hn:x≠"__name__":=by decide)(pY:(x==("__debug__":Str))=false:=by decide)(he:starEach (e ::es) X.env=(false,eval e X.env) ::starEach es X.env:=by rfl)(j5:(backTo pos (starEach es X.env)).any (·.1)=false:=by rfl):QD X (.Call (.Name x p) (e ::es) [] pos) (aG g fs):=⟨zy hc hg hm hv ha.1 hn pY he j5⟩
theorem cf{g:List D->R D}{T:String}{p pos:Pos}{fs:aq->R (List D)}(hc:cI X (.type T) g)(hg:Gl X x)(hm:X.mg x=none)(hv:bootBuiltins x=some (.type T))(ha:CL X (e ::es) fs)(hn:x≠"__name__":=by decide)(pY:(x==("__debug__":Str))=false:=by decide)(he:starEach (e ::es) X.env=(false,eval e X.env) ::starEach es X.env:=by rfl)(j5:(backTo pos (starEach es X.env)).any (·.1)=false:=by rfl):QD X (.Call (.Name x p) (e ::es) [] pos) (aG g fs):=⟨y0 hc hg hm hv ha.1 hn pY he j5⟩
theorem gf:oZ X [] sd:=⟨Dg⟩
theorem aS{st:Stmt}{rest:List Stmt}{F G:FS}(h1:Az X st F)(h2:oZ X rest G):oZ X (st ::rest) (cU F G):=⟨A7 h1.1 h2.1⟩
theorem bA{st:Stmt}{F:FS}(h1:Az X st F):oZ X [st] F:=⟨De h1.1⟩
theorem b_{i:Nat}{pos pos':Pos}(he:QD X e f)(hs:swapsWith e (some (.Name x pos')) pos.line X.env=pure false:=by rfl)(hf:X.fn x=true\/X.env.scope.names.lookup x=some .local:=by first | exact .inl rfl | exact .inr rfl | assumption)(hN:X.N.Nodup:=by first | assumption | exact EF (by kernel_rfl))(hi:X.N[i]? =some x:=by rfl)(hx:Loc X.env.scope x:=by first | exact Or.inl rfl | exact Or.inr rfl):Az X (.Assign [.Name x pos'] e pos) (eU i f):=⟨Cq hN hi hx he.1 hs hf⟩
theorem uL{i:Nat}{f:aq->R (List D)}{pos pos':Pos}(he:QN X e f)(hs:swapsWith e (some (.Name x pos')) pos.line X.env=pure false:=by rfl)(hf:X.fn x=true\/X.env.scope.names.lookup x=some .local:=by first | exact .inl rfl | exact .inr rfl | assumption)(hN:X.N.Nodup:=by first | assumption | exact EF (by kernel_rfl))(hi:X.N[i]? =some x:=by rfl)(hx:Loc X.env.scope x:=by first | exact Or.inl rfl | exact Or.inr rfl):Az X (.Assign [.Name x pos'] e pos) (vG i f):=⟨Cm hN hi hx he.1 hs hf⟩
theorem Bn{i:Nat}{x:Str}{e:Expr}{f:aq->R (List D)}{eZ apos bL pos:Pos}(he:QN X e f)(hd:(x==("__debug__":Str))=false:=by decide)(nR:(x==("__classdict__":Str))=false:=by decide)(hs:starEach [e] X.env=(false,eval e X.env) ::starEach [] X.env:=by rfl)(gz:(apos.endLine==bL.line)=true:=by rfl)(lK:((backTo bL (starEach [e] X.env)).all (fun x=>!x.1) && (backToKw bL (keywordEach [] X.env)).all (fun x=>x.1.isSome)
 && decide (([e]:List Expr).length+([]:List Keyword).length+(if([]:List Keyword).isEmpty then 0 else 1) < 30))=true:=by rfl) (ve:swapsWith (.Call (.Attribute (.Name x eZ) "extend" apos) [e] [] bL) none pos.line X.env=pure false:=by rfl) (gA:attributeBase (.Name x eZ) "extend" X.env (eval (.Name x eZ) X.env)=eval (.Name x eZ) X.env:=by rfl) (hN:X.N[i]? =some x:=by rfl) (hv:B4 X.env.scope x:=by first | exact Or.inl rfl | exact Or.inr (Or.inl rfl) | exact Or.inr (Or.inr rfl)):Az X (.Expr (.Call (.Attribute (.Name x eZ) "extend" apos) [e] [] bL) pos) (Cn i f):=⟨Dw hN hv he.1 hd nR hs gz lK ve gA⟩
theorem uP(i:Nat){F:FS}(h:oZ X E4 F):oZ X E4 (zM i F):=⟨CY i h.1⟩
theorem cq(he:QD X e f):Az X (.Return (some e) pos) (iF f):=⟨C_ he.1⟩
theorem gS{fc:aq->R Bool}{F G:FS}(hc:QB X c fc)(ha:oZ X a F)(hb:oZ X b G):Az X (.If c a b pos) (wL fc F G):=⟨F4 hc.1 ha.1 hb.1⟩
theorem aH{i:Nat}{pos:Pos}(hf:X.fn x=true\/X.env.scope.names.lookup x=some .local:=by first | exact .inl rfl | exact .inr rfl | assumption)(hN:X.N.Nodup:=by first | assumption | exact EF (by kernel_rfl))(hi:X.N[i]? =some x:=by rfl)(hx:Loc X.env.scope x:=by first | exact Or.inl rfl | exact Or.inr rfl):HW X (.Name x pos) (aJ i):=⟨zV hN hi hx hf⟩
theorem cm:DF X [] cY:=⟨BO⟩
theorem aL{u:zm}(h1:HW X e t)(h2:DF X es u)(hs:(assignEach (e ::es) X.env).map (·.2)=assign e X.env ::(assignEach es X.env).map (·.2):=by rfl):DF X (e ::es) (aX t u):=⟨yo h1.1 h2.1 hs⟩
theorem cJ{k:Nat}{t:zm}{n:Nat}{pos:Pos}(h:DF X es t)(hn:(assignEach es X.env).length=n:=by rfl)(Ed:(assignEach es X.env).findIdx? (·.1)=none:=by rfl)(hc:X.calm=true:=by rfl):HW X (.Tuple es k pos) (c7 n t):=⟨DB hc h.1 hn Ed⟩
theorem bh(h:QD X e f):w6 X tg e (bV f):=⟨DR h.1⟩
theorem b5{tg a:Expr}{p pos:Pos}(h:QD X a f)(hg:Gl X "range")(hm:X.mg "range"=none)(hs:starEach [a] X.env=[(false,eval a X.env)]:=by rfl):w6 X tg (.Call (.Name "range" p) [a] [] pos) (de f):=⟨vw h.1 hg hm hs⟩
theorem oW{it:aq->R (List D)}{F:FS}{pos:Pos}(hi:w6 X tg iter it)(hg:HW X tg t)(hb:oZ X body F)(hs:∀x,foldedSetIterable iter X.env x=pure x:=by intro _;rfl)(hp:PassesOwn (model X.prog X.w) X.A X.env X.xe:=by exact PassesOwn.never)(hc:X.calm=true:=by rfl):Az X (.For tg iter body [] pos) (vq it t F):=⟨Cw hp hc hi.1 hg.1 hb.1 hs⟩
theorem bQ{own:List Str}{kp:List Nat}{it:aq->R (List D)}{c:aq->R Bool}{pos:Pos}(hi:w6 X tg iter it)(hg:∀fp s H,HW (bx X scope (own++(nF kp X.N)) fp s H) tg t)(zl:∀fp s H,D3 (bx X scope (own++(nF kp X.N)) fp s H) ifs c)(he:∀fp s H,QD (bx X scope (own++(nF kp X.N)) fp s H) elt f)(hs:∀x,foldedSetIterable iter X.env x=pure x:=by intro _;rfl)(hc:X.calm=true:=by rfl)(C:eF X scope own kp (nF kp X.N):=by exact KZ (by kernel_rfl)):QN X (.ListComp elt [⟨tg,iter,ifs,0⟩] scope pos) (cb it t c f own kp):=⟨CO hc C hi.1 (fun fp s H=>(hg fp s H).1) (fun fp s H=>(zl fp s H).1) (fun fp s H=>(he fp s H).1) hs⟩
theorem bN:D3 X [] fS:=⟨zS⟩
theorem jW{c:aq->R Bool}(h:QB X e c):D3 X [e] c:=⟨DH h.1⟩
theorem mf{i:Nat}{pos' pX:Pos}{own:List Str}{kp:List Nat}{it:aq->R (List D)}{c:aq->R Bool}(hi:w6 X tg iter it)(hg:∀fp s H,HW (bx X scope (own++(nF kp X.N)) fp s H) tg t)(zl:∀fp s H,D3 (bx X scope (own++(nF kp X.N)) fp s H) ifs c)(he:∀fp s H,QD (bx X scope (own++(nF kp X.N)) fp s H) elt f)(ve:swapsWith (.ListComp elt [⟨tg,iter,ifs,0⟩] scope pos) (some (.Name x pos')) pX.line X.env=pure true:=by rfl)(hs:∀x,foldedSetIterable iter X.env x=pure x:=by intro _;rfl)(hc:X.calm=true:=by rfl)(hN:X.N.Nodup:=by first | assumption | exact EF (by kernel_rfl))(hx:X.N[i]? =some x:=by rfl)(E5:X.env.scope.names.lookup x=some .local:=by rfl)(C:eF X scope own kp (nF kp X.N):=by exact KZ (by kernel_rfl)):Az X (.Assign [.Name x pos'] (.ListComp elt [⟨tg,iter,ifs,0⟩] scope pos) pX) (eU i (eNew (cb it t c f own kp))):=⟨uO hc hN hx E5 C hi.1 (fun fp s H=>(hg fp s H).1) (fun fp s H=>(zl fp s H).1) (fun fp s H=>(he fp s H).1) ve hs⟩
theorem az{pos:Pos}(ha:QD X a fa)(hb:QD X b fb)(hs:si b:=by intro _ _;rfl):QD X (.Subscript a b pos) (e2 bJ fa fb):=⟨JA ha.1 hb.1 hs⟩
theorem u7:QP X none xH:=⟨Cc⟩
theorem oF(h:QD X e f):QP X (some e) (pH f):=⟨CS h.1⟩
theorem AF{lo hi:Option Expr}{fl fh:FO}(he:QD X e f)(hl:QP X lo fl)(hh:QP X hi fh):QD X (.Subscript e (.Slice lo hi none p2) pos) (Ib f fl fh):=⟨I_ he.1 hl.1 hh.1⟩
theorem kq{elts:List Expr}{k:Nat}{sP:Pos}{p pos:Pos}(h:QD X a f)(hg:Gl X "enumerate")(hm:X.mg "enumerate"=none)(hs:starEach [a] X.env=[(false,eval a X.env)]:=by rfl):w6 X (.Tuple elts k sP) (.Call (.Name "enumerate" p) [a] [] pos) (gW f):=⟨t4 h.1 hg hm hs⟩
theorem yu{P:Program}{w:World}{K:W.Frag}{mg:Tq}{base:Heap}{x qual:Str}{st:Stmt}{f:Addr}{fd:FuncData}{N ps:List Str}{k:Nat}{F:FS}{b:List Stmt}{sc:Scope}(hb:bp st=b)(hs:aK st=sc)(Fn:yd K x qual st f fd)(S:bB N ps sc)(fN:∀(er:Value) (A:Around) (outer:List Env) (s:Shared) (H:Hp) (E:XK),et k (A.deeper (envOfC qual sc s.heap.objs.size f er))->
 oZ (mP pZ P w K mg base N qual sc f er A outer s H E).By b F):gH P w K mg base pZ (k+1) f fd ps (Dj K ps.length (p6 N F)):=AY hb hs Fn S (fun er A outer s H E hr=>(fN er A outer s H E hr).1)
theorem yQ{K:W.Frag}{mg:Tq}{st:Stmt}{N ps:List Str}{k:Nat}{F:FS}(h:Def K mg x st)(hb:bp st=b)(hs:aK st=sc)(S:bB N ps sc)(fN:∀(f:Addr) (er:Value) (A:Around) (outer:List Env) (s:Shared) (H:Hp) (E:XK),et k (A.deeper (envOfC x sc s.heap.objs.size f er))->N.Nodup->oZ (mP pZ P w K mg base N x sc f er A outer s H E).By b F)(bd:∀(kV doc pm:Value) (an:Option Addr) (er ct:Value) (us:List Value),us.length=ps.length->bindArgs (PySem.W.fnOf x x (iX st) (bp st) (aK st) .none kV doc pm an er ct) ⟨us,[]⟩=pure (ps.zip us):=by intro _ _ _ _ _ _ us hl;rcases us with _ | ⟨_,_ | ⟨_,_ | ⟨_,_ | ⟨_,_ | ⟨_,_ | ⟨_,_ | ⟨_,_⟩⟩⟩⟩⟩⟩⟩ <;> first | (simp at hl;done) | rfl):Callee P w K mg base (k+1) x ps.length (p6 N F):=by
 obtain⟨f,fd,F,hm⟩:=h;exact⟨f,fd,_,yu hb hs F S (fun er A outer s H E hr=>fN f er A outer s H E hr S.nd),hm,F.kp,F.binds bd⟩
theorem aO{g:List D->R D}{k j n:Nat}{p pos:Pos}{fs:aq->R (List D)}(C:Callee X.prog X.w X.K X.mg X.base k x n g)(ha:CL X (e ::es) fs)(pY:(x==("__debug__":Str))=false:=by decide)(he:starEach (e ::es) X.env=(false,eval e X.env) ::starEach es X.env:=by rfl)(j5:(backTo pos (starEach es X.env)).any (·.1)=false:=by rfl)(hr:et j X.A:=by assumption)(Ej:k<=j:=by decide)(hg:Gl X x:=by rfl)(hn:∀δ ds,fs δ= .ok ds->ds.length=n:=by(repeat apply yD);exact zU):QD X (.Call (.Name x p) (e ::es) [] pos) (aG g fs):=⟨Be C hr Ej hg ha.1 hn pY he j5⟩
theorem DK{keys:List (Option Expr)}{values:List Expr}{rj:List (TE × TE)}{kvs:List (Key × V)}(hu:X.A.units+1 < cLine)(h:Fx X sT keys values rj)(zk:keys.all (·.isSome)=true)(hl:keys.length=values.length)(h0:keys≠[])(hc:∀σ H Q,Q (kvs.map fun kv=>(kV kv.1,kv.2)) H->mQ rj σ H Q)(hlen:kvs.length<=15)(he:QD X e fe)(hf:QD X f ff)(m:M2 X (.Dict keys values sT) "get" apos e f bL)(hd:PE X (.Dict keys values sT) (zR rj)):QD X (.Call (.Attribute (.Dict keys values sT) "get" apos) [e,f] [] bL) (zP kvs fe ff):=⟨Hb hu h zk hl h0 hc hlen he.1 hf.1 m hd⟩
end
end L2
end
section
namespace L2
open PySem PySem.Spec PyProof.Rows
theorem yM{P:Program}{w:World}{K:W.Frag}{mg mb:Tq}{CX:zp}{k:Nat}{fa a:Addr}{fd:FuncData}{x:Str}{sp:Sp}{s₁:Shared}{vs:List Value}{ns:List Int}
 (KX:K.In s₁.heap) (Oj:s₁.heap.Ns mainGlobals mg) (hb:s₁.heap.Ns builtinsNs mb) (Ro:∀x:Str,x≠"__name__"->mb x=bootBuiltins x) (Mu:s₁.heap.NoLimit) (hg:s₁.gens=#[])
 (ha:s₁.heap.get? a=some {cls:= .type "list",data:= .seq vs.toArray}) (hi:IntsAre vs ns) (hl:ns.length<=sizeLine) (hr:et k callerA)
 (F:∀base:Heap,K.In base->base.Ns mainGlobals mg->gH P w K mg base CX k fa fd [x] sp) (JY:∀(s:Shared) (u:Value),BindsTo s fd ⟨[u],[]⟩ [(x,u)])
 (Ih:∀H:Hp,JJ H->sj K [] H a (ns.map V.int)->sp [.ref a] H (fun v _=>v= .bl true) fun _ _ _=>False)
 (RS:∀H e s',CX [] H s₁ (fun _ _ _=>False) e s'->False) :
 codeAny (model P w) callerA (.call (.ref fa) ⟨[.ref a],[]⟩) (fun r s'=>r= .ok (.ret (.bool true))/\OldK s₁.heap s'.heap/\s'.os=s₁.os/\AllBare s'.gens) s₁:=by
 have rv:=rf hi;have lenV:=hi.length;have core:∀H:Hp,JJ H->sj K [] H a (ns.map V.int)->kE P w H s₁.heap->(∀b,H b≠none->b=a)->(H a≠none->K.lookup a=none)->
  codeAny (model P w) callerA (.call (.ref fa) ⟨[.ref a],[]⟩) (fun r s'=>r= .ok (.ret (.bool true))/\OldK s₁.heap s'.heap/\s'.os=s₁.os/\AllBare s'.gens) s₁:=by
  intro H hO hS hok hA hK;have yf:∀{b:Addr} {o:Obj},s₁.heap.get? b=some o->H b=none->(sI s₁.heap H).get? b=some o:=fun e n=>zI e n
  have noA:∀{b:Addr} {o:Obj} {es:Array DictEntry} {ep:Nat},s₁.heap.get? b=some o->o.data= .dict es ep->H b=none:=fun {b o es ep} e d=>by
   cases q:H b with
   | none=>rfl
   | some u=>
     have e':b=a:=hA b (by rw[q];simp)
     subst e';rw[ha] at e;cases e;have d':Data.seq vs.toArray _=Data.dict es ep:=d;cases d'
  have nsK:∀{b:Addr} {m:Tq},s₁.heap.Ns b m->(sI s₁.heap H).Ns b m:=fun {b m} ⟨o,es,ep,e,d,r⟩=>⟨o,es,ep,yf e (noA e d),d,r⟩
  have hKb:K.In (sI s₁.heap H):=fun b o e=>yf (KX b o e) (by
   cases q:H b with
   | none=>rfl
   | some u=>
     have e':b=a:=hA b (by rw[q];simp)
     subst e';rw[hK (by rw[q];simp)] at e;cases e)
  have hM:Mod K mg (sI s₁.heap H):=⟨hKb,nsK Oj,⟨mb,nsK hb,Ro⟩,let⟨mc,h1,h2⟩:=Mu;⟨mc,nsK h1,h2⟩⟩
  have e0:DQ P w K mg (sI s₁.heap H) callerA [] s₁ H:=⟨rfl,hM,fun b o e=>C9 e,Nat.le_of_eq (yL _ _),trivial,fun b hb=>absurd (show b∈([]:List Addr) from hb) (by simp),hok, .of_eq hg⟩
  refine codeAny_mono ((F _ hKb (nsK Oj)).run callerA [] s₁ H ⟨[.ref a],[]⟩ [.ref a] [.ref a] _ _ hr e0 (JY s₁ (.ref a)) (.cons rfl .nil) (Ih H hO hS)) fun r s' h=>?_
  cases r with
  | error e=>exact(RS H e s' h).elim
  | ok fl=>
    cases fl with
    | next=>exact False.elim h
    | brk=>exact False.elim h
    | cont=>exact False.elim h
    | ret u=>
      obtain⟨v,H',os,bare,un,Mv,r',q⟩:=h;have q':v= .bl true:=q;subst q';obtain rfl:u=Value.bool true:=r';refine⟨rfl,OldK.of_keep fun b o e=>?_,os,bare⟩
      cases q:H b with
      | none=>exact un.keep b o e q (by intro z;exact absurd (show b∈([]:List Addr) from z) (by simp)) (by simp)
      | some u=>
        rcases hO b with z | ⟨ob,xs,z⟩
        .rw [q] at z;cases z
        .have z2:=un.frzs b ob _ z;obtain⟨e1,_⟩:=hok b _ z;obtain⟨e2,_⟩:=Mv b _ z2;rw[e] at e1;cases e1;exact e2
 cases hk:K.lookup a with
 | some o=>
   have e:=KX a o hk;rw[ha] at e;cases e;refine core (fun _=>none) (fun _=> .inl rfl) (.inr ⟨vs,_,hk,by rw[List.length_map];exact hl,rv⟩) (fun b u z=>by have z':(none:Option HO)=some u:=z;cases z') (fun b z=>absurd rfl z) fun z=>absurd rfl z
 | none=>
   refine core (fun b=>if b=a then some (.ft {cls:= .type "list",data:= .seq vs.toArray} (.lst (ns.map V.int))) else none) (fun b=>?_) (.inl ⟨by simp, .inr ⟨{cls:= .type "list",data:= .seq vs.toArray},if_pos rfl⟩⟩) (fun b u z=>?_) (fun b z=>?_) fun _=>hk
   .by_cases hb:b=a
    .exact .inr ⟨_,_,if_pos hb⟩
    .exact .inl (if_neg hb)
   .by_cases hb:b=a
    .have z':=(if_pos hb).symm.trans z;cases z';subst hb;exact⟨ha,by rw[List.length_map];exact hl,vs,_,rv,ha⟩
    .have z':=(if_neg hb).symm.trans z;cases z'
   .by_cases hb:b=a
    .exact hb
    .exact absurd (if_neg hb) z
theorem ints_rep{K:W.Frag}{B:List Addr}:∀ns:List Int,aC K B H (ns.map D.int) (ns.map V.int)
 | []=>aC.nil
 | n ::ns=>aC.cons (Rep.int.mpr rfl) (ints_rep ns)
theorem Jy{l:PySem.W.OpenLaw}{n k:Nat}{q:Program}{loose:List Str}{XP:(Str->Option Value)->Heap->Prop}{YP:World->Heap->Prop}{d:DefRec}{K:Params->W.Frag}{x:Str}{g:List D->R D}
 (hn:l.most=some n) (Mn:n<=sizeLine) (Ml:d.params.defaults=[]) (hr:et k callerA) (hY:∀(w:World) (h:Heap),YP w h->(K w.params).In h)
 (F:∀(w:World) (mg:Tq) (fa:Addr) (h:Heap),(K w.params).In h->h.Ns mainGlobals mg->mg d.name=some (.ref fa)->
   ∃fd:FuncData,(∀(s:Shared) (u:Value),BindsTo s fd ⟨[u],[]⟩ [(x,u)])/\∀base:Heap,(K w.params).In base->base.Ns mainGlobals mg->gH l.prog w (K w.params) mg base pZ k fa fd [x] (Dj (K w.params) 1 g))
 (hg:∀ns:List Int,ns.length<=n->g [.lst (ns.map D.int)]= .ok (.bl true)):PySem.W.WalkO q loose XP YP l.row.toRowW d [] (fun f vs=>PySem.call f vs):=by
 refine Att.tW hn Ml fun w s₀ s₁ mg mb fa o pm cd doc a vs ns G Y ho hd nR J3 HI hints hlen Ms=>?_
 have KX:=hY w _ Y;obtain⟨fd,hb,hF⟩:=F w mg fa _ KX G.T.g J3;refine yM KX G.T.g G.T.b G.T.builtins G.T.nolimit Ms HI hints (Nat.le_trans hlen Mn) hr hF hb (fun H hO hS=>?_) fun H e s' h=>h
 refine⟨rfl,[],[.lst (ns.map D.int)], .bl true,fun b hb=>(by cases hb),aC.cons (Rep.lst.mpr ⟨_,_,rfl,hS,ints_rep ns⟩) aC.nil,hg ns hlen,fun z H' _ r=>Rep.bl.mp r⟩
theorem cR{K:W.Frag}{h:Heap}{mg:Tq}{x:Str}{st:Stmt}{f:Addr}{oc:Value}{od an:Option Addr}{Ca:Array (Option Value)}{kV doc pm er ct:Value}(X:K.In h)(G:h.Ns mainGlobals mg)(a:PySem.W.nsIn K mainGlobals x=some (some (.ref f)))
 (l:K.lookup f=some ⟨oc,od, .func (PySem.W.fnOf x x (iX st) (bp st) (aK st) .none kV doc pm an er ct),Ca⟩) (c:PySem.W.codeIn K er x=true) (k:PySem.W.keepIn K (.ref f)=true):Def K mg x st:=
 ⟨f,_,GW l c k,PySem.W.mg_of X G a⟩
theorem og{K:W.Frag}{h:Heap}{mg:Tq}(X:K.In h)(G:h.Ns mainGlobals mg){i:Int}{t:Tok}(a:PySem.W.nsIn K mainGlobals x=some (some (.int i t))):Glob K mg x (.int i):=
 ⟨_, .int i,PySem.W.mg_of X G a,⟨t,rfl⟩,fun _ _=>Rep.int.mpr rfl⟩
end L2
end
section
namespace L2
open PySem PySem.Spec PyProof.Rows
theorem pS{t:FT}{body:FS}:∀(ds:List D) (n:Nat) (P:Nat->aq->Prop) {δ:aq},P n δ->
 (∀i d δ,ds[i]? =some d->P (n+i) δ->∃df,((t d δ).bind body)= .ok (.nx df)/\P (n+i+1) df)->∃df,nc t body ds δ= .ok (.nx df)/\P (n+ds.length) df
 | [],n,P,δ,h0,_=>⟨δ,rfl,h0⟩
 | d ::ds,n,P,δ,h0,hs=>by
   obtain⟨δ1,e1,p1⟩:=hs 0 d δ rfl h0;obtain⟨e8,e2,p2⟩:=pS ds (n+1) P p1 (fun i d' df hi hp=>by
    have:=hs (i+1) d' df (by simpa using hi) (by rw[show n+(i+1)=n+1+i by omega];exact hp)
    rw[show n+(i+1)+1=n+1+i+1 by omega] at this
    exact this)
   refine⟨e8,?_,by rw[List.length_cons,show n+(ds.length+1)=n+1+ds.length by omega];exact p2⟩
   obtain⟨Ta,h1,h2⟩:=R.ak e1;show(t d δ).bind (fun δ1=>(body δ1).bind fun o=>match o with | .nx e8=>nc t body ds e8 | .rt r=> .ok (.rt r))=_
   rw[h1,R.aM,h2,R.aM];exact e2
theorem mZ{t:FT}{body:FS}{ds:List D}(P:Nat->aq->Prop){δ:aq}(h0:P 0 δ)
 (hs:∀i d δ,ds[i]? =some d->P i δ->∃df,((t d δ).bind body)= .ok (.nx df)/\P (i+1) df):∃df,nc t body ds δ= .ok (.nx df)/\P ds.length df:=by
 have:=pS (t:=t) (body:=body) ds 0 P h0 (fun i d δ hi hp=>by simpa using hs i d δ hi (by simpa using hp))
 simpa using this
theorem ints_map:∀ss:List Int,ints? (ss.map D.int)=some ss
 | []=>rfl
 | s ::ss=>by show(ints? (ss.map D.int)).map (s ::·)=_;rw [ints_map ss];rfl
theorem br{F G:FS}{δ δ1:aq}{r:R Out}(h:F δ= .ok (.nx δ1))(h2:G δ1=r):cU F G δ=r:=by unfold cU;rw [h,R.aM];exact h2
theorem bE{f:aq->R (List D)}{δ:aq}{ds:List D}(h:f δ= .ok ds):eNew f δ= .ok (.lst ds):=by unfold eNew;rw [h];rfl
theorem om{c:aq->R Bool}{F G:FS}{δ:aq}{r:R Out}(h:c δ= .ok true)(h2:F δ=r):wL c F G δ=r:=by unfold wL;rw [h,R.aM,if_pos rfl];exact h2
theorem jU{c:aq->R Bool}{F G:FS}{δ:aq}{r:R Out}(h:c δ= .ok false)(h2:G δ=r):wL c F G δ=r:=by unfold wL;rw [h,R.aM,if_neg (by decide)];exact h2
theorem rR{it:aq->R (List D)}{F:FS}{δ:aq}{ds:List D}{r:R Out}(h:it δ= .ok ds)(h2:nc t F ds δ=r):vq it t F δ=r:=by unfold vq;rw [h,R.aM];exact h2
theorem c_{f:FD}{δ:aq}{d:D}(h:f δ= .ok d):iF f δ= .ok (.rt d):=by unfold iF;rw [h];rfl
theorem fO{N:List Str}{F:FS}{ds:List D}{d:D}(h:F (cn N ds)= .ok (.rt d)):p6 N F ds= .ok d:=by unfold p6;rw [h];rfl
theorem bS{α:Type}{p:Prop} [Decidable p](r:R α)(h:p):R.aR (decide p) r=r:=by rw[decide_eq_true h];rfl
theorem ck{i:Nat}{f:FD}{δ:aq}{d:D}(h:f δ= .ok d)(hi:i < δ.length):eU i f δ= .ok (.nx (δ.set i (.val d))):=by unfold eU;rw [h,R.aM,bS _ hi]
theorem xY{i:Nat}{f:aq->R (List D)}{δ:aq}{ds:List D}(h:f δ= .ok ds)(hi:i < δ.length):vG i f δ= .ok (.nx (δ.set i (.bld ds))):=by unfold vG;rw [h,R.aM,bS _ hi]
theorem bK{it:aq->R (List D)}{c:aq->R Bool}{own:List Str}{kp:List Nat}{δ:aq}{ds ys:List D}(h1:it δ= .ok ds)(h2:ds.length<=sizeLine)(h3:l8 t c f (oq own kp δ) ds= .ok ys):cb it t c f own kp δ= .ok ys:=by unfold cb;rw [h1,R.aM,bS _ h2,h3]
theorem GO{ds:List D}{i:Int}{d:D}(h:uy ds i=some d):bJ (.lst ds) (.int i)= .ok d:=by unfold bJ;simp only[h]
theorem cF{x:Str}{i:Int}{c:Nat}(hz:x.length<=sizeLine)(h:uy x.cps.toList i=some c):bJ (.str x) (.int i)= .ok (.str ⟨#[c]⟩):=by unfold bJ;simp only[h,bS _ hz]
end L2
end
section
namespace L2
open PySem PySem.Spec PyProof.Rows
theorem aw{g:D->D->R D}{fa fb:FD}{δ:aq}{a b:D}{r:R D}(ha:fa δ= .ok a)(hb:fb δ= .ok b)(h:g a b=r):e2 g fa fb δ=r:=by unfold e2;rw [ha,R.aM,hb,R.aM];exact h
theorem cE{g:D->D->R D}{fa fb:FD}{δ:aq}{a b:D}{k:Bool}(ha:fa δ= .ok a)(hb:fb δ= .ok b)(h:g a b= .ok (.bl k)):b2 g fa fb δ= .ok k:=by unfold b2;rw [aw ha hb h];rfl
theorem ao{f:FD}{g:aq->R (List D)}{δ:aq}{d:D}{ds:List D}(h:f δ= .ok d)(h2:g δ= .ok ds):ag f g δ= .ok (d ::ds):=by unfold ag;rw [h,R.aM,h2];rfl
theorem av{g:List D->R D}{fs:aq->R (List D)}{δ:aq}{ds:List D}{r:R D}(h:fs δ= .ok ds)(h2:g ds=r):aG g fs δ=r:=by unfold aG;rw [h,R.aM];exact h2
theorem bb{g:aq->R (List D)}{δ:aq}{ds:List D}(h:g δ= .ok ds)(hl:ds.length<=sizeLine):cN g δ= .ok (.tup ds):=by unfold cN;rw [h,R.aM,bS _ hl]
theorem nV{g:aq->R (List D)}{δ:aq}{ds:List D}(h:g δ= .ok ds)(hl:ds.length<=sizeLine):dP g δ= .ok ds:=by unfold dP;rw [h,R.aM,bS _ hl]
theorem zT{f:FD}{fl fh:FO}{δ:aq}{d:D}{lo hi:Option Int}{r:R D}(h:f δ= .ok d)(h1:fl δ= .ok lo)(h2:fh δ= .ok hi)(h3:HZ d lo hi=r):Ib f fl fh δ=r:=by unfold Ib;rw [h,R.aM,h1,R.aM,h2,R.aM];exact h3
theorem tP{f:FD}{δ:aq}{i:Int}(h:f δ= .ok (.int i)):pH f δ= .ok (some i):=by unfold pH;rw [h];rfl
theorem wC{a b:List D}(h:a.length+b.length<=sizeLine):bU (.lst a) (.lst b)= .ok (.lst (a++b)):=by unfold bU;exact bS _ h
theorem pO{a b:Int}(h:0 < b):eu (.int a) (.int b)= .ok (.int (a % b)):=by unfold eu B0;exact bS _ h
theorem xZ{a b:Int}(h:0 < b)(h2:b < 1073741824):kL (.int a) (.int b)= .ok (.int (a / b)):=by unfold kL B0;exact bS _ ⟨h,h2⟩
theorem wO{f:FD}{δ:aq}{n:Nat}(h:f δ= .ok (.int n))(hn:n < 1000000):de f δ= .ok (jl 0 n):=by
 unfold de;rw [h,R.aM];show R.aR (decide (-(2 ^ 62)<=(n:Int)/\(n:Int) < 2 ^ 62)) _=_;rw[bS _ ⟨by omega,by omega⟩,Int.toNat_natCast]
theorem gp{f:FD}{δ:aq}{ds:List D}(h:f δ= .ok (.lst ds)):bV f δ= .ok ds:=by unfold bV;rw [h];rfl
theorem vy{f:FD}{δ:aq}{ds:List D}(h:f δ= .ok (.tup ds)):bV f δ= .ok ds:=by unfold bV;rw [h];rfl
theorem rM{f:FD}{δ:aq}{ds:List D}(h:f δ= .ok (.lst ds)):gW f δ= .ok (eD ds):=by unfold gW;rw [h];rfl
theorem yl(ds:List D):cz [.lst ds]= .ok (.int ds.length):=rfl
end L2
end
section
namespace L3
open PySem PySem.Spec PyProof.Rows L2
inductive V3 where
 | d (x:D) | loc (k:Nat) | lst (vs:List V3) | tup (vs:List V3) | fn (x:Str)
inductive SO where
 | lst (ds:List D) | dct (kvs:List (Key × D)) | ins (c:Nat) (fs:List (Str × V3)) | ft | exc (c:Nat) | dcT (kvs:List (List Key × D))
abbrev bc:=List SO
inductive R3 (α:Type) where
 | ok (a:α) (S:bc) | ex (c:Nat) (S:bc) | no
def R3.bind{α β:Type}:R3 α->(α->bc->R3 β)->R3 β
 | .ok a S,f=>f a S
 | .ex c S,_=> .ex c S
 | .no,_=> .no
theorem R3.ak{α β:Type}{r:R3 α}{f:α->bc->R3 β}{b:β}{S':bc}(h:r.bind f= .ok b S'):∃a S,r= .ok a S/\f a S= .ok b S':=by
 cases r with
 | ok a S=>exact⟨a,S,rfl,h⟩
 | ex c S=>cases h
 | no=>cases h
@[simp] theorem R3.aM{α β:Type}(a:α)(S:bc)(f:α->bc->R3 β):(R3.ok a S).bind f=f a S:=rfl
def R3.aR{α:Type}(c:Bool)(r:R3 α):R3 α:=if c then r else .no
theorem R3.aW{α:Type}{c:Bool}{r:R3 α}{a:α}{S:bc}(h:R3.aR c r= .ok a S):c=true/\r= .ok a S:=by
 cases c with
 | true=>exact⟨rfl,h⟩
 | false=>cases h
def R3.of{α:Type}(r:R α)(S:bc):R3 α:=match r with | .ok a=> .ok a S | _=> .no
theorem R3.of_ok{α:Type}{r:R α}{S S':bc}{a:α}(h:R3.of r S= .ok a S'):r= .ok a/\S'=S:=by
 cases r with
 | ok b=>cases h;exact⟨rfl,rfl⟩
 | ex c=>cases h
 | no=>cases h
structure P3 where
 r:List Addr
 z:List Addr
 f:List Addr
def P3.b(ρ:P3):List Addr:=ρ.r.filter (fun a=>!ρ.f.contains a)++ρ.z
theorem P3.c6{ρ:P3}{a:Addr}:a∈ρ.b↔(a∈ρ.r/\a ∉ ρ.f)\/a∈ρ.z:=by
 unfold P3.b;rw[List.mem_append,List.mem_filter];simp
def P3.push(ρ:P3)(a:Addr):P3:=⟨ρ.r++[a],ρ.z,ρ.f⟩
def P3.cut(ρ:P3)(n:Nat):P3:=⟨ρ.r.take n,ρ.z,ρ.f⟩
mutual
def bf(K:W.Frag)(ρ:P3)(H:Hp):V3->V->Prop
 | .d x,v=>Rep K ρ.b H x v
 | .loc k,v=>∃a,ρ.r[k]? =some a/\v= .ref a
 | .lst vs,v=>∃a xs,v= .ref a/\sj K ρ.b H a xs/\aI K ρ H vs xs
 | .tup vs,v=>∃a xs,v= .ref a/\qH K ρ.b H a xs/\aI K ρ H vs xs
 | .fn x,v=>∃a,PySem.W.nsIn K mainGlobals x=some (some (.ref a))/\v= .ref a
def aI(K:W.Frag)(ρ:P3)(H:Hp):List V3->List V->Prop
 | [],xs=>xs=[]
 | d ::ds,xs=>∃x r,xs=x ::r/\bf K ρ H d x/\aI K ρ H ds r
end
structure Pre (ρ:P3) (H:Hp) (cc:P3) (H':Hp):Prop where
 aY:cW ρ.b H cc.b H'
 zz:cc.z=ρ.z
 zs:∀(b:Addr) (o:HO),b∈ρ.z->H b=some o->H' b=some o
 ext:∀(k:Nat) (a:Addr),ρ.r[k]? =some a->cc.r[k]? =some a
theorem Pre.refl(ρ:P3)(H:Hp):Pre ρ H ρ H:=⟨cW.refl ρ.b H,rfl,fun _ _ _ h=>h,fun _ _ h=>h⟩
theorem Pre.trans(a:Pre ρ H cc H')(b:Pre cc H' BV lP):Pre ρ H BV lP:=⟨a.aY.trans b.aY,b.zz.trans a.zz,fun c o hc h=>b.zs c o (by rw[a.zz];exact hc) (a.zs c o hc h),fun k x h=>b.ext k x (a.ext k x h)⟩
theorem Pre.same(s:aP H H'):Pre ρ H ρ H':=⟨cW.same s,rfl,fun b o _ h=>s b o h,fun _ _ h=>h⟩
theorem qH.aY{K:W.Frag}{B B':List Addr}(p:cW B H B' H'){a:Addr}{xs:List V}(l:qH K B H a xs):qH K B' H' a xs:=
 l.elim (fun z=> .inl ⟨(p.rd z.2 z.1).2,(p.rd z.2 z.1).1⟩) .inr
mutual
theorem bf.pre{K:W.Frag}(p:Pre ρ H cc H'):∀{d:V3} {v:V},bf K ρ H d v->bf K cc H' d v
 | .d x,v,h=>by unfold bf at h ⊢;exact h.aY p.aY
 | .loc k,v,h=>by unfold bf at h ⊢;obtain⟨a,h1,h2⟩:=h;exact⟨a,p.ext k a h1,h2⟩
 | .lst vs,v,h=>by unfold bf at h ⊢;obtain⟨a,xs,e,l,r⟩:=h;exact⟨a,xs,e,l.aY p.aY,aI.pre p r⟩
 | .tup vs,v,h=>by unfold bf at h ⊢;obtain⟨a,xs,e,l,r⟩:=h;exact⟨a,xs,e,qH.aY p.aY l,aI.pre p r⟩
 | .fn x,v,h=>by unfold bf at h ⊢;exact h
theorem aI.pre{K:W.Frag}(p:Pre ρ H cc H'):∀{ds:List V3} {xs:List V},aI K ρ H ds xs->aI K cc H' ds xs
 | [],_,h=>by unfold aI at h ⊢;exact h
 | d ::ds,xs,h=>by
   unfold aI at h ⊢;obtain⟨x,r,e,h1,h2⟩:=h;exact⟨x,r,e,bf.pre p h1,aI.pre p h2⟩
end
structure PW (ρ:P3) (H:Hp) (cc:P3) (H':Hp):Prop where
 aY:cW ρ.b H cc.b H'
 ext:∀(k:Nat) (a:Addr),ρ.r[k]? =some a->cc.r[k]? =some a
theorem Pre.pw(p:Pre ρ H cc H'):PW ρ H cc H':=⟨p.aY,p.ext⟩
theorem PW.trans(a:PW ρ H cc H')(b:PW cc H' BV lP):PW ρ H BV lP:=⟨a.aY.trans b.aY,fun k x h=>b.ext k x (a.ext k x h)⟩
mutual
theorem bf.pw{K:W.Frag}(p:PW ρ H cc H'):∀{d:V3} {v:V},bf K ρ H d v->bf K cc H' d v
 | .d x,v,h=>by unfold bf at h ⊢;exact h.aY p.aY
 | .loc k,v,h=>by unfold bf at h ⊢;obtain⟨a,h1,h2⟩:=h;exact⟨a,p.ext k a h1,h2⟩
 | .lst vs,v,h=>by unfold bf at h ⊢;obtain⟨a,xs,e,l,r⟩:=h;exact⟨a,xs,e,l.aY p.aY,aI.pw p r⟩
 | .tup vs,v,h=>by unfold bf at h ⊢;obtain⟨a,xs,e,l,r⟩:=h;exact⟨a,xs,e,qH.aY p.aY l,aI.pw p r⟩
 | .fn x,v,h=>by unfold bf at h ⊢;exact h
theorem aI.pw{K:W.Frag}(p:PW ρ H cc H'):∀{ds:List V3} {xs:List V},aI K ρ H ds xs->aI K cc H' ds xs
 | [],_,h=>by unfold aI at h ⊢;exact h
 | d ::ds,xs,h=>by
   unfold aI at h ⊢;obtain⟨x,r,e,h1,h2⟩:=h;exact⟨x,r,e,bf.pw p h1,aI.pw p h2⟩
end
theorem aI.nil{K:W.Frag}:aI K ρ H [] []:=by unfold aI;rfl
theorem aI.cons{K:W.Frag}{d:V3}{ds:List V3}{x:V}{xs:List V}(h:bf K ρ H d x)(t:aI K ρ H ds xs):aI K ρ H (d ::ds) (x ::xs):=by
 unfold aI;exact⟨x,xs,rfl,h,t⟩
theorem aI.bX{K:W.Frag}{d:V3}{ds:List V3}{xs:List V}(h:aI K ρ H (d ::ds) xs):∃x r,xs=x ::r/\bf K ρ H d x/\aI K ρ H ds r:=by
 unfold aI at h;exact h
theorem aI.length{K:W.Frag}:∀{ds:List V3} {xs:List V},aI K ρ H ds xs->ds.length=xs.length
 | [],_,h=>by unfold aI at h;rw [h];rfl
 | d ::ds,xs,h=>by
   obtain⟨x,r,rfl,_,h2⟩:=h.bX;simp [h2.length]
theorem aI.of{K:W.Frag}{ρ:P3}:∀{ds:List D} {xs:List V},aC K ρ.b H ds xs->aI K ρ H (ds.map .d) xs
 | [],_,h=>by unfold aC at h;subst h;exact aI.nil
 | d ::ds,xs,h=>by
   obtain⟨x,r,rfl,h1,h2⟩:=h.bX;exact aI.cons (by unfold bf;exact h1) (aI.of h2)
theorem aI.to{K:W.Frag}{ρ:P3}:∀{ds:List D} {xs:List V},aI K ρ H (ds.map .d) xs->aC K ρ.b H ds xs
 | [],_,h=>by unfold aI at h;subst h;exact aC.nil
 | d ::ds,xs,h=>by
   obtain⟨x,r,rfl,h1,h2⟩:=aI.bX h;unfold bf at h1;exact aC.cons h1 (aI.to h2)
def isExc(C b:Addr):Heap->Prop:=fun h=>∃o,h.get? b=some o/\o.cls= .ref C
def Bj(K:W.Frag)(cl:Tr)(ρ:P3)(H:Hp):SO->Option HO->Prop
 | .lst ds,h=>∃xs,h=some (.lst xs)/\aC K ρ.b H ds xs
 | .dct kvs,h=>∃ys,h=some (.dK ys)/\ys.map (·.1)=kvs.map (·.1)/\aC K ρ.b H (kvs.map (·.2)) (ys.map (·.2))
 | .ins c fs,h=>∃dx ys,h=some (.ins (cl c) dx ys)/\ys.map (·.1)=fs.map (·.1)/\aI K ρ H (fs.map (·.2)) (ys.map (·.2))
 | .ft,h=>∃u,h=some u
 | .exc c,h=>∃b,h=some (.ext (isExc (cl c) b))
 | .dcT kvs,h=>∃ys,h=some (.dT ys)/\ys.map (·.1)=kvs.map (·.1)/\aC K ρ.b H (kvs.map (·.2)) (ys.map (·.2))
theorem Bj.pre{K:W.Frag}{cl:Tr}(p:Pre ρ H cc H'){o:SO}{h:Option HO}(r:Bj K cl ρ H o h):Bj K cl cc H' o h:=by
 cases o with
 | lst ds=>obtain⟨xs,e,q⟩:=r;exact⟨xs,e,q.aY p.aY⟩
 | dct kvs=>obtain⟨ys,e,e2,q⟩:=r;exact⟨ys,e,e2,q.aY p.aY⟩
 | dcT kvs=>obtain⟨ys,e,e2,q⟩:=r;exact⟨ys,e,e2,q.aY p.aY⟩
 | ins c fs=>obtain⟨dx,ys,e,e2,q⟩:=r;exact⟨dx,ys,e,e2,q.pre p⟩
 | ft=>exact r
 | exc c=>exact r
theorem Bj.pw{K:W.Frag}{cl:Tr}(p:PW ρ H cc H'){o:SO}{h:Option HO}(r:Bj K cl ρ H o h):Bj K cl cc H' o h:=by
 cases o with
 | lst ds=>obtain⟨xs,e,q⟩:=r;exact⟨xs,e,q.aY p.aY⟩
 | dct kvs=>obtain⟨ys,e,e2,q⟩:=r;exact⟨ys,e,e2,q.aY p.aY⟩
 | dcT kvs=>obtain⟨ys,e,e2,q⟩:=r;exact⟨ys,e,e2,q.aY p.aY⟩
 | ins c fs=>obtain⟨dx,ys,e,e2,q⟩:=r;exact⟨dx,ys,e,e2,q.pw p⟩
 | ft=>exact r
 | exc c=>exact r
theorem Bj.some{K:W.Frag}{cl:Tr}{o:SO}{h:Option HO}(r:Bj K cl ρ H o h):∃u,h=some u:=by
 cases o with
 | lst ds=>obtain⟨xs,e,q⟩:=r;exact⟨_,e⟩
 | dct kvs=>obtain⟨ys,e,e2,q⟩:=r;exact⟨_,e⟩
 | dcT kvs=>obtain⟨ys,e,e2,q⟩:=r;exact⟨_,e⟩
 | ins c fs=>obtain⟨dx,ys,e,e2,q⟩:=r;exact⟨_,e⟩
 | ft=>exact r
 | exc c=>obtain⟨b,e⟩:=r;exact⟨_,e⟩
structure SW (K:W.Frag) (cl:Tr) (ρ:P3) (H:Hp) (S:bc):Prop where
 len:ρ.r.length=S.length
 nd:∀(i j:Nat) (a:Addr),ρ.r[i]? =some a->ρ.r[j]? =some a->i=j
 ob:∀(k:Nat) (a:Addr) (o:SO),ρ.r[k]? =some a->S[k]? =some o->Bj K cl ρ H o (H a)
 zb:∀b∈ρ.z,(∃xs,H b=some (.lst xs))/\b ∉ ρ.r
 fz:∀(k:Nat) (a:Addr),ρ.r[k]? =some a->S[k]?≠some .ft->a ∉ ρ.f
 ff:∀a∈ρ.f,∃o,H a=some o
 fi:∀(k:Nat) (a:Addr),ρ.r[k]? =some a->S[k]? =some .ft->a∈ρ.f
theorem SW.rs{K:W.Frag}{cl:Tr}{ρ:P3}{H:Hp}{S:bc}(w:SW K cl ρ H S):∀a∈ρ.r,∃o,H a=some o:=fun a z=>by
 obtain⟨k,hk⟩:=List.getElem?_of_mem z;have hl:=(List.getElem?_eq_some_iff.mp hk).1;exact(w.ob k a _ hk (List.getElem?_eq_getElem (by rw[<-w.len];exact hl))).some
theorem SW.bs{K:W.Frag}{cl:Tr}{ρ:P3}{H:Hp}{S:bc}(w:SW K cl ρ H S):∀a∈ρ.b,∃o,H a=some o:=fun a ha=>by
 rcases P3.c6.mp ha with z | z
 .exact w.rs a z.1
 .obtain⟨xs,h⟩:=(w.zb a z).1;exact⟨_,h⟩
theorem SW.same{K:W.Frag}{cl:Tr}{S:bc}(w:SW K cl ρ H S)(s:aP H H'):SW K cl ρ H' S:=
 ⟨w.len,w.nd,fun k a o h1 h2=>by
   have r:=w.ob k a o h1 h2;obtain⟨u,hu⟩:=r.some;rw[s a u hu,<-hu];exact r.pre (Pre.same s),fun b hb=>let⟨⟨o,ho⟩,n⟩:=w.zb b hb;⟨⟨o,s b _ ho⟩,n⟩,w.fz,fun a ha=>let⟨o,ho⟩:=w.ff a ha;⟨o,s a o ho⟩,w.fi⟩
theorem P3.mem_push{ρ:P3}{a b:Addr}(h:b∈(ρ.push a).b):b∈ρ.b\/b=a:=by
 rcases P3.c6.mp h with⟨z,n⟩ | z
 .rcases List.mem_append.mp z with y | y
  .exact .inl (P3.c6.mpr (.inl ⟨y,n⟩))
  .exact .inr (List.mem_singleton.mp y)
 .exact .inl (P3.c6.mpr (.inr z))
theorem SW.new{K:W.Frag}{cl:Tr}{ρ:P3}{H H':Hp}{S:bc}(w:SW K cl ρ H S){a:Addr}{o:SO}(s:aP H H')(n:H a=none)(r:Bj K cl (ρ.push a) H' o (H' a))(yh:o≠SO.ft:=by intro h;cases h) :
 SW K cl (ρ.push a) H' (S++[o])/\Pre ρ H (ρ.push a) H':=by
 have na:a ∉ ρ.b:=fun ha=>by obtain⟨o,ho⟩:=w.bs a ha;rw [n] at ho;cases ho
 have nr:a ∉ ρ.r:=fun ha=>by obtain⟨o,ho⟩:=w.rs a ha;rw [n] at ho;cases ho
 have nf:a ∉ ρ.f:=fun ha=>by obtain⟨o,ho⟩:=w.ff a ha;rw [n] at ho;cases ho
 have p:Pre ρ H (ρ.push a) H':=⟨fun b u e nb=>⟨s b u e,fun hb=>by
  rcases P3.mem_push hb with z | z
  .exact nb z
  .subst z;rw [n] at e;cases e⟩,rfl,fun b o _ h=>s b o h,fun k x hx=>by
   show(ρ.r++[a])[k]? =_;rw[List.getElem?_append_left (List.getElem?_eq_some_iff.mp hx).1];exact hx⟩
 have last:∀(i:Nat) (b:Addr),(ρ.push a).r[i]? =some b->(i < ρ.r.length/\ρ.r[i]? =some b)\/(i=ρ.r.length/\b=a):=fun i b h=>by
  have h:(ρ.r++[a])[i]? =some b:=h;by_cases q:i < ρ.r.length
  .rw [List.getElem?_append_left q] at h;exact .inl ⟨q,h⟩
  .rw [List.getElem?_append_right (by omega)] at h
   have h0:i - ρ.r.length=0:=by
    have:=(List.getElem?_eq_some_iff.mp h).1;simp at this;omega
   rw[h0] at h;cases h;exact .inr ⟨by omega,rfl⟩
 refine⟨⟨by show(ρ.r++[a]).length=_;rw [List.length_append,List.length_append,w.len];rfl,fun i j b hi hj=>?_,fun k b u hk hu=>?_,fun b hb=>?_,fun k b hk hu=>?_,fun b hb=>?_,fun k b hk hu=>?_⟩,p⟩
 .rcases last i b hi with⟨q1,q2⟩ | ⟨q1,rfl⟩
  .rcases last j b hj with⟨z1,z2⟩ | ⟨z1,rfl⟩
   .exact w.nd i j b q2 z2
   .exact absurd (List.mem_of_getElem? q2) nr
  .rcases last j b hj with⟨z1,z2⟩ | ⟨z1,z3⟩
   .exact absurd (List.mem_of_getElem? z2) nr
   .omega
 .rcases last k b hk with⟨q1,q2⟩ | ⟨q1,rfl⟩
  .rw [List.getElem?_append_left (by rw[<-w.len];exact q1)] at hu
   have r0:=w.ob k b u q2 hu;obtain⟨x,hx⟩:=r0.some;rw[s b x hx,<-hx];exact r0.pre p
  .rw [List.getElem?_append_right (by rw[<-w.len];omega),q1,w.len,Nat.sub_self] at hu
   cases hu;exact r
 .obtain⟨⟨o,ho⟩,nb⟩:=w.zb b hb;refine⟨⟨o,s b _ ho⟩,fun h=>?_⟩
  rcases List.mem_append.mp h with y | y
  .exact nb y
  .rw [List.mem_singleton] at y;subst y;rw [n] at ho;cases ho
 .rcases last k b hk with⟨q1,q2⟩ | ⟨q1,rfl⟩
  .rw [List.getElem?_append_left (by rw[<-w.len];exact q1)] at hu
   exact w.fz k b q2 hu
  .exact nf
 .obtain⟨o,ho⟩:=w.ff b hb;exact⟨o,s b o ho⟩
 .rcases last k b hk with⟨q1,q2⟩ | ⟨q1,rfl⟩
  .rw [List.getElem?_append_left (by rw[<-w.len];exact q1)] at hu
   exact w.fi k b q2 hu
  .rw [List.getElem?_append_right (by rw[<-w.len];omega),q1,w.len,Nat.sub_self] at hu
   cases hu;exact absurd rfl yh
theorem SW.put{K:W.Frag}{cl:Tr}{ρ:P3}{S:bc}(w:SW K cl ρ H S){k:Nat}{a:Addr}{o:SO}{u:HO}(hk:ρ.r[k]? =some a)(hf:a ∉ ρ.f)(r:Bj K cl ρ H o (some u))(yh:o≠SO.ft:=by intro h;cases h) :
 SW K cl ρ (upd H a u) (S.set k o)/\Pre ρ H ρ (upd H a u):=by
 have ha:a∈ρ.r:=List.mem_of_getElem? hk;have hb:a∈ρ.b:=P3.c6.mpr (.inl ⟨ha,hf⟩);have nz:∀b∈ρ.z,b≠a:=fun b hb z=>(w.zb b hb).2 (by rw[z];exact ha)
 have p:Pre ρ H ρ (upd H a u):=⟨fun b x e nb=>⟨by rw[bo (fun(z:b=a)=>nb (by rw[z];exact hb))];exact e,nb⟩,rfl,fun b o hb h=>by rw[bo (nz b hb)];exact h,fun _ _ h=>h⟩
 have hl:k < S.length:=by rw[<-w.len];exact(List.getElem?_eq_some_iff.mp hk).1
 refine⟨⟨by rw[List.length_set];exact w.len,w.nd,fun j b x hj hx=>?_,fun b hb=>?_,fun j b hj hx=>?_,fun b hb=>?_,fun j b hj hx=>?_⟩,p⟩
 .by_cases q:k=j
  .subst q;rw[hk] at hj;cases hj;rw[List.getElem?_set_self hl] at hx;cases hx;rw[aU];exact r.pre p
  .rw [List.getElem?_set_ne q] at hx;have ne:b≠a:=fun z=>by subst z;exact q (w.nd k j b hk hj)
   rw[bo ne];exact(w.ob j b x hj hx).pre p
 .obtain⟨⟨o,ho⟩,nb⟩:=w.zb b hb;exact⟨⟨o,by rw[bo (nz b hb)];exact ho⟩,nb⟩
 .by_cases q:k=j
  .subst q;rw[hk] at hj;cases hj;exact hf
  .rw [List.getElem?_set_ne q] at hx;exact w.fz j b hj hx
 .obtain⟨o,ho⟩:=w.ff b hb;exact⟨o,by rw[bo (fun z=>hf (by rw[<-z];exact hb))];exact ho⟩
 .by_cases q:k=j
  .subst q;rw[List.getElem?_set_self hl] at hx;cases hx;exact absurd rfl yh
  .rw [List.getElem?_set_ne q] at hx;exact w.fi j b hj hx
theorem SW.ft{K:W.Frag}{cl:Tr}{ρ:P3}{S:bc}(w:SW K cl ρ H S){k:Nat}{a:Addr}{ds:List D}(hk:ρ.r[k]? =some a)(hS:S[k]? =some (.lst ds)) :
 SW K cl ⟨ρ.r,ρ.z,a ::ρ.f⟩ H (S.set k .ft)/\Pre ρ H ⟨ρ.r,ρ.z,a ::ρ.f⟩ H/\Rep K (⟨ρ.r,ρ.z,a ::ρ.f⟩:P3).b H (.lst ds) (.ref a):=by
 have hl:k < S.length:=by rw[<-w.len];exact(List.getElem?_eq_some_iff.mp hk).1
 have sub:∀b,b∈(⟨ρ.r,ρ.z,a ::ρ.f⟩:P3).b->b∈ρ.b:=fun b hb=>by
  rcases P3.c6.mp hb with⟨z,n⟩ | z
  .exact P3.c6.mpr (.inl ⟨z,fun h=>n (List.mem_cons_of_mem _ h)⟩)
  .exact P3.c6.mpr (.inr z)
 have p:Pre ρ H ⟨ρ.r,ρ.z,a ::ρ.f⟩ H:=⟨fun b o e nb=>⟨e,fun hb=>nb (sub b hb)⟩,rfl,fun _ _ _ h=>h,fun _ _ h=>h⟩
 obtain⟨xs,e1,r1⟩:=w.ob k a _ hk hS;refine⟨⟨by rw[List.length_set];exact w.len,w.nd,fun j b x hj hx=>?_,w.zb,fun j b hj hx=>?_,fun b hb=>?_,fun j b hj hx=>?_⟩,p,?_⟩
 .by_cases q:k=j
  .subst q;rw[List.getElem?_set_self hl] at hx;cases hx;rw[hk] at hj;cases hj;exact⟨_,e1⟩
  .rw [List.getElem?_set_ne q] at hx;exact(w.ob j b x hj hx).pre p
 .by_cases q:k=j
  .subst q;rw[List.getElem?_set_self hl] at hx;exact absurd rfl hx
  .rw [List.getElem?_set_ne q] at hx;intro h;rcases List.mem_cons.mp h with z | z
   .subst z;exact q (w.nd k j b hk hj)
   .exact w.fz j b hj hx z
 .rcases List.mem_cons.mp hb with z | z
  .subst z;exact⟨_,e1⟩
  .exact w.ff b z
 .by_cases q:k=j
  .subst q;rw[hk] at hj;cases hj;exact List.mem_cons_self
  .rw [List.getElem?_set_ne q] at hx;exact List.mem_cons_of_mem _ (w.fi j b hj hx)
 .refine Rep.lst.mpr ⟨a,xs,rfl, .inl ⟨fun hb=>?_, .inl e1⟩,r1.aY p.aY⟩
  rcases P3.c6.mp hb with⟨_,n⟩ | z
  .exact n List.mem_cons_self
  .exact(w.zb a z).2 (List.mem_of_getElem? hk)
mutual
def uQ:D->Bool
 | .lst _=>false
 | .dct _ _=>false
 | .tup ds=>uq ds
 | _=>true
def uq:List D->Bool
 | []=>true
 | d ::ds=>uQ d && uq ds
end
mutual
theorem Rep.tO{K:W.Frag}{B:List Addr}(hB:∀b∈B,∀xs,¬Rd H b (.tup xs)):∀{d:D} {v:V},uQ d=true->Rep K [] H d v->Rep K B H d v
 | .cu,v,_,r=>Rep.cu.mpr (Rep.cu.mp r)
 | .bl _,v,_,r=>Rep.bl.mpr (Rep.bl.mp r)
 | .int _,v,_,r=>Rep.int.mpr (Rep.int.mp r)
 | .str _,v,_,r=>Rep.str.mpr (Rep.str.mp r)
 | .lst _,v,h,_=>by unfold uQ at h;cases h
 | .dct _ _,v,h,_=>by unfold uQ at h;cases h
 | .tup ds,v,h,r=>by
   unfold uQ at h;obtain⟨a,xs,rfl,l,rs⟩:=Rep.tup.mp r;exact Rep.tup.mpr ⟨a,xs,rfl,l.elim (fun z=> .inl ⟨fun hb=>hB a hb xs z.2,z.2⟩) .inr,aC.tO hB h rs⟩
theorem aC.tO{K:W.Frag}{B:List Addr}(hB:∀b∈B,∀xs,¬Rd H b (.tup xs)):∀{ds:List D} {vs:List V},uq ds=true->aC K [] H ds vs->aC K B H ds vs
 | [],_,_,r=>by unfold aC at r;subst r;exact aC.nil
 | d ::ds,vs,h,r=>by
   unfold uq at h;obtain⟨h1,h2⟩:=Bool.and_eq_true_iff.mp h;obtain⟨x,xs,rfl,r1,r2⟩:=r.bX;exact aC.cons (Rep.tO hB h1 r1) (aC.tO hB h2 r2)
end
theorem SW.nt{K:W.Frag}{cl:Tr}{ρ:P3}{S:bc}(w:SW K cl ρ H S):∀b∈ρ.b,∀xs,¬Rd H b (.tup xs):=fun b hb xs h=>by
 have key:∀o,H b=some o->(∀xs,o≠ .tup xs)->(∀ob xs,o≠ .ft ob (.tup xs))->False:=fun o e h1 h2=>by
  rcases h with z | ⟨ob,z⟩
  .rw [e] at z;cases z;exact h1 _ rfl
  .rw [e] at z;cases z;exact h2 _ _ rfl
 rcases P3.c6.mp hb with⟨z,n⟩ | z
 .obtain⟨k,hk⟩:=List.getElem?_of_mem z;have hl:=(List.getElem?_eq_some_iff.mp hk).1;have hS:S[k]? =some (S[k]'(by rw[<-w.len];exact hl)):=List.getElem?_eq_getElem (by rw[<-w.len];exact hl)
  have r:=w.ob k b _ hk hS;generalize S[k]'(by rw[<-w.len];exact hl)=o at r hS
  cases o with
  | lst ds=>obtain⟨ys,e,_⟩:=r;exact key _ e (fun _ q=>by cases q) (fun _ _ q=>by cases q)
  | dct kvs=>obtain⟨ys,e,_⟩:=r;exact key _ e (fun _ q=>by cases q) (fun _ _ q=>by cases q)
  | dcT kvs=>obtain⟨ys,e,_⟩:=r;exact key _ e (fun _ q=>by cases q) (fun _ _ q=>by cases q)
  | ins c fs=>obtain⟨dx,ys,e,_⟩:=r;exact key _ e (fun _ q=>by cases q) (fun _ _ q=>by cases q)
  | ft=>exact n (w.fi k b hk hS)
  | exc c=>obtain⟨b',e⟩:=r;exact key _ e (fun _ q=>by cases q) (fun _ _ q=>by cases q)
 .obtain⟨⟨ys,e⟩,_⟩:=w.zb b z;exact key _ e (fun _ q=>by cases q) (fun _ _ q=>by cases q)
abbrev DE:=List (Option V3)
structure dG (K:W.Frag) (cl:Tr) (ρ:P3) (H:Hp) (S:bc) (σ:L2.St) (δ:DE):Prop where
 len:δ.length=σ.length
 sw:SW K cl ρ H S
 val:∀(i:Nat) (d:V3),δ[i]? =some (some d)->∃v,σ[i]? =some (some v)/\bf K ρ H d v
theorem dG.to{K:W.Frag}{cl:Tr}{S S':bc}{σ:L2.St}{δ:DE}(E:dG K cl ρ H S σ δ)(p:Pre ρ H cc H')(w:SW K cl cc H' S'):dG K cl cc H' S' σ δ:=
 ⟨E.len,w,fun i d e=>let⟨v,h1,h2⟩:=E.val i d e;⟨v,h1,h2.pre p⟩⟩
theorem dG.set{K:W.Frag}{cl:Tr}{S:bc}{σ:L2.St}{δ:DE}(E:dG K cl ρ H S σ δ){i:Nat}{d:V3}{v:V}(hi:i < σ.length)(r:bf K ρ H d v):dG K cl ρ H S (σ.set i (some v)) (δ.set i (some d)):=
 ⟨by rw[List.length_set,List.length_set];exact E.len,E.sw,fun j d' e=>by
   by_cases h:i=j
   .subst h;rw[List.getElem?_set_self (by rw[E.len];exact hi)] at e
    cases e;exact⟨v,List.getElem?_set_self hi,r⟩
   .rw [List.getElem?_set_ne h] at e ⊢;exact E.val j d' e⟩
def down(δ:DE):aq:=δ.map fun x=>match x with | some (.d d)=> .val d | _=> .un
theorem dG.down{K:W.Frag}{cl:Tr}{ρ:P3}{S:bc}{σ:L2.St}{δ:DE}(E:dG K cl ρ H S σ δ):di K [] ρ.b H σ (down δ) where
 len:=by unfold L3.down;rw [List.length_map];exact E.len
 bs:=E.sw.bs
 zb:=fun a ha=>by cases ha
 val:=fun i d e=>by
  unfold L3.down at e;rw[List.getElem?_map] at e;cases q:δ[i]? with
  | none=>rw [q] at e;cases e
  | some x=>
    rw[q] at e
    match x,e,q with
    | some (.d y),e,q=>
      cases e;obtain⟨v,h1,h2⟩:=E.val i _ q;unfold bf at h2;exact⟨v,h1,h2⟩
    | some (.loc k),e,q=>cases e
    | some (.lst k),e,q=>cases e
    | some (.tup k),e,q=>cases e
    | none,e,q=>cases e
 bld:=fun i ds e=>by
  unfold L3.down at e;rw[List.getElem?_map] at e;cases q:δ[i]? with
  | none=>rw [q] at e;cases e
  | some x=>
    rw[q] at e
    match x,e with
    | some (.d y),e=>cases e
    | some (.loc k),e=>cases e
    | some (.lst k),e=>cases e
    | some (.tup k),e=>cases e
    | none,e=>cases e
 dis:=fun i j a ds es e=>by
  unfold L3.down at e;rw[List.getElem?_map] at e;cases q:δ[i]? with
  | none=>rw [q] at e;cases e
  | some x=>
    rw[q] at e
    match x,e with
    | some (.d y),e=>cases e
    | some (.loc k),e=>cases e
    | some (.lst k),e=>cases e
    | some (.tup k),e=>cases e
    | none,e=>cases e
mutual
def res(S:bc):V3->Option D
 | .d x=>some x
 | .loc k=>(match S[k]? with | some (.lst ds)=>some (.lst ds) | some (.dct kvs)=>some (.dct (kvs.map (·.1)) (kvs.map (·.2))) | _=>none)
 | .lst vs=>(lJ S vs).map D.lst
 | .tup vs=>(lJ S vs).map D.tup
 | .fn _=>none
def lJ(S:bc):List V3->Option (List D)
 | []=>some []
 | v ::vs=>(res S v).bind fun d=>(lJ S vs).map (d ::·)
end
def dW(S:bc)(δ:DE):aq:=δ.map fun x=>match x with | some v=>(match res S v with | some d=> .val d | none=> .un) | none=> .un
theorem fk{α β:Type}{o:Option α}{f:α->β}{b:β}(h:o.map f=some b):∃a,o=some a/\f a=b:=by
 cases o with
 | none=>cases h
 | some a=>cases h;exact⟨a,rfl,rfl⟩
theorem vW{α β:Type}{o:Option α}{f:α->Option β}{b:β}(h:o.bind f=some b):∃a,o=some a/\f a=some b:=by
 cases o with
 | none=>cases h
 | some a=>exact⟨a,rfl,h⟩
mutual
def gI(n:Nat):V3->Bool
 | .d _=>true
 | .loc k=>decide (n<=k)
 | .lst vs=>jd n vs
 | .tup vs=>jd n vs
 | .fn _=>true
def jd(n:Nat):List V3->Bool
 | []=>true
 | v ::vs=>gI n v && jd n vs
end
mutual
theorem bf.resB{K:W.Frag}{cl:Tr}{ρ:P3}{S:bc}{B':List Addr}{n:Nat}(w:SW K cl ρ H S)(p:cW ρ.b H B' H)(hn:∀(k:Nat) (a:Addr),n<=k->ρ.r[k]? =some a->a ∉ B'):∀{v:V3} {d:D} {x:V},gI n v=true->res S v=some d->bf K ρ H v x->Rep K B' H d x
 | .d y,d,x,_,h,r=>by unfold L3.res at h;cases h;unfold bf at r;exact r.aY p
 | .fn y,d,x,_,h,r=>by unfold L3.res at h;cases h
 | .loc k,d,x,g,h,r=>by
   unfold L3.res at h;unfold bf at r;unfold gI at g;obtain⟨a,h1,rfl⟩:=r;split at h
   .rename_i ds e;cases h;obtain⟨xs,e2,q⟩:=w.ob k a _ h1 e;unfold Rep;exact⟨a,xs,rfl, .inl ⟨hn k a (of_decide_eq_true g) h1, .inl e2⟩,q.aY p⟩
   .rename_i kvs e;cases h;obtain⟨ys,e2,e3,q⟩:=w.ob k a _ h1 e;unfold Rep;exact⟨a,ys,rfl,⟨hn k a (of_decide_eq_true g) h1,e2⟩,e3,q.aY p⟩
   .cases h
 | .lst vs,d,x,g,h,r=>by
   unfold L3.res at h;unfold gI at g;obtain⟨ds,e,rfl⟩:=fk h;unfold bf at r;obtain⟨a,xs,rfl,l,r⟩:=r;unfold Rep;exact⟨a,xs,rfl,l.aY p,aI.resB w p hn g e r⟩
 | .tup vs,d,x,g,h,r=>by
   unfold L3.res at h;unfold gI at g;obtain⟨ds,e,rfl⟩:=fk h;unfold bf at r;obtain⟨a,xs,rfl,l,r⟩:=r;unfold Rep;exact⟨a,xs,rfl,qH.aY p l,aI.resB w p hn g e r⟩
theorem aI.resB{K:W.Frag}{cl:Tr}{ρ:P3}{S:bc}{B':List Addr}{n:Nat}(w:SW K cl ρ H S)(p:cW ρ.b H B' H)(hn:∀(k:Nat) (a:Addr),n<=k->ρ.r[k]? =some a->a ∉ B'):∀{vs:List V3} {ds:List D} {xs:List V},jd n vs=true->lJ S vs=some ds->aI K ρ H vs xs->aC K B' H ds xs
 | [],ds,xs,_,h,r=>by unfold lJ at h;cases h;unfold aI at r;subst r;exact aC.nil
 | v ::vs,ds,xs,g,h,r=>by
   unfold lJ at h;unfold jd at g;obtain⟨g1,g2⟩:=Bool.and_eq_true_iff.mp g;obtain⟨d,e1,h2⟩:=vW h;obtain⟨es,e2,rfl⟩:=fk h2;obtain⟨y,ys,rfl,r1,r2⟩:=r.bX;exact aC.cons (bf.resB w p hn g1 e1 r1) (aI.resB w p hn g2 e2 r2)
end
mutual
theorem qF:∀v:V3,gI 0 v=true
 | .d _=>by unfold gI;rfl
 | .loc k=>by unfold gI;exact decide_eq_true (Nat.zero_le _)
 | .lst vs=>by unfold gI;exact lx vs
 | .tup vs=>by unfold gI;exact lx vs
 | .fn _=>by unfold gI;rfl
theorem lx:∀vs:List V3,jd 0 vs=true
 | []=>by unfold jd;rfl
 | v ::vs=>by unfold jd;rw [qF v,lx vs];rfl
end
theorem bf.res{K:W.Frag}{cl:Tr}{S:bc}(w:SW K cl ρ H S){v:V3}{d:D}{x:V}(h:res S v=some d)(r:bf K ρ H v x):Rep K [] H d x:=
 r.resB w (fun b o e _=>⟨e,by simp⟩) (n:=0) (fun _ _ _ _=>by simp) (qF v) h
theorem mJ{S:bc}{δ:DE}{i:Nat}{y:Sl}(e:(dW S δ)[i]? =some y):(∃v d,δ[i]? =some (some v)/\res S v=some d/\y= .val d)\/y= .un:=by
 unfold dW at e;rw[List.getElem?_map] at e;cases q:δ[i]? with
 | none=>rw [q] at e;cases e
 | some x=>
   rw[q] at e;cases x with
   | none=>cases e;exact .inr rfl
   | some v=>
     cases z:res S v with
     | none=>
       have e:some (match res S v with | some d=>Sl.val d | none=> .un)=some y:=e
       rw[z] at e;cases e;exact .inr rfl
     | some d=>
       have e:some (match res S v with | some d=>Sl.val d | none=> .un)=some y:=e
       rw[z] at e;cases e;exact .inl ⟨v,d,rfl,z,rfl⟩
theorem dG.dW{K:W.Frag}{cl:Tr}{S:bc}{σ:L2.St}{δ:DE}(E:dG K cl ρ H S σ δ):di K [] [] H σ (dW S δ) where
 len:=by unfold L3.dW;rw [List.length_map];exact E.len
 bs:=fun a ha=>by cases ha
 zb:=fun a ha=>by cases ha
 val:=fun i d e=>by
  rcases mJ e with⟨v,d',h1,h2,h3⟩ | h
  .cases h3;obtain⟨x,q1,q2⟩:=E.val i v h1;exact⟨x,q1,q2.res E.sw h2⟩
  .cases h
 bld:=fun i ds e=>by
  rcases mJ e with⟨v,d',h1,h2,h3⟩ | h
  .cases h3
  .cases h
 dis:=fun i j a ds es e=>by
  rcases mJ e with⟨v,d',h1,h2,h3⟩ | h
  .cases h3
  .cases h
abbrev FX:=DE->bc->R3 V3
abbrev FB:=DE->bc->R3 Bool
abbrev FA:=DE->bc->R3 (List V3)
def tX(K:W.Frag)(cl:Tr)(f:FX):TE:=fun σ H Q=>∃ρ S δ v S',dG K cl ρ H S σ δ/\f δ S= .ok v S'/\∀u cc H',Pre ρ H cc H'->SW K cl cc H' S'->bf K cc H' v u->Q u H'
def HS(K:W.Frag)(cl:Tr)(f:FB):TT:=fun σ H Q=>∃ρ S δ b S',dG K cl ρ H S σ δ/\f δ S= .ok b S'/\∀cc H',Pre ρ H cc H'->SW K cl cc H' S'->Q b H'
def Q0(K:W.Frag)(cl:Tr)(f:FA):TA:=fun σ H Q=>∃ρ S δ vs S',dG K cl ρ H S σ δ/\f δ S= .ok vs S'/\∀us cc H',Pre ρ H cc H'->SW K cl cc H' S'->aI K cc H' vs us->Q us H'
structure PX (X:Cx) (cl:Tr) (e:Expr) (f:FX):Prop where
 go:PE X e (tX X.K cl f)
structure Ep (X:Cx) (cl:Tr) (e:Expr) (f:FB):Prop where
 go:PT X e (HS X.K cl f)
structure Hh (X:Cx) (cl:Tr) (es:List Expr) (f:FA):Prop where
 go:PA X es (Q0 X.K cl f)
section
variable {X:Cx} {cl:Tr}
def xP(f:FD):FX:=fun δ S=>(R3.of (f (down δ)) S).bind fun d S=> .ok (.d d) S
theorem ax(h:QD X e f):PX X cl e (xP f):=⟨h.1.imp fun σ H Q ⟨ρ,S,δ,v,S',E,hf,q⟩=>by
 obtain⟨d,S1,h1,h2⟩:=R3.ak hf;obtain⟨h3,e3⟩:=R3.of_ok h1;cases h2;subst e3;exact⟨[],ρ.b,down δ,d,E.down,h3,fun v H' s r=>q v ρ H' (Pre.same s) (E.sw.same s) (by unfold bf;exact r)⟩⟩
def xT(f:FD):FX:=fun δ S=>(R3.of (f (dW S δ)) S).bind fun d S=>R3.aR (uQ d) (.ok (.d d) S)
theorem CG(h:QD X e f):PX X cl e (xT f):=⟨h.1.imp fun σ H Q ⟨ρ,S,δ,v,S',E,hf,q⟩=>by
 obtain⟨d,S1,h1,h2⟩:=R3.ak hf;obtain⟨h4,e3⟩:=R3.of_ok h1;obtain⟨ha,h3⟩:=R3.aW h2;cases h3;subst e3;exact⟨[],[],dW _ δ,d,E.dW,h4,fun v H' s r=>q v ρ H' (Pre.same s) (E.sw.same s) (by unfold bf;exact Rep.tO (E.sw.same s).nt ha r)⟩⟩
def bP(f:aq->R Bool):FB:=fun δ S=>R3.of (f (down δ)) S
theorem fJ{f:aq->R Bool}(h:QB X e f):Ep X cl e (bP f):=⟨h.1.imp fun σ H Q ⟨ρ,S,δ,v,S',E,hf,q⟩=>by
 obtain⟨h1,e3⟩:=R3.of_ok hf;subst e3;exact⟨[],ρ.b,down δ,v,E.down,h1,fun H' s=>q ρ H' (Pre.same s) (E.sw.same s)⟩⟩
def bT(f:aq->R Bool):FB:=fun δ S=>R3.of (f (dW S δ)) S
theorem l4{f:aq->R Bool}(h:QB X e f):Ep X cl e (bT f):=⟨h.1.imp fun σ H Q ⟨ρ,S,δ,v,S',E,hf,q⟩=>by
 obtain⟨h1,e3⟩:=R3.of_ok hf;subst e3;exact⟨[],[],dW _ δ,v,E.dW,h1,fun H' s=>q ρ H' (Pre.same s) (E.sw.same s)⟩⟩
def lr(i:Nat):FX:=fun δ S=>match δ[i]? with | some (some v)=> .ok v S | _=> .no
theorem gZ(i:Nat){x:Str}{pos:Pos}(hN:X.N[i]? =some x:=by rfl)(hv:B4 X.env.scope x:=by first | exact Or.inl rfl | exact Or.inr (Or.inl rfl) | exact Or.inr (Or.inr rfl))(hd:(x==("__debug__":Str))=false:=by decide)
 (nR:(x==("__classdict__":Str))=false:=by decide):PX X cl (.Name x pos) (lr i):=⟨(m3 hN hv hd nR).imp fun σ H Q ⟨ρ,S,δ,v,S',E,hf,q⟩=>by
 unfold lr at hf;split at hf
 .rename_i d' e;cases hf;obtain⟨u,h1,h2⟩:=E.val i _ e;exact⟨u,h1,q u ρ H (Pre.refl ρ H) E.sw h2⟩
 .cases hf⟩
def vD(f:aq->R (List D)):FX:=fun δ S=>(R3.of (f (down δ)) S).bind fun ds S=> .ok (.loc S.length) (S++[.lst ds])
theorem oA{f:aq->R (List D)}(h:QN X e f):PX X cl e (vD f):=⟨h.1.imp fun σ H Q ⟨ρ,S,δ,v,S',E,hf,q⟩=>by
 obtain⟨ds,S1,h1,h2⟩:=R3.ak hf;obtain⟨h3,e3⟩:=R3.of_ok h1;cases h2;subst e3;refine⟨[],ρ.b,down δ,ds,E.down,h3,fun a xs H' s n e r=>?_⟩
 have r':aC X.K (ρ.push a).b H' ds xs:=r.aY fun b o e nb=>⟨e,fun hb=>nb (by
  rcases P3.mem_push hb with z | z
  .exact List.mem_cons_of_mem _ z
  .subst z;exact List.mem_cons_self)⟩
 obtain⟨w,p⟩:=E.sw.new (o:= .lst ds) s n ⟨xs,e,r'⟩;exact q _ _ H' p w (by unfold bf;exact⟨a,by show(ρ.r++[a])[_]? =_;rw [<-E.sw.len,List.getElem?_append_right (by omega),Nat.sub_self];rfl,rfl⟩)⟩
end
end L3
end
section
namespace L3
open PySem PySem.Spec PyProof.Rows L2
section
variable {X:Cx} {cl:Tr}
def iJ:FA:=fun _ S=> .ok [] S
def bO(f:FX)(g:FA):FA:=fun δ S=>(f δ S).bind fun v S1=>(g δ S1).bind fun vs S2=> .ok (v ::vs) S2
theorem eM:Hh X cl [] iJ:=⟨gn.imp fun σ H Q ⟨ρ,S,δ,v,S',E,hf,q⟩=>by
 cases hf;exact q [] ρ H (Pre.refl ρ H) E.sw aI.nil⟩
theorem bg(h:PX X cl e f)(t:Hh X cl es g)(hs:starEach (e ::es) X.env=(false,eval e X.env) ::starEach es X.env:=by rfl):Hh X cl (e ::es) (bO f g):=
 ⟨(dH h.1 t.1 hs).imp fun σ H Q ⟨ρ,S,δ,v,S',E,hf,q⟩=>by
   obtain⟨v1,S1,h1,h2⟩:=R3.ak hf;obtain⟨vs,S2,h3,h4⟩:=R3.ak h2;cases h4;exact⟨ρ,S,δ,v1,S1,E,h1,fun u cD H1 p1 w1 r1=>⟨cD,S1,δ,vs,_,E.to p1 w1,h3,fun us sY H2 p2 w2 r2=>q _ sY H2 (p1.trans p2) w2 (aI.cons (r1.pre p2) r2)⟩⟩⟩
def my:List V3->Option (List D)
 | []=>some []
 | .d x ::r=>(my r).map (x ::·)
 | _ ::_=>none
theorem ky:∀{vs:List V3} {ds:List D},my vs=some ds->vs=ds.map .d
 | [],ds,h=>by cases h;rfl
 | .d x ::r,ds,h=>by
   cases e:my r with
   | none=>have h:(my r).map (x ::·)=some ds:=h;rw [e] at h;cases h
   | some es=>
     have h:(my r).map (x ::·)=some ds:=h
     rw[e] at h;cases h;rw[ky e];rfl
 | .loc _ ::_,_,h=>by cases h
 | .lst _ ::_,_,h=>by cases h
 | .tup _ ::_,_,h=>by cases h
 | .fn _ ::_,_,h=>by cases h
theorem o_:∀ds:List D,my (ds.map .d)=some ds
 | []=>rfl
 | d ::ds=>by show(my (ds.map .d)).map (d ::·)=_;rw [o_ ds];rfl
def wM(vs:List V3):V3:=match my vs with | some ds=> .d (.tup ds) | none=> .tup vs
def qC(vs:List V3):V3:=match my vs with | some ds=> .d (.lst ds) | none=> .lst vs
def Gn(g:FA):FX:=fun δ S=>(g δ S).bind fun vs S=>R3.aR (decide (vs.length<=sizeLine)) (.ok (wM vs) S)
theorem sE{H:Hp}{p:Addr}{o:HO}(hp:H p=none):Pre ρ H ρ (upd H p o):=Pre.same (aT hp)
theorem yt{K:W.Frag}{ρ:P3}{vs:List V3}{xs:List V}{a:Addr}(l:qH K ρ.b H a xs)(r:aI K ρ H vs xs):bf K ρ H (wM vs) (.ref a):=by
 unfold wM;split
 .rename_i ds e;rw[ky e] at r;unfold bf Rep;exact⟨a,xs,rfl,l,r.to⟩
 .unfold bf;exact⟨a,xs,rfl,l,r⟩
theorem yO{K:W.Frag}{ρ:P3}{vs:List V3}{xs:List V}{a:Addr}(l:sj K ρ.b H a xs)(r:aI K ρ H vs xs):bf K ρ H (qC vs) (.ref a):=by
 unfold qC;split
 .rename_i ds e;rw[ky e] at r;unfold bf Rep;exact⟨a,xs,rfl,l,r.to⟩
 .unfold bf;exact⟨a,xs,rfl,l,r⟩
theorem G4{x1 pos}(h:Hh X cl es g):PX X cl (.Tuple es x1 pos) (Gn g):=⟨(vv h.1).imp fun σ H Q ⟨ρ,S,δ,v,S',E,hf,q⟩=>by
 obtain⟨vs,S1,h1,h2⟩:=R3.ak hf;obtain⟨hl,h3⟩:=R3.aW h2;cases h3;refine⟨ρ,S,δ,vs,_,E,h1,fun us cD H1 p1 w1 r1=>⟨by rw[<-r1.length];exact of_decide_eq_true hl,fun p hp=>q _ cD _ (p1.trans (sE hp)) (w1.same (aT hp)) ?_⟩⟩
 refine yt (.inl ⟨fun ha=>?_, .inl aU⟩) (r1.pre (sE hp))
 obtain⟨o,ho⟩:=w1.bs p ha;rw[hp] at ho;cases ho⟩
def Py(g:FA):FX:=fun δ S=>(g δ S).bind fun vs S=>R3.aR (decide (vs.length<=sizeLine)) (.ok (qC vs) S)
def x2(g:D->D->R D)(fa fb:FX):FX:=fun δ S=>(fa δ S).bind fun a S1=>(fb δ S1).bind fun b S2=>match a,b with
 | .d x, .d y=>(R3.of (g x y) S2).bind fun d S=> .ok (.d d) S
 | _,_=> .no
theorem K5{K:W.Frag}{g:D->D->R D}{σ:L2.St}{Q:VK}(h:tX K cl (x2 g fa fb) σ H Q) :
 Ic (fun x y H Q=>∃B da db d,(∀a∈B,∃o,H a=some o)/\Rep K B H da x/\Rep K B H db y/\g da db= .ok d/\∀z H',aP H H'->Rep K B H' d z->Q z H') (tX K cl fa) (tX K cl fb) σ H Q:=by
 obtain⟨ρ,S,δ,v,S',E,hf,q⟩:=h;obtain⟨a,S1,h1,h2⟩:=R3.ak hf;obtain⟨b,S2,h3,h4⟩:=R3.ak h2
 match a,b,h1,h3,h4 with
 | .d x, .d y,h1,h3,h4=>
   obtain⟨d,S3,h5,h6⟩:=R3.ak h4;obtain⟨h7,e⟩:=R3.of_ok h5;cases h6;subst e;refine⟨ρ,S,δ, .d x,S1,E,h1,fun u1 cD H1 p1 w1 r1=>⟨cD,S1,δ, .d y,_,E.to p1 w1,h3,fun u2 sY H2 p2 w2 r2=>?_⟩⟩
   have vi:=r1.pre p2;unfold bf at vi r2;exact⟨sY.b,x,y,d,w2.bs,vi,r2,h7,fun z H' s r=>q z sY H' (p1.trans (p2.trans (Pre.same s))) (w2.same s) (by unfold bf;exact r)⟩
 | .d x, .loc _,_,_,h4=>cases h4
 | .d x, .lst _,_,_,h4=>cases h4
 | .d x, .tup _,_,_,h4=>cases h4
 | .d x, .fn _,_,_,h4=>cases h4
 | .loc _,_,_,_,h4=>cases h4
 | .lst _,_,_,_,h4=>cases h4
 | .tup _,_,_,_,h4=>cases h4
 | .fn _,_,_,_,h4=>cases h4
def Kd(g:D->D->R D)(fa fb:FX):FB:=fun δ S=>(x2 g fa fb δ S).bind fun v S=>match v with | .d (.bl b)=> .ok b S | _=> .no
theorem Dx{op:CmpOp}{g:D->D->R D}(ho:kH X (compareOp op) g)(ha:PX X cl a fa)(hb:PX X cl b fb)(hm:behindInMarks op b=false):Ep X cl (.Compare a [op] [b] pos) (Kd g fa fb):=
 ⟨(wK ho.r ha.1 hb.1 hm).imp fun σ H Q ⟨ρ,S,δ,b,S',E,hf,q⟩=>by
   obtain⟨v,S1,h1,h2⟩:=R3.ak hf;have hv:v= .d (.bl b)/\S1=S':=by
    match v,h2 with
    | .d (.bl k),h2=>cases h2;exact⟨rfl,rfl⟩
    | .d .cu,h2=>cases h2
    | .d (.int _),h2=>cases h2
    | .d (.str _),h2=>cases h2
    | .d (.lst _),h2=>cases h2
    | .d (.tup _),h2=>cases h2
    | .d (.dct _ _),h2=>cases h2
    | .loc _,h2=>cases h2
    | .lst _,h2=>cases h2
    | .tup _,h2=>cases h2
    | .fn _,h2=>cases h2
   obtain⟨rfl,rfl⟩:=hv;exact K5 (g:=g) (Q:=fun x H'=>∃k,x= .bl k/\Q k H') ⟨ρ,S,δ,_,_,E,h1,fun u cc H' p w r=>⟨b,by unfold bf Rep at r;exact r,q cc H' p w⟩⟩⟩
inductive Ou where
 | nx (δ:DE) | rt (v:V3)
abbrev FZ:=DE->bc->R3 Ou
def yH(K:W.Frag)(cl:Tr)(ρ:P3)(H:Hp)(D:Ends)(S':bc):Ou->Prop
 | .nx df=>∀cG cc H',Pre ρ H cc H'->dG K cl cc H' S' cG df->D.nx cG H'
 | .rt v=>∀u cc H',Pre ρ H cc H'->SW K cl cc H' S'->bf K cc H' v u->D.rt u H'
theorem yH.pre{K:W.Frag}{D:Ends}{S':bc}{o:Ou}(q:yH K cl ρ H D S' o)(p:Pre ρ H cD H1):yH K cl cD H1 D S' o:=by
 cases o with
 | nx df=>exact fun cG cc H' p' E'=>q cG cc H' (p.trans p') E'
 | rt d=>exact fun v cc H' p' w r=>q v cc H' (p.trans p') w r
def sX(K:W.Frag)(cl:Tr)(F:FZ):TS:=fun D σ H=>∃ρ S δ o S',dG K cl ρ H S σ δ/\F δ S= .ok o S'/\yH K cl ρ H D S' o
structure PZ (X:Cx) (cl:Tr) (st:Stmt) (F:FZ):Prop where
 go:PS X st (sX X.K cl F)
structure zo (X:Cx) (cl:Tr) (st:List Stmt) (F:FZ):Prop where
 go:r6 X st (sX X.K cl F)
def lV:FZ:=fun δ S=> .ok (.nx δ) S
def bD(F G:FZ):FZ:=fun δ S=>(F δ S).bind fun o S1=>match o with | .nx df=>G df S1 | .rt d=> .ok (.rt d) S1
theorem fZ:zo X cl [] lV:=⟨xf.imp fun D σ H ⟨ρ,S,δ,o,S',E,hf,q⟩=>by
 cases hf;exact q σ ρ H (Pre.refl ρ H) E⟩
theorem ay{st:Stmt}{rest:List Stmt}(h1:PZ X cl st F)(h2:zo X cl rest G):zo X cl (st ::rest) (bD F G):=⟨(t6 h1.1 h2.1).imp fun D σ H ⟨ρ,S,δ,o,S',E,hf,q⟩=>by
 obtain⟨o1,S1,h1,h2⟩:=R3.ak hf;refine⟨ρ,S,δ,o1,S1,E,h1,?_⟩;cases o1 with
 | nx δ1=>
   intro JQ cD H1 p1 E1;exact⟨cD,S1,δ1,o,S',E1,h2,q.pre p1⟩
 | rt d=>
   cases h2;exact q⟩
theorem bF{st:Stmt}(h1:PZ X cl st F):zo X cl [st] F:=⟨wz h1.1⟩
def b9(i:Nat)(f:FX):FZ:=fun δ S=>(f δ S).bind fun v S=>R3.aR (decide (i < δ.length)) (.ok (.nx (δ.set i (some v))) S)
theorem bu{i:Nat}{pos pos':Pos}(he:PX X cl e f)(hs:swapsWith e (some (.Name x pos')) pos.line X.env=pure false:=by rfl)(hf:X.fn x=true\/X.env.scope.names.lookup x=some .local:=by first | exact .inl rfl | exact .inr rfl | assumption)(hN:X.N.Nodup:=by first | assumption | exact EF (by kernel_rfl))(hi:X.N[i]? =some x:=by rfl)(hx:Loc X.env.scope x:=by first | exact Or.inl rfl | exact Or.inr rfl) :
 PZ X cl (.Assign [.Name x pos'] e pos) (b9 i f):=⟨(vF hN hi hx he.1 hs hf).imp fun D σ H ⟨ρ,S,δ,o,S',E,hf,q⟩=>by
 obtain⟨v,S1,h1,h2⟩:=R3.ak hf;obtain⟨hi,h3⟩:=R3.aW h2;cases h3;refine⟨ρ,S,δ,v,_,E,h1,fun u cD H1 p1 w1 r1=>?_⟩
 exact q _ cD H1 p1 ((E.to p1 w1).set (by rw[<-E.len];exact of_decide_eq_true hi) r1)⟩
def mC(f:FX):FZ:=fun δ S=>(f δ S).bind fun v S=> .ok (.rt v) S
theorem iV(he:PX X cl e f):PZ X cl (.Return (some e) pos) (mC f):=⟨(Bd he.1).imp fun D σ H ⟨ρ,S,δ,o,S',E,hf,q⟩=>by
 obtain⟨v,S1,h1,h2⟩:=R3.ak hf;cases h2;exact⟨ρ,S,δ,v,_,E,h1,fun u cD H1 p1 w1 r1=>q u cD H1 p1 w1 r1⟩⟩
def xG(c:FB)(F G:FZ):FZ:=fun δ S=>(c δ S).bind fun b S=>if b then F δ S else G δ S
theorem ma(hc:Ep X cl c fc)(ha:zo X cl a F)(hb:zo X cl b G):PZ X cl (.If c a b pos) (xG fc F G):=⟨(EI hc.1 ha.1 hb.1).imp fun D σ H ⟨ρ,S,δ,o,S',E,hf,q⟩=>by
 obtain⟨k,S1,h1,h2⟩:=R3.ak hf;refine⟨ρ,S,δ,k,S1,E,h1,fun cD H1 p1 w1=>?_⟩
 cases k with
 | true=>rw [if_pos rfl] at h2;exact Cy ⟨cD,S1,δ,o,S',E.to p1 w1,h2,q.pre p1⟩
 | false=>rw [if_neg (by decide)] at h2;exact Dh ⟨cD,S1,δ,o,S',E.to p1 w1,h2,q.pre p1⟩⟩
def qY(f:FX):FZ:=fun δ S=>(f δ S).bind fun _ S=> .ok (.nx δ) S
theorem nW{pos:Pos}(he:PX X cl e f)(ve:swapsWith e none pos.line X.env=pure false:=by rfl):PZ X cl (.Expr e pos) (qY f):=⟨(nX he.1 ve).imp fun D σ H ⟨ρ,S,δ,o,S',E,hf,q⟩=>by
 obtain⟨v,S1,h1,h2⟩:=R3.ak hf;cases h2;exact⟨ρ,S,δ,v,_,E,h1,fun u cD H1 p1 w1 r1=>q _ cD H1 p1 (E.to p1 w1)⟩⟩
def wG(c:FB)(body:FZ):Nat->FZ
 | 0,_,_=> .no
 | n+1,δ,S=>(c δ S).bind fun b S=>if b then(body δ S).bind fun o S=>match o with | .nx e8=>wG c body n e8 S | .rt r=> .ok (.rt r) S else .ok (.nx δ) S
def Mh(n:Nat)(c:FB)(body:FZ):FZ:=fun δ S=>wG c body n δ S
end
end L3
end
section
namespace L3
open PySem PySem.Spec PyProof.Rows L2
theorem aI.get{K:W.Frag}:∀{ds:List V3} {xs:List V} {i:Nat} {d:V3},aI K ρ H ds xs->ds[i]? =some d->∃x,xs[i]? =some x/\bf K ρ H d x
 | [],_,_,_,_,e=>by simp at e
 | d ::ds,xs,0,d',h,e=>by
   obtain⟨x,r,rfl,h1,h2⟩:=h.bX;simp at e;subst e;exact⟨x,rfl,h1⟩
 | d ::ds,xs,i+1,d',h,e=>by
   obtain⟨x,r,rfl,h1,h2⟩:=h.bX;obtain⟨y,e1,e2⟩:=aI.get (i:=i) h2 (by simpa using e)
   exact⟨y,by simpa using e1,e2⟩
def J9(K:W.Frag)(ρ:P3)(H:Hp)(J:It)(vs:List V3):Prop:=∀cc H',PW ρ H cc H'->(∀a∈cc.b,∃o,H' a=some o)->(∀(i:Nat) (d:V3),vs[i]? =some d->J.go i H'/\∀x lP,J.yld i H' x lP->aP H' lP/\bf K cc lP d x)/\J.stop vs.length H'
theorem J9.of{K:W.Frag}{ρ:P3}{J:It}{ds:List D}(h:As K ρ.b H J ds):J9 K ρ H J (ds.map .d):=fun cc H' p bs=>by
 obtain⟨h1,h2⟩:=h cc.b H' p.aY;refine⟨fun i v hv=>?_,by rw[List.length_map];exact h2⟩
 rw[List.getElem?_map] at hv;cases e:ds[i]? with
 | none=>rw [e] at hv;cases hv
 | some d=>
   rw[e] at hv;cases hv;obtain⟨g1,g2⟩:=h1 i d e;exact⟨g1,fun x lP y=>let⟨s,r⟩:=g2 x lP y bs;⟨s,by unfold bf;exact r⟩⟩
def Nk(K:W.Frag)(cl:Tr)(f:FA):TI:=fun σ H R=>∃ρ S δ vs S',dG K cl ρ H S σ δ/\f δ S= .ok vs S'/\∀J cD H1,Pre ρ H cD H1->SW K cl cD H1 S'->J9 K cD H1 J vs->R J H1
structure Kh (X:Cx) (cl:Tr) (tg e:Expr) (f:FA):Prop where
 go:PI X tg e (Nk X.K cl f)
section
variable {X:Cx} {cl:Tr}
def iP(f:aq->R (List D)):FA:=fun δ S=>(R3.of (f (down δ)) S).bind fun ds S=> .ok (ds.map .d) S
theorem bR{f:aq->R (List D)}(h:w6 X tg e f):Kh X cl tg e (iP f):=⟨h.1.imp fun σ H Q ⟨ρ,S,δ,vs,S',E,hf,q⟩=>by
 obtain⟨ds,S1,h1,h2⟩:=R3.ak hf;obtain⟨h3,e3⟩:=R3.of_ok h1;cases h2;subst e3;exact⟨[],ρ.b,down δ,ds,E.down,h3,fun J H1 s r=>q J ρ H1 (Pre.same s) (E.sw.same s) (J9.of r)⟩⟩
def Em(f:FX):FA:=fun δ S=>(f δ S).bind fun v S=>match v with | .d (.int j)=>R3.aR (decide (-(2 ^ 62)<=j/\j < 2 ^ 62)) (.ok ((jl 0 j.toNat).map .d) S) | _=> .no
def Pf(f:FX):FA:=fun δ S=>(f δ S).bind fun v S=>match v with | .d (.lst ds)=> .ok (ds.map .d) S | .lst vs=> .ok vs S | _=> .no
abbrev FG:=V3->DE->Option DE
abbrev CJ:=List V3->DE->Option DE
def gX(K:W.Frag)(cl:Tr)(t:FG):TG:=fun v σ H Q=>∃ρ S δ x df,dG K cl ρ H S σ δ/\bf K ρ H x v/\t x δ=some df/\∀cG H',aP H H'->dG K cl ρ H' S cG df->Q cG H'
def ON(K:W.Frag)(cl:Tr)(t:CJ):Ay:=fun v σ H Q=>∃ρ S δ x df,dG K cl ρ H S σ δ/\aI K ρ H x v/\t x δ=some df/\∀cG H',aP H H'->dG K cl ρ H' S cG df->Q cG H'
structure HP (X:Cx) (cl:Tr) (tg:Expr) (t:FG):Prop where
 go:PG X tg (gX X.K cl t)
structure DA (X:Cx) (cl:Tr) (tg:List Expr) (t:CJ):Prop where
 go:D7 X tg (ON X.K cl t)
theorem dG.same{K:W.Frag}{S:bc}{σ:L2.St}{δ:DE}(E:dG K cl ρ H S σ δ)(s:aP H H'):dG K cl ρ H' S σ δ:=E.to (Pre.same s) (E.sw.same s)
def gG(i:Nat):FG:=fun d δ=>if i < δ.length then some (δ.set i (some d)) else none
theorem aN{i:Nat}{pos:Pos}(hf:X.fn x=true\/X.env.scope.names.lookup x=some .local:=by first | exact .inl rfl | exact .inr rfl | assumption)(hN:X.N.Nodup:=by first | assumption | exact EF (by kernel_rfl))(hi:X.N[i]? =some x:=by rfl)(hx:Loc X.env.scope x:=by first | exact Or.inl rfl | exact Or.inr rfl):HP X cl (.Name x pos) (gG i):=
 ⟨(xB hN hi hx hf).imp fun v σ H Q ⟨ρ,S,δ,d,df,E,r,ht,q⟩=>by
   unfold gG at ht;split at ht
   .rename_i hi;cases ht;exact q _ H (aP.refl H) (E.set (by rw[<-E.len];exact hi) r)
   .cases ht⟩
def vz:CJ:=fun ds δ=>match ds with | []=>some δ | _=>none
def lu(t:FG)(u:CJ):CJ:=fun ds δ=>match ds with | d ::r=>(t d δ).bind fun df=>u r df | []=>none
theorem cP:DA X cl [] vz:=⟨wI.imp fun vs σ H Q ⟨ρ,S,δ,ds,df,E,r,ht,q⟩=>by
 cases ds with
 | nil=>unfold aI at r;cases ht;exact⟨r,q σ H (aP.refl H) E⟩
 | cons=>cases ht⟩
theorem a9{u:CJ}(h1:HP X cl e t)(h2:DA X cl es u)(hs:(assignEach (e ::es) X.env).map (·.2)=assign e X.env ::(assignEach es X.env).map (·.2):=by rfl):DA X cl (e ::es) (lu t u):=
 ⟨(tQ h1.1 h2.1 hs).imp fun vs σ H Q ⟨ρ,S,δ,ds,df,E,r,ht,q⟩=>by
   cases ds with
   | nil=>cases ht
   | cons d ds=>
     obtain⟨x,xs,rfl,r1,r2⟩:=r.bX;have ht:(t d δ).bind (fun df=>u ds df)=some df:=ht
     cases e1:t d δ with
     | none=>rw [e1] at ht;cases ht
     | some δ1=>
       rw[e1] at ht;exact⟨x,xs,rfl,ρ,S,δ,d,δ1,E,r1,e1,fun JQ H1 s1 E1=>⟨ρ,S,δ1,ds,df,E1,r2.pre (Pre.same s1),ht,fun sS H2 s2 E2=>q sS H2 (s1.trans s2) E2⟩⟩⟩
def vh(n:Nat)(t:CJ):FG:=fun d δ=>match d with
 | .d (.tup ds)=>if ds.length=n then t (ds.map .d) δ else none
 | .tup vs=>if vs.length=n then t vs δ else none
 | _=>none
theorem dF{k:Nat}{t:CJ}{n:Nat}{pos:Pos}(h:DA X cl es t)(hn:(assignEach es X.env).length=n:=by rfl)(Ed:(assignEach es X.env).findIdx? (·.1)=none:=by rfl)(hc:X.calm=true:=by rfl):HP X cl (.Tuple es k pos) (vh n t):=
 ⟨(zL hc h.1 hn Ed).imp fun v σ H Q ⟨ρ,S,δ,d,df,E,r,ht,q⟩=>by
   have key:∃vs a xs,v= .ref a/\qH X.K ρ.b H a xs/\aI X.K ρ H vs xs/\vs.length=n/\t vs δ=some df:=by
    unfold vh at ht;split at ht
    .rename_i ds;split at ht
     .rename_i hl;unfold bf Rep at r;obtain⟨a,xs,e,l,r⟩:=r;exact⟨ds.map .d,a,xs,e,l,aI.of r,by rw[List.length_map];exact hl,ht⟩
     .cases ht
    .rename_i vs;split at ht
     .rename_i hl;unfold bf at r;obtain⟨a,xs,e,l,r⟩:=r;exact⟨vs,a,xs,e,l,r,hl,ht⟩
     .cases ht
    .cases ht
   obtain⟨vs,a,xs,rfl,l,r,hl,ht⟩:=key;exact⟨a,xs,rfl,l.sq,by rw[<-r.length];exact hl,ρ,S,δ,vs,df,E,r,ht,q⟩⟩
def G2(f:FX)(t:FG):FZ:=fun δ S=>(f δ S).bind fun d S=>match t d δ with | some df=> .ok (.nx df) S | none=> .no
theorem FE{tg e:Expr}{f:FX}{t:FG}{pos:Pos}(he:PX X cl e f)(hg:HP X cl tg t)(hs:swapsWithSole [tg] e pos.line X.env=pure false:=by rfl)(hw:swappedStores [tg] e X.env=pure none:=by rfl)
 (h1:(assignEach [tg] X.env).map (·.2)=[assign tg X.env]:=by rfl):PZ X cl (.Assign [tg] e pos) (G2 f t):=⟨(GR he.1 hg.1 hs hw h1).imp fun D σ H ⟨ρ,S,δ,o,S',E,hf,q⟩=>by
 obtain⟨d,S1,h1,h2⟩:=R3.ak hf;split at h2
 .rename_i δ1 e1;cases h2;exact⟨ρ,S,δ,d,_,E,h1,fun v cD H1 p1 w1 r1=>⟨cD,_,δ,d,δ1,E.to p1 w1,r1,e1,fun cG H2 s2 E2=>q cG cD H2 (p1.trans (Pre.same s2)) E2⟩⟩
 .cases h2⟩
def lW(t:FG)(body:FZ):List V3->FZ
 | [],δ,S=> .ok (.nx δ) S
 | d ::ds,δ,S=>match t d δ with
   | none=> .no
   | some δ1=>(body δ1 S).bind fun o S=>match o with | .nx e8=>lW t body ds e8 S | .rt r=> .ok (.rt r) S
def jT(it:FA)(t:FG)(body:FZ):FZ:=fun δ S=>(it δ S).bind fun vs S=>lW t body vs δ S
theorem fu{pos:Pos}(hi:Kh X cl tg iter it)(hg:HP X cl tg t)(hb:zo X cl body F)(hs:∀x,foldedSetIterable iter X.env x=pure x:=by intro _;rfl)(hp:PassesOwn (model X.prog X.w) X.A X.env X.xe:=by exact PassesOwn.never)(hc:X.calm=true:=by rfl):PZ X cl (.For tg iter body [] pos) (jT it t F):=⟨(Am hp hc hi.1 hg.1 hb.1 hs).imp fun D σ H ⟨ρ,S,δ,o,S',E,hf,q⟩=>by
 obtain⟨ds,S0,h1,h2⟩:=R3.ak hf;refine⟨ρ,S,δ,ds,S0,E,h1,fun J cD H1 p1 w1 ir=>?_⟩
 refine⟨fun i m cG H'=>m=ds.length - i/\i<=ds.length/\∃cc S1 df,Pre cD H1 cc H'/\dG X.K cl cc H' S1 cG df/\lW t F (ds.drop i) df S1= .ok o S',⟨ds.length,rfl,Nat.zero_le _,cD,S0,δ,Pre.refl cD H1,E.to p1 w1,by simpa using h2⟩,?_⟩
 rintro i m cG H' ⟨rfl,hi,cc,S1,df,pv,E',hl⟩;obtain⟨go,stop⟩:=ir cc H' pv.pw E'.sw.bs;by_cases mE:i < ds.length
 .have hd:ds[i]? =some ds[i]:=List.getElem?_eq_getElem mE;have hdrop:ds.drop i=ds[i] ::ds.drop (i+1):=List.drop_eq_getElem_cons mE;rw[hdrop] at hl;unfold lW at hl;split at hl
  .cases hl
  .rename_i δ1 h3;obtain⟨o1,S2,h5,h6⟩:=R3.ak hl;obtain⟨g1,g2⟩:=go i _ hd;refine .inr ⟨g1,fun sS H2=>∃sY S2 e8,Pre cD H1 sY H2/\dG X.K cl sY H2 S2 sS e8/\lW t F (ds.drop (i+1)) e8 S2= .ok o S',fun sS H2 n=>⟨ds.length - (i+1),by omega,rfl,mE,n⟩,fun x lP y=>?_⟩
   obtain⟨ss,rr⟩:=g2 x lP y;refine⟨cc,S1,df,ds[i],δ1,E'.same ss,rr,h3,fun sS H2 s2 E2=>⟨cc,S1,δ1,o1,S2,E2,h5,?_⟩⟩
   have pv2:Pre cD H1 cc H2:=pv.trans (Pre.same (ss.trans s2));cases o1 with
   | nx e8=>exact fun Eb E6 H3 p3 E3=>⟨E6,S2,e8,pv2.trans p3,E3,h6⟩
   | rt d=>
     cases h6;exact fun v E6 H3 p3 w r=>q v E6 H3 (p1.trans (pv2.trans p3)) w r
 .have e:i=ds.length:=by omega
  subst e;rw[List.drop_length] at hl;cases hl;exact .inl ⟨stop,q cG cc H' (p1.trans pv) E'⟩⟩
end
end L3
end
section
namespace L3
open PySem PySem.Spec PyProof.Rows L2
mutual
def ue(n:Nat):V3->Bool
 | .d _=>true
 | .loc k=>decide (k < n)
 | .lst vs=>mR n vs
 | .tup vs=>mR n vs
 | .fn _=>true
def mR(n:Nat):List V3->Bool
 | []=>true
 | v ::vs=>ue n v && mR n vs
end
def uJ(n:Nat):SO->Bool
 | .ins _ fs=>mR n (fs.map (·.2))
 | _=>true
theorem CF{ρ:P3}{n:Nat}{b:Addr}(h:b∈(ρ.cut n).b):b∈ρ.b:=by
 rcases P3.c6.mp h with z | z
 .exact P3.c6.mpr (.inl ⟨List.mem_of_mem_take z.1,z.2⟩)
 .exact P3.c6.mpr (.inr z)
theorem fM{ρ:P3}(n:Nat):cW ρ.b H (ρ.cut n).b H:=fun b o e nb=>⟨e,fun hb=>nb (CF hb)⟩
mutual
theorem bf.cut{K:W.Frag}{ρ:P3}{n:Nat}:∀{v:V3} {x:V},ue n v=true->bf K ρ H v x->bf K (ρ.cut n) H v x
 | .fn y,x,_,h=>by unfold bf at h ⊢;exact h
 | .d y,x,_,h=>by unfold bf at h ⊢;exact h.aY (fM n)
 | .loc k,x,o,h=>by
   unfold bf at h ⊢;unfold ue at o;obtain⟨a,h1,h2⟩:=h;exact⟨a,by show(ρ.r.take n)[k]? =_;rw [List.getElem?_take_of_lt (of_decide_eq_true o)];exact h1,h2⟩
 | .lst vs,x,o,h=>by
   unfold bf at h ⊢;unfold ue at o;obtain⟨a,xs,e,l,r⟩:=h;exact⟨a,xs,e,l.aY (fM n),aI.cut o r⟩
 | .tup vs,x,o,h=>by
   unfold bf at h ⊢;unfold ue at o;obtain⟨a,xs,e,l,r⟩:=h;exact⟨a,xs,e,qH.aY (fM n) l,aI.cut o r⟩
theorem aI.cut{K:W.Frag}{ρ:P3}{n:Nat}:∀{vs:List V3} {xs:List V},mR n vs=true->aI K ρ H vs xs->aI K (ρ.cut n) H vs xs
 | [],_,_,h=>by unfold aI at h ⊢;exact h
 | v ::vs,xs,o,h=>by
   unfold mR at o;obtain⟨o1,o2⟩:=Bool.and_eq_true_iff.mp o;obtain⟨x,r,rfl,h1,h2⟩:=h.bX;exact aI.cons (bf.cut o1 h1) (aI.cut o2 h2)
end
theorem SW.cut{K:W.Frag}{cl:Tr}{ρ:P3}{S:bc}(w:SW K cl ρ H S){n:Nat}(ok:(S.take n).all (uJ n)=true):SW K cl (ρ.cut n) H (S.take n):=
 ⟨by show(ρ.r.take n).length=_;rw [List.length_take,List.length_take,w.len],fun i j a hi hj=>by
   have hi:(ρ.r.take n)[i]? =some a:=hi;have hj:(ρ.r.take n)[j]? =some a:=hj;have gi:ρ.r[i]? =some a:=by
    rw[List.getElem?_take] at hi;split at hi
    .exact hi
    .cases hi
   have gj:ρ.r[j]? =some a:=by
    rw[List.getElem?_take] at hj;split at hj
    .exact hj
    .cases hj
   exact w.nd i j a gi gj,fun k a o hk ho=>by
   have hk:(ρ.r.take n)[k]? =some a:=hk;have gk:ρ.r[k]? =some a:=by
    rw[List.getElem?_take] at hk;split at hk
    .exact hk
    .cases hk
   have go:S[k]? =some o:=by
    rw[List.getElem?_take] at ho;split at ho
    .exact ho
    .cases ho
   have r:=w.ob k a o gk go;have oo:uJ n o=true:=List.all_eq_true.mp ok o (List.mem_of_getElem? ho);cases o with
   | lst ds=>obtain⟨xs,e,q⟩:=r;exact⟨xs,e,q.aY (fM n)⟩
   | dct kvs=>obtain⟨ys,e,e2,q⟩:=r;exact⟨ys,e,e2,q.aY (fM n)⟩
   | dcT kvs=>obtain⟨ys,e,e2,q⟩:=r;exact⟨ys,e,e2,q.aY (fM n)⟩
   | ins c fs=>obtain⟨dx,ys,e,e2,q⟩:=r;exact⟨dx,ys,e,e2,q.cut oo⟩
   | exc c=>exact r
   | ft=>exact r,fun b hb=>let⟨h1,h2⟩:=w.zb b hb;⟨h1,fun h=>h2 (List.mem_of_mem_take h)⟩,(fun k a hk ho=>by
   have hk:(ρ.r.take n)[k]? =some a:=hk;rw[List.getElem?_take] at hk;split at hk
   .rename_i mE;rw[List.getElem?_take_of_lt mE] at ho;exact w.fz k a hk ho
   .cases hk),w.ff,(fun k a hk ho=>by
   have hk:(ρ.r.take n)[k]? =some a:=hk;rw[List.getElem?_take] at hk;split at hk
   .rename_i mE;rw[List.getElem?_take_of_lt mE] at ho;exact w.fi k a hk ho
   .cases hk)⟩
theorem SW.Fq{K:W.Frag}{cl:Tr}{ρ cc:P3}{n:Nat}(hn:ρ.r.length<=n)(p:Pre ρ H cc H'):Pre ρ H (cc.cut n) H':=
 ⟨p.aY.trans (fM n),p.zz,p.zs,fun k a h=>by show(cc.r.take n)[k]? =_;rw [List.getElem?_take_of_lt (Nat.lt_of_lt_of_le (List.getElem?_eq_some_iff.mp h).1 hn)];exact p.ext k a h⟩
section
variable {X:Cx} {cl:Tr}
def cZ(S:bc)(k:Nat):Option (List D):=match S[k]? with | some (.lst ds)=>some ds | _=>none
theorem gc{S:bc}{k:Nat}{ds:List D}(h:cZ S k=some ds):S[k]? =some (.lst ds):=by
 unfold cZ at h;split at h
 .rename_i e;cases h;exact e
 .cases h
def e_(δ:DE)(i:Nat):Option Nat:=match δ[i]? with | some (some (.loc k))=>some k | _=>none
theorem iI{δ:DE}{i k:Nat}(h:e_ δ i=some k):δ[i]? =some (some (.loc k)):=by
 unfold e_ at h;split at h
 .rename_i e;cases h;exact e
 .cases h
def qc(i:Nat)(f:FX):FZ:=fun δ S=>match e_ δ i with
 | none=> .no
 | some k=>match cZ S k with
   | none=> .no
   | some _=>(f δ S).bind fun v S1=>match v with
     | .d d=>(match cZ S1 k with | some ds=>R3.aR (decide (ds.length < sizeLine)) (.ok (.nx δ) (S1.set k (.lst (ds++[d])))) | none=> .no)
     | _=> .no
theorem mK{i:Nat}{x:Str}{e:Expr}{f:FX}{eZ apos bL pos:Pos}(he:PX X cl e f)(hd:(x==("__debug__":Str))=false:=by decide)(nR:(x==("__classdict__":Str))=false:=by decide)(hs:starEach [e] X.env=(false,eval e X.env) ::starEach [] X.env:=by rfl)(gz:(apos.endLine==bL.line)=true:=by rfl)(lK:((backTo bL (starEach [e] X.env)).all (fun x=>!x.1) && (backToKw bL (keywordEach [] X.env)).all (fun x=>x.1.isSome)
 && decide (([e]:List Expr).length+([]:List Keyword).length+(if([]:List Keyword).isEmpty then 0 else 1) < 30))=true:=by rfl) (ve:swapsWith (.Call (.Attribute (.Name x eZ) "append" apos) [e] [] bL) none pos.line X.env=pure false:=by rfl) (gA:attributeBase (.Name x eZ) "append" X.env (eval (.Name x eZ) X.env)=eval (.Name x eZ) X.env:=by rfl) (hN:X.N[i]? =some x:=by rfl) (hv:B4 X.env.scope x:=by first | exact Or.inl rfl | exact Or.inr (Or.inl rfl) | exact Or.inr (Or.inr rfl)) :
 PZ X cl (.Expr (.Call (.Attribute (.Name x eZ) "append" apos) [e] [] bL) pos) (qc i f):=by
 refine⟨(nX (yb (X:=X) PySem.F.plainAttrs_list PySem.F.slot_list_append PySem.F.type_list_append qV (m3 hN hv hd nR) (dH he.1 gn hs) gA lK gz hs) ve).imp fun D σ H ⟨ρ,S,δ,o,S',E,hf,q⟩=>?_⟩
 unfold qc at hf;split at hf
 .cases hf
 .rename_i k hk;split at hf
  .cases hf
  .rename_i ds0 h0;obtain⟨v,S1,h1,h2⟩:=R3.ak hf;split at h2
   .rename_i d;split at h2
    .rename_i ds h3;obtain⟨hl,h4⟩:=R3.aW h2;cases h4;obtain⟨u,u1,u2⟩:=E.val i _ (iI hk);unfold bf at u2;obtain⟨a,a1,rfl⟩:=u2;obtain⟨Rw,x0,_⟩:=E.sw.ob k a _ a1 (gc h0);refine⟨.ref a,u1, .inl ⟨rfl,Rw,lD.of x0⟩,⟨ρ,S,δ, .d d,S1,E,h1,fun y cD H1 p1 w1 r1=>?_⟩⟩
     have b1:=p1.ext k a a1;obtain⟨xs,x1,x2⟩:=w1.ob k a _ b1 (gc h3);refine⟨a,xs,y,rfl,rfl,x1,by rw[<-x2.length];exact of_decide_eq_true hl,?_⟩
     unfold bf at r1;obtain⟨w2,p2⟩:=w1.put (o:= .lst (ds++[d])) (u:= .lst (xs++[y])) b1 (w1.fz k a b1 (by rw[gc h3];intro h;cases h)) ⟨xs++[y],rfl,x2.append (aC.cons r1 aC.nil)⟩
     exact q σ cD _ (p1.trans p2) (E.to (p1.trans p2) w2)
    .cases h2
   .cases h2
def PF(fo fi fe:FX):FZ:=fun δ S=>(fe δ S).bind fun v S1=>(fo δ S1).bind fun o S2=>(fi δ S2).bind fun j S3=>match v,o,j with
 | .d d, .loc k, .d (.int n)=>(match cZ S3 k with
   | some ds=>(match BY ds.length n with | some m=> .ok (.nx δ) (S3.set k (.lst (ds.set m d))) | none=> .no)
   | none=> .no)
 | _,_,_=> .no
def BZ(K:W.Frag)(cl:Tr)(n:Nat)(g:List V3->bc->R3 V3):Sp:=fun vs H Q _=>vs.length=n/\∃ρ S xs v S',SW K cl ρ H S/\aI K ρ H xs vs/\g xs S= .ok v S'/\∀u cc H',Pre ρ H cc H'->SW K cl cc H' S'->bf K cc H' v u->Q u H'
def jh(g:List V3->bc->R3 V3)(fs:FA):FX:=fun δ S=>(fs δ S).bind g
def dr(P:Program)(w:World)(K:W.Frag)(mg:Tq)(base:Heap)(cl:Tr)(k:Nat)(x:Str)(n:Nat)(g:List V3->bc->R3 V3):Prop:=
 ∃(f:Addr) (fd:FuncData) (ps:List Str),gH P w K mg base pZ k f fd ps (BZ K cl n g)/\mg x=some (.ref f)/\PySem.W.keepIn K (.ref f)=true/\Binds K fd ps []
theorem iQ{g:List V3->bc->R3 V3}{k j n:Nat}{p pos:Pos}(C:dr X.prog X.w X.K X.mg X.base cl k x n g)(ha:Hh X cl (e ::es) fs)(pY:(x==("__debug__":Str))=false:=by decide)(he:starEach (e ::es) X.env=(false,eval e X.env) ::starEach es X.env:=by rfl)(j5:(backTo pos (starEach es X.env)).any (·.1)=false:=by rfl)(hr:et j X.A:=by assumption)(Ej:k<=j:=by decide)(hg:Gl X x:=by rfl)(hn:∀δ S ds S',fs δ S= .ok ds S'->ds.length=n:=by(repeat apply rh);exact uZ) :
 PX X cl (.Call (.Name x p) (e ::es) [] pos) (jh g fs):=by
 obtain⟨f,fd,ps,F,hm,hk,hb⟩:=C;refine⟨(rQ F (hr.mono Ej) hg hm hk hb .nil Bp ha.1 pY he j5).imp fun σ H Q ⟨ρ,S,δ,v,S',E,hf,q⟩=>?_⟩
 obtain⟨vs,S1,h1,h2⟩:=R3.ak hf;refine⟨ρ,S,δ,vs,S1,E,h1,fun us cD H1 p1 w1 r1=>?_⟩
 show BZ X.K cl n g (us++[]) H1 Q E0;rw[List.append_nil];exact⟨by rw[<-r1.length];exact hn δ S vs S1 h1,cD,S1,vs,v,S',w1,r1,h2,fun z sY H2 p2 w2 r2=>q z sY H2 (p1.trans p2) w2 r2⟩
end
def eE(N:List Str)(vs:List V3):DE:=vs.map some++List.replicate (N.length - vs.length) none
theorem Ao{K:W.Frag}{cl:Tr}{S:bc}{N:List Str}{ds:List V3}{vs:List V}(w:SW K cl ρ H S)(r:aI K ρ H ds vs):dG K cl ρ H S (L2.start N vs) (eE N ds) where
 len:=by unfold L2.start eE;simp [r.length]
 sw:=w
 val:=fun i d e=>by
  unfold eE at e;unfold L2.start;by_cases hi:i < ds.length
  .rw [List.getElem?_append_left (by simpa using hi),List.getElem?_map] at e
   cases q:ds[i]? with
   | none=>rw [q] at e;cases e
   | some d'=>
     rw[q] at e;cases e;obtain⟨x,h1,h2⟩:=r.get q;exact⟨x,by rw[List.getElem?_append_left (by rw[List.length_map,<-r.length];exact hi),List.getElem?_map,h1];rfl,h2⟩
  .rw [List.getElem?_append_right (by simpa using hi),List.getElem?_replicate] at e
   split at e <;> cases e
def sV(N:List Str)(F:FZ):List V3->bc->R3 V3:=fun vs S=>(F (eE N vs) S).bind fun o S'=>match o with | .rt v=> .ok v S' | .nx _=> .ok (.d .cu) S'
def xJ(N:List Str)(F:FZ):List V3->bc->R3 V3:=fun vs S=>(sV N F vs S).bind fun v S'=>match res S' v with
 | some d=>R3.aR ((S'.take S.length).all (uJ S.length) && gI S.length v) (.ok (.d d) (S'.take S.length))
 | none=> .no
theorem CD{P:Program}{w:World}{K:W.Frag}{mg:Tq}{base:Heap}{cl:Tr}{x qual:Str}{st:Stmt}{f:Addr}{fd:FuncData}{N ps:List Str}{k:Nat}{F:FZ}(Fn:yd K x qual st f fd)(S:bB N ps (aK st))
 (fN:∀(er:Value) (A:Around) (outer:List Env) (s:Shared) (H:Hp) (E:XK),et k (A.deeper (envOfC qual (aK st) s.heap.objs.size f er))->
   zo (mP pZ P w K mg base N qual (aK st) f er A outer s H E).By cl (bp st) F):gH P w K mg base pZ (k+1) f fd ps (BZ K cl ps.length (sV N F)):=by
 refine Fn.ok S (fun vs H Q E h=>h.1) (fun er A outer s H vs Q E hr h=>⟨_,(fN er A outer s H E hr).1,?_⟩)
 obtain⟨_,ρ,S,ds,v,S',w,r,hg,q⟩:=h;obtain⟨o,S1,h1,h2⟩:=R3.ak hg;refine⟨ρ,S,eE N ds,o,S1,Ao w r,h1,?_⟩;cases o with
 | nx df=>
   cases h2;exact fun cG cc H' p' E'=>q _ cc H' p' E'.sw (by unfold bf Rep;rfl)
 | rt d'=>
   cases h2;exact fun u cc H' p' w' r'=>q u cc H' p' w' r'
theorem Bm{K:W.Frag}{cl:Tr}{N:List Str}{n:Nat}{vs:List V}{Q:VK}{E:XK}(h:BZ K cl n (xJ N F) vs H Q E):BZ K cl n (sV N F) vs H Q E:=by
 obtain⟨hl,ρ,S,xs,v,S',w,r,hg,q⟩:=h;obtain⟨v1,S1,h1,h2⟩:=R3.ak hg;refine⟨hl,ρ,S,xs,v1,S1,w,r,h1,fun u cD H1 p1 w1 r1=>?_⟩
 have pc:Pre ρ H (cD.cut S.length) H1:=SW.Fq (K:=K) (cl:=cl) (by rw[w.len];exact Nat.le_refl _) p1
 split at h2
 .rename_i d e;obtain⟨ok,h3⟩:=R3.aW h2;obtain⟨ok,hk⟩:=Bool.and_eq_true_iff.mp ok;cases h3;refine q u _ H1 pc (w1.cut ok) ?_;unfold bf;refine r1.resB w1 (fM _) (fun k a hk a1 ha=>?_) hk e
  rcases P3.c6.mp ha with⟨z,_⟩ | z
  .obtain⟨j,hj⟩:=List.getElem?_of_mem z;have hj:(cD.r.take S.length)[j]? =some a:=hj;rw[List.getElem?_take] at hj;split at hj
   .rename_i hjl;have:=w1.nd j k a hj a1;omega
   .cases hj
  .exact(w1.zb a z).2 (List.mem_of_getElem? a1)
 .cases h2
end L3
end
section
namespace L3
open PySem PySem.Spec PyProof.Rows L2
section
variable {X:Cx} {cl:Tr}
def kX(δ:DE)(i:Nat):Option V3:=match δ[i]? with | some (some v)=>some v | _=>none
def k_(own:List Str)(kp:List Nat)(δ:DE):DE:=List.replicate own.length none++kp.map (kX δ)
theorem CK{K:W.Frag}{S S':bc}{σ:L2.St}{δ:DE}{own:List Str}{kp:List Nat}(E:dG K cl ρ H S σ δ)(p:PW ρ H cc H')(w:SW K cl cc H' S'):dG K cl cc H' S' (cO own kp σ) (k_ own kp δ) where
 len:=by unfold cO k_;simp
 sw:=w
 val:=fun i d e=>by
  unfold k_ at e;unfold cO;by_cases hi:i < own.length
  .rw [List.getElem?_append_left (by simpa using hi),List.getElem?_replicate] at e
   split at e <;> cases e
  .rw [List.getElem?_append_right (by simpa using hi),List.length_replicate,List.getElem?_map] at e ⊢
   cases q:kp[i - own.length]? with
   | none=>rw [q] at e;cases e
   | some j=>
     rw[q] at e;have e:kX δ j=some d:=Option.some.inj e;unfold kX at e;split at e
     .rename_i d' ed;cases e;obtain⟨v,h1,h2⟩:=E.val j d ed;exact⟨v,by simp [h1],h2.pw p⟩
     .cases e
def jv(t:FG)(c:FB)(f:FX)(δ:DE):List V3->bc->R3 (List V3)
 | [],S=> .ok [] S
 | v ::vs,S=>match t v δ with
   | none=> .no
   | some δ1=>(c δ1 S).bind fun b S1=>if b then(f δ1 S1).bind fun y S2=>(jv t c f δ vs S2).bind fun ys S3=> .ok (y ::ys) S3 else jv t c f δ vs S1
def fX(it:FA)(t:FG)(c:FB)(f:FX)(own:List Str)(kp:List Nat):FX:=fun δ S=>(it δ S).bind fun vs S1=>R3.aR (decide (vs.length<=sizeLine)) ((jv t c f (k_ own kp δ) vs S1).bind fun ys S2=> .ok (qC ys) S2)
theorem aI.append{K:W.Frag}:∀{ds es:List V3} {xs ys:List V},aI K ρ H ds xs->aI K ρ H es ys->aI K ρ H (ds++es) (xs++ys)
 | [],_,_,_,h,t=>by unfold aI at h;subst h;exact t
 | d ::ds,es,xs,ys,h,t=>by
   obtain⟨x,r,rfl,h1,h2⟩:=h.bX;exact aI.cons h1 (aI.append h2 t)
theorem CI{K:W.Frag}{own:List Str}{kp:List Nat}{σ:L2.St}{Q:VK}(h:tX K cl (fX it t c f own kp) σ H Q) :
 xN (Nk K cl it) (gX K cl t) (HS K cl c) (tX K cl f) own kp σ H Q:=by
 obtain⟨ρ,S,δ,v,SF,E,hf,q⟩:=h;obtain⟨es,S1,h1,h2⟩:=R3.ak hf;obtain⟨hl,h3⟩:=R3.aW h2;have hl:=of_decide_eq_true hl;obtain⟨vs,S2,h4,h5⟩:=R3.ak h3;cases h5;refine⟨ρ,S,δ,es,S1,E,h1,fun J cD H1 p1 w1 ir Dd hD=>?_⟩
 have nDz:Dd ∉ cD.b:=fun hb=>by obtain⟨o,ho⟩:=w1.bs Dd hb;rw [hD] at ho;cases ho
 have nDr:Dd ∉ cD.r:=fun hb=>by obtain⟨o,ho⟩:=w1.rs Dd hb;rw [hD] at ho;cases ho
 have toZ:∀{r' f':List Addr} {H':Hp},Pre cD H1 ⟨r',cD.z,f'⟩ H'->PW cD H1 ⟨r',Dd ::cD.z,f'⟩ H':=fun {r' f' H'} p=>⟨fun b o e nb=>⟨(p.aY b o e nb).1,fun hb=>by
  rcases P3.c6.mp hb with z | z
  .exact(p.aY b o e nb).2 (P3.c6.mpr (.inl z))
  .rcases List.mem_cons.mp z with y | y
   .exact bY e hD y
   .exact(p.aY b o e nb).2 (P3.c6.mpr (.inr y))⟩,p.ext⟩
 have w0:SW K cl ⟨cD.r,Dd ::cD.z,cD.f⟩ (upd H1 Dd (.lst [])) S1:=by
  have s0:aP H1 (upd H1 Dd (.lst [])):=aT hD;have ws:=w1.same s0;refine⟨ws.len,ws.nd,fun k a o hk ho=>?_,fun b hb=>?_,ws.fz,ws.ff,ws.fi⟩
  .have r:=w1.ob k a o hk ho;obtain⟨u,hu⟩:=r.some;rw[s0 a u hu,<-hu];exact r.pw (toZ (Pre.same s0))
  .rcases List.mem_cons.mp hb with y | y
   .subst y;exact⟨⟨_,aU⟩,nDr⟩
   .exact ws.zb b y
 refine⟨fun i m ys H'=>m=es.length - i/\i<=es.length/\ys.length<=i/\H' Dd=some (.lst ys)/\∃r' f' S' done rest,Pre cD H1 ⟨r',cD.z,f'⟩ H'/\SW K cl ⟨r',Dd ::cD.z,f'⟩ H' S'/\vs=done++rest/\aI K ⟨r',Dd ::cD.z,f'⟩ H' done ys/\jv t c f (k_ own kp δ) (es.drop i) S'= .ok rest SF,
  ⟨es.length,rfl,Nat.zero_le _,Nat.le_refl _,aU,cD.r,cD.f,S1,[],vs,Pre.same (aT hD),w0,rfl,aI.nil,by simpa using h4⟩,?_⟩
 rintro i m ys H' ⟨rfl,hi,hy,hDl,r',f',S',done,rest,pv,w',rfl,rd,hc⟩;obtain⟨go,stop⟩:=ir ⟨r',Dd ::cD.z,f'⟩ H' (toZ pv) w'.bs;have unZ:∀{ET:P3} {H4:Hp},Pre ⟨r',Dd ::cD.z,f'⟩ H' ET H4->Pre cD H1 ⟨ET.r,cD.z,ET.f⟩ H4:=fun {ET H4} p4=>⟨fun b o e nb=>by
  obtain⟨e1,n1⟩:=(toZ pv).aY b o e nb;obtain⟨iG,n2⟩:=p4.aY b o e1 n1;refine⟨iG,fun hb=>n2 ?_⟩
  rcases P3.c6.mp hb with z | z
  .exact P3.c6.mpr (.inl z)
  .exact P3.c6.mpr (.inr (by rw[p4.zz];exact List.mem_cons_of_mem _ z)),rfl,fun b o hb h=>p4.zs b o (List.mem_cons_of_mem _ hb) (pv.zs b o hb h),fun k a h=>p4.ext k a (pv.ext k a h)⟩
 by_cases mE:i < es.length
 .have hd:es[i]? =some es[i]:=List.getElem?_eq_getElem mE;have hdrop:es.drop i=es[i] ::es.drop (i+1):=List.drop_eq_getElem_cons mE;rw[hdrop] at hc;unfold jv at hc;split at hc
  .cases hc
  .rename_i δ1 h6;obtain⟨b,T1,h7,h8⟩:=R3.ak hc;obtain⟨g1,g2⟩:=go i _ hd;refine .inr ⟨g1,fun x H2 y=>?_⟩
   obtain⟨sy,ry⟩:=g2 x H2 y;have Ec:dG K cl ⟨r',Dd ::cD.z,f'⟩ H2 S' (cO own kp σ) (k_ own kp δ):=CK E (p1.pw.trans ((toZ pv).trans (Pre.same sy).pw)) (w'.same sy);refine⟨⟨r',Dd ::cD.z,f'⟩,S',k_ own kp δ,es[i],δ1,Ec,ry,h6,fun Eb H3 s3 E3=>⟨⟨r',Dd ::cD.z,f'⟩,S',δ1,b,T1,E3,h7,fun ET H4 p4 w4=>?_⟩⟩
   have JZ:Pre ⟨r',Dd ::cD.z,f'⟩ H' ET H4:=(Pre.same (sy.trans s3)).trans p4;cases b with
   | true=>
     rw[if_pos rfl] at h8;refine Cy ?_;obtain⟨yv,T2,h9,Mp⟩:=R3.ak h8;obtain⟨rs,T3,HE,Ie⟩:=R3.ak Mp;cases Ie;refine⟨ET,T1,δ1,yv,T2,E3.to p4 w4,h9,fun v5 Oz H5 p5 w5 r5=>?_⟩
     have pv5:Pre ⟨r',Dd ::cD.z,f'⟩ H' Oz H5:=JZ.trans p5;have MF:H5 Dd=some (.lst ys):=pv5.zs Dd _ List.mem_cons_self hDl;have u5:=unZ pv5;obtain⟨Kx,z5,f5⟩:=Oz;have ez:z5=Dd ::cD.z:=pv5.zz;subst ez;have nr:Dd ∉ Kx:=(w5.zb Dd List.mem_cons_self).2;have pw:PW ⟨Kx,Dd ::cD.z,f5⟩ H5 ⟨Kx,Dd ::cD.z,f5⟩ (upd H5 Dd (.lst (ys++[v5]))):=⟨fun b o e nb=>⟨by rw[bo (fun(z:b=Dd)=>nb (by rw[z];exact P3.c6.mpr (.inr List.mem_cons_self)))];exact e,nb⟩,fun _ _ h=>h⟩
     refine⟨MF,by omega,es.length - (i+1),by omega,rfl,mE,by rw[List.length_append,List.length_singleton];omega,aU,Kx,f5,T2,done++[yv],rs,?_,?_,by simp,aI.append ((rd.pre pv5).pw pw) (aI.cons (r5.pw pw) aI.nil),HE⟩
     .refine⟨fun b o e nb=>⟨by rw[bo (bY e hD)];exact(u5.aY b o e nb).1,(u5.aY b o e nb).2⟩,rfl,fun b o hb h=>?_,u5.ext⟩
      rw[bo (bY h hD)];exact u5.zs b o hb h
     .refine⟨w5.len,w5.nd,fun k a o hk ho=>?_,fun b hb=>?_,w5.fz,fun b hb=>?_,w5.fi⟩
      .have ne:a≠Dd:=fun z=>nr (by rw[<-z];exact List.mem_of_getElem? hk)
       rw[bo ne];exact(w5.ob k a o hk ho).pw pw
      .obtain⟨⟨o,ho⟩,n⟩:=w5.zb b hb;refine⟨?_,n⟩;by_cases z:b=Dd
       .subst z;exact⟨_,aU⟩
       .rw [bo z];exact⟨o,ho⟩
      .obtain⟨o,ho⟩:=w5.ff b hb;by_cases z:b=Dd
       .subst z;exact⟨_,aU⟩
       .rw [bo z];exact⟨o,ho⟩
   | false=>
     rw[if_neg (by decide)] at h8
     refine Dh ?_;have Rq:H4 Dd=some (.lst ys):=JZ.zs Dd _ List.mem_cons_self hDl;have u4:=unZ JZ;obtain⟨RF,z4,f4⟩:=ET;have ez:z4=Dd ::cD.z:=JZ.zz;subst ez;exact⟨es.length - (i+1),by omega,rfl,mE,by omega,Rq,RF,f4,T1,done,rest,u4,w4,rfl,rd.pre JZ,h8⟩
 .have e:i=es.length:=by omega
  subst e;rw[List.drop_length] at hc;cases hc;rw[List.append_nil] at q;refine .inl ⟨stop,?_⟩;have back:PW ⟨r',Dd ::cD.z,f'⟩ H' ⟨r',cD.z,f'⟩ H':=⟨fun b o e nb=>⟨e,fun hb=>nb (by
   rcases P3.c6.mp hb with z | z
   .exact P3.c6.mpr (.inl z)
   .exact P3.c6.mpr (.inr (List.mem_cons_of_mem _ z)))⟩,fun _ _ h=>h⟩
  have wB:SW K cl ⟨r',cD.z,f'⟩ H' _:=⟨w'.len,w'.nd,fun k a o hk ho=>(w'.ob k a o hk ho).pw back,fun b hb=>w'.zb b (List.mem_cons_of_mem _ hb),w'.fz,w'.ff,w'.fi⟩
  refine q _ ⟨r',cD.z,f'⟩ H' (p1.trans pv) wB (yO (.inl ⟨fun hb=>?_, .inl hDl⟩) (rd.pw back))
  rcases P3.c6.mp hb with z | z
  .exact(w'.zb Dd List.mem_cons_self).2 z.1
  .exact nDz (P3.c6.mpr (.inr z))
end
end L3
end
section
namespace L3
open PySem PySem.Spec PyProof.Rows L2
section
variable {X:Cx} {cl:Tr}
def oU:FB:=fun _ S=> .ok true S
theorem fj:mU X [] (HS X.K cl oU):=fun pins s σ H Q I ⟨ρ,S,δ,b,S',E,hf,q⟩=>uB pins s σ H Q I (by cases hf;exact q ρ H (Pre.refl ρ H) E.sw)
theorem ot(h:Ep X cl e c):mU X [e] (HS X.K cl c):=uH h.1
theorem E_{K:W.Frag}{i:Nat}{D:Ends}{σ:L2.St}(h:sX K cl (b9 i f) D σ H):yi (tX K cl f) (oS i) D σ H:=by
 obtain⟨ρ,S,δ,o,S',E,hf,q⟩:=h;obtain⟨v,S1,h1,h2⟩:=R3.ak hf;obtain⟨hi,h3⟩:=R3.aW h2;cases h3;refine⟨ρ,S,δ,v,_,E,h1,fun u cD H1 p1 w1 r1=>?_⟩
 exact q _ cD H1 p1 ((E.to p1 w1).set (by rw[<-E.len];exact of_decide_eq_true hi) r1)
theorem cM{i:Nat}{pos' pX:Pos}{own:List Str}{kp:List Nat}(hi:Kh X cl tg iter it)(hg:∀fp s H,HP (bx X scope (own++(nF kp X.N)) fp s H) cl tg t)(zl:∀fp s H,mU (bx X scope (own++(nF kp X.N)) fp s H) ifs (HS X.K cl c))(he:∀fp s H,PX (bx X scope (own++(nF kp X.N)) fp s H) cl elt f)(ve:swapsWith (.ListComp elt [⟨tg,iter,ifs,0⟩] scope pos) (some (.Name x pos')) pX.line X.env=pure true:=by rfl)(hs:∀x,foldedSetIterable iter X.env x=pure x:=by intro _;rfl)(hc:X.calm=true:=by rfl)(hN:X.N.Nodup:=by first | assumption | exact EF (by kernel_rfl))(hx:X.N[i]? =some x:=by rfl)(E5:X.env.scope.names.lookup x=some .local:=by rfl)(C:eF X scope own kp (nF kp X.N):=by exact KZ (by kernel_rfl)):PZ X cl (.Assign [.Name x pos'] (.ListComp elt [⟨tg,iter,ifs,0⟩] scope pos) pX) (b9 i (fX it t c f own kp)):=
 ⟨(pA hc hN hx E5 C hi.1 (fun fp s H=>(hg fp s H).1) zl (fun fp s H=>(he fp s H).1) ve hs).imp fun D σ H h=>CI (E_ h)⟩
def RW(g:FA):FX:=fun δ S=>(g δ S).bind fun vs S1=>match my vs with
 | some ds=>R3.aR (decide (ds.length<=sizeLine)) (.ok (.loc S1.length) (S1++[.lst ds]))
 | none=> .no
end
end L3
end
section
namespace L3
open PySem PySem.Spec PyProof.Rows L2
section
variable {X:Cx} {cl:Tr}
def K4(g:List D->R D)(fs:FA):FX:=fun δ S=>(fs δ S).bind fun vs S1=>match my vs with
 | some ds=>(R3.of (g ds) S1).bind fun d S=> .ok (.d d) S
 | none=> .no
def SD(c:FB)(f g:FX):FX:=fun δ S=>(c δ S).bind fun b S=>if b then f δ S else g δ S
theorem uZ:∀(δ:DE) (S:bc) (ds:List V3) (S':bc),iJ δ S= .ok ds S'->ds.length=0:=fun δ S ds S' h=>by cases h;rfl
theorem rh{g:FA}{n:Nat}(h:∀(δ:DE) (S:bc) (ds:List V3) (S':bc),g δ S= .ok ds S'->ds.length=n):∀(δ:DE) (S:bc) (ds:List V3) (S':bc),bO f g δ S= .ok ds S'->ds.length=n+1:=fun δ S ds S' e=>by
 obtain⟨v,S1,h1,h2⟩:=R3.ak e;obtain⟨vs,S2,h3,h4⟩:=R3.ak h2;cases h4;rw[List.length_cons,h δ S1 vs _ h3]
end
end L3
end
section
namespace L3
open PySem PySem.Spec PyProof.Rows L2
section
variable {X:Cx} {cl:Tr}
def R6(fa fb:FX):FX:=fun δ S=>(fa δ S).bind fun a S1=>(fb δ S1).bind fun b S2=>match a,b with
 | .d x, .d y=>(R3.of (bJ x y) S2).bind fun d S=> .ok (.d d) S
 | .lst vs, .d (.int i)=>(match uy vs i with | some v=> .ok v S2 | none=> .no)
 | .tup vs, .d (.int i)=>(match uy vs i with | some v=> .ok v S2 | none=> .no)
 | _,_=> .no
end
end L3
end
section
namespace L3
open PySem PySem.Spec PyProof.Rows L2
section
variable {X:Cx} {cl:Tr}
structure HV (X:Cx) (cl:Tr) (e:Expr) (f:FB):Prop where
 go:L2.PW X e (HS X.K cl f)
theorem HV.pb(h:HV X cl e f):Ep X cl e f:=⟨L2.PW.pt h.1⟩
def Ra(f g:FB):FB:=fun δ S=>(f δ S).bind fun b S=>if b then g δ S else .ok false S
def Km(f g:FB):FB:=fun δ S=>(f δ S).bind fun b S=>if b then .ok true S else g δ S
def Rh(f:FB):FB:=fun δ S=>(f δ S).bind fun b S=> .ok (!b) S
theorem D5(h:Ep X cl a f):HV X cl (.BoolOp .Or [a] pos) f:=⟨AG h.1⟩
theorem FQ{rest:List Expr}(ha:Ep X cl a f)(hb:HV X cl (.BoolOp .Or (b ::rest) pos) g):HV X cl (.BoolOp .Or (a ::b ::rest) pos) (Km f g):=⟨by
 intro wh pins s σ H Q I ⟨ρ,S,δ,k,S',E,hf,q⟩;refine Eo ha.1 hb.1 wh pins s σ H Q I ?_;obtain⟨c,S1,h1,h2⟩:=R3.ak hf;refine⟨ρ,S,δ,c,S1,E,h1,fun cD H1 p1 w1=>?_⟩
 cases c with
 | true=>rw [if_pos rfl] at h2 ⊢;cases h2;exact q cD H1 p1 w1
 | false=>rw [if_neg (by decide)] at h2 ⊢;exact⟨cD,S1,δ,k,S',E.to p1 w1,h2,fun sY H' p2 w2=>q sY H' (p1.trans p2) w2⟩⟩
def OV(f:FX):FB:=fun δ S=>(f δ S).bind fun v S=>match v with | .d d=>R3.of (Fu d) S | _=> .no
abbrev H0:=DE->bc->R3 (Option Int)
def OG(K:W.Frag)(cl:Tr)(f:H0):TO:=fun σ H Q=>∃ρ S δ o S',dG K cl ρ H S σ δ/\f δ S= .ok o S'/\∀cc H',Pre ρ H cc H'->SW K cl cc H' S'->Q o H'
structure SA (X:Cx) (cl:Tr) (e:Option Expr) (f:H0):Prop where
 go:PO X e (OG X.K cl f)
def Le:H0:=fun _ S=> .ok none S
def Lq(f:FX):H0:=fun δ S=>(f δ S).bind fun v S=>match v with | .d (.int i)=> .ok (some i) S | _=> .no
def RX(f:FX)(fl fh:H0):FX:=fun δ S=>(f δ S).bind fun v S1=>(fl δ S1).bind fun lo S2=>(fh δ S2).bind fun hi S3=>match v with
 | .d d=>(R3.of (HZ d lo hi) S3).bind fun r S=> .ok (.d r) S
 | _=> .no
end
end L3
end
section
namespace L2
open PySem PySem.Spec PyProof.Rows
section
variable {X:Cx}
def vC(t T:String):Bool:=t==T || (t=="bool" && T=="int")
theorem mV{K:W.Frag}(t T:String)(ht:t∈["NoneType","bool","int","str","list","tuple"])(hT:T∈["bool","int","str","list","tuple"]):PySem.W.kitOne K (.type t) (.type T)=some (vC t T):=by
 simp only[List.mem_cons,List.not_mem_nil,or_false] at ht hT;rcases ht with rfl | rfl | rfl | rfl | rfl | rfl <;> rcases hT with rfl | rfl | rfl | rfl | rfl <;> rfl
def v7(T:String)(f:FD):FD:=fun δ=>(f δ).bind fun d=>match d with | .dct _ _=> .no | _=> .ok (.bl (vC (tyName d) T))
theorem xx{T:Str}{Ts:String}{p p2 pos:Pos}{e:Expr}{f:FD}(he:QD X e f)(hT:Ts∈["bool","int","str","list","tuple"])(hg:Gl X "isinstance")(hm:X.mg "isinstance"=none)(RQ:Gl X T)(RP:X.mg T=none)(RK:bootBuiltins T=some (.type Ts))(Rz:T≠"__name__":=by decide)(RD:(T==("__debug__":Str))=false:=by decide)
 (hs:starEach [e, .Name T p2] X.env=(false,eval e X.env) ::starEach [.Name T p2] X.env:=by rfl) (j5:(backTo pos (starEach [.Name T p2] X.env)).any (·.1)=false:=by rfl):QD X (.Call (.Name "isinstance" p) [e, .Name T p2] [] pos) (v7 Ts f):=by
 have hc:jM X (.builtin "isinstance") (fun xs H Q=>∃B d x,Rep X.K B H d x/\(∀a b,d≠ .dct a b)/\xs=[x, .ty Ts]/\Q (.bl (vC (tyName d) Ts)) H):=by
  intro pins s σ H xs us Q I r h;obtain⟨B,d,x,rd,ha,rfl,q⟩:=h;obtain⟨u,w',rfl,ru,zj⟩:=vals2 r;cases zj;have fin:∀tk,EP X pins σ Q (.bool (vC (tyName d) Ts)) {s with toks:=tk}:=fun tk=>⟨.bl _,H,I.tok _,rfl,q⟩
  cases d with
  | cu=>exact kg I ru (by rw[Rep.cu.mp rd];exact .cu) (mV "NoneType" Ts (by decide) hT) fin
  | bl b=>exact kg I ru (by rw[Rep.bl.mp rd];exact .bl b) (mV "bool" Ts (by decide) hT) fin
  | int i=>exact kg I ru (by rw[Rep.int.mp rd];exact .int i) (mV "int" Ts (by decide) hT) fin
  | str z=>exact kg I ru (by rw[Rep.str.mp rd];exact .str z) (mV "str" Ts (by decide) hT) fin
  | lst es=>
    obtain⟨a,ys,rfl,l,_⟩:=Rep.lst.mp rd;cases(show u=Value.ref a from ru)
    obtain⟨lN,n2,r2,h1,z2⟩:=I.zr l;exact PySem.W.kia_one PySem.W.kitx_list I.qX ⟨_,h1,rfl⟩ (mV "list" Ts (by decide) hT) (fun z=>nomatch z) fin
  | tup es=>
    obtain⟨a,ys,rfl,l,_⟩:=Rep.tup.mp rd;cases(show u=Value.ref a from ru)
    obtain⟨its,rv,p,hz⟩:=I.tuple l.sq;obtain⟨o,h1,h2,_⟩:=p;exact PySem.W.kia_one PySem.W.kitx_tuple I.qX ⟨o,h1,h2⟩ (mV "tuple" Ts (by decide) hT) (fun z=>nomatch z) fin
  | dct a b=>exact absurd rfl (ha a b)
 refine⟨(tH hc hg hm boot_isinstance (dH he.1 (dH (C6 (v:= .ty Ts) RQ RP RK rfl Rz RD) gn) hs) (by decide) (by decide) hs j5).imp fun σ H Q ⟨Z,B,δ,d,E,hf,q⟩=>?_⟩
 obtain⟨d1,h1,h2⟩:=R.ak hf;have key:(∀a b,d1≠ .dct a b)/\d= .bl (vC (tyName d1) Ts):=by
  cases d1 with
  | dct a b=>cases h2
  | _=>cases h2;exact⟨fun _ _ z=>(by cases z),rfl⟩
 obtain⟨k1,rfl⟩:=key;exact⟨Z,B,δ,d1,E,h1,fun v H1 s1 r1=>⟨B,d1,v,r1,k1,rfl,q _ H1 s1 (Rep.bl.mpr rfl)⟩⟩
def nList(f:FD):aq->R (List D):=fun δ=>(f δ).bind fun d=>match d with | .lst ds=> .ok ds | .tup ds=> .ok ds | _=> .no
end
end L2
namespace L3
open PySem PySem.Spec PyProof.Rows L2
theorem t8{P:Program}{w:World}{K:W.Frag}{mg:Tq}{base:Heap}{cl:Tr}{x qual:Str}{st:Stmt}{f:Addr}{fd:FuncData}{N ps:List Str}{k:Nat}{F:FZ}{b:List Stmt}{sc:Scope}(hb:bp st=b)(hs:aK st=sc)(Fn:yd K x qual st f fd)(S:bB N ps sc)
 (fN:∀(er:Value) (A:Around) (outer:List Env) (s:Shared) (H:Hp) (E:XK),et k (A.deeper (envOfC qual sc s.heap.objs.size f er))->
   zo (mP pZ P w K mg base N qual sc f er A outer s H E).By cl b F):gH P w K mg base pZ (k+1) f fd ps (BZ K cl ps.length (sV N F)):=by
 subst hb hs;exact CD Fn S fN
theorem Ia{K:W.Frag}{mg:Tq}{cl:Tr}{st:Stmt}{N ps:List Str}{k:Nat}(h:Def K mg x st)(hb:bp st=b)(hs:aK st=sc)(S:bB N ps sc)(fN:∀(f:Addr) (er:Value) (A:Around) (outer:List Env) (s:Shared) (H:Hp) (E:XK),et k (A.deeper (envOfC x sc s.heap.objs.size f er))->N.Nodup->zo (mP pZ P w K mg base N x sc f er A outer s H E).By cl b F)(bd:∀(kV doc pm:Value) (an:Option Addr) (er ct:Value) (us:List Value),us.length=ps.length->bindArgs (PySem.W.fnOf x x (iX st) (bp st) (aK st) .none kV doc pm an er ct) ⟨us,[]⟩=pure (ps.zip us):=by intro _ _ _ _ _ _ us hl;rcases us with _ | ⟨_,_ | ⟨_,_ | ⟨_,_ | ⟨_,_ | ⟨_,_ | ⟨_,_ | ⟨_,_⟩⟩⟩⟩⟩⟩⟩ <;> first | (simp at hl;done) | rfl):dr P w K mg base cl (k+1) x ps.length (sV N F):=by
 obtain⟨f,fd,F,hm⟩:=h;exact⟨f,fd,_,t8 hb hs F S (fun er A outer s H E hr=>fN f er A outer s H E hr S.nd),hm,F.kp,F.binds bd⟩
theorem dr.p{K:W.Frag}{mg:Tq}{cl:Tr}{k:Nat}{n:Nat}{N:List Str}(C:dr P w K mg base cl k x n (sV N F)):dr P w K mg base cl k x n (xJ N F):=
 let⟨f,fd,ps,F,h⟩:=C;⟨f,fd,ps,F.imp fun _ _ _ _ h=>Bm h,h⟩
def Ku(N:List Str)(F:FZ):List D->R D:=fun ds=>match xJ N F (ds.map .d) [] with
 | .ok (.d d) []=>R.aR d.atom (.ok d)
 | _=> .no
theorem Fv{K:W.Frag}{cl:Tr}{N:List Str}{n:Nat}{vs:List V}{Q:VK}{E:XK}(h:Dj K n (Ku N F) vs H Q E):BZ K cl n (sV N F) vs H Q E:=by
 obtain⟨hl,B,ds,d,hb,r,hg,q⟩:=h;unfold Ku at hg;split at hg
 .rename_i d' e;obtain⟨ha,h2⟩:=R.aW hg;cases h2;have r0:aC K (⟨[],[],[]⟩:P3).b H ds vs:=r.aY fun b o e _=>⟨e,by simp [P3.b]⟩
  refine Bm ⟨hl,⟨[],[],[]⟩,[],ds.map .d, .d d,[],⟨rfl,fun i j a hi=>by simp at hi,fun k a o hk=>by simp at hk,fun b hb=>by simp at hb,fun k a hk=>by simp at hk,fun b hb=>by simp at hb,fun k a hk=>by simp at hk⟩,aI.of r0,e,fun u cc H' p w' r'=>q u H' (fun b o eb=>?_) ?_⟩
  .exact(p.aY b o eb (by simp [P3.b])).1
  .unfold bf at r';exact r'.atom ha
 .cases hg
section
variable {X:Cx} {cl:Tr}
def BD(f:FX):FA:=fun δ S=>(f δ S).bind fun v S=>match v with | .d (.tup ds)=> .ok (ds.map .d) S | .tup vs=> .ok vs S | _=> .no
theorem Dn(h:PX X cl e f):Kh X cl tg e (BD f):=⟨by
 intro pins s σ H RR I ⟨ρ,S,δ,vs,S',E,hf,q⟩;obtain⟨v,S1,h1,h2⟩:=R3.ak hf;refine dc (h.1 pins s σ H (fun u H1=>∃cD,Pre ρ H cD H1/\SW X.K cl cD H1 S1/\bf X.K cD H1 v u) I ⟨ρ,S,δ,v,S1,E,h1,fun u cD H1 p1 w1 r1=>⟨cD,p1,w1,r1⟩⟩) fun u s1 ⟨x,H1,I1,r1,cD,p1,w1,rr⟩=>?_
 have key:S1=S'/\∃a xs,x= .ref a/\qH X.K cD.b H1 a xs/\aI X.K cD H1 vs xs:=by
  split at h2
  .cases h2;unfold bf Rep at rr;obtain⟨a,xs,e,l,r⟩:=rr;exact⟨rfl,a,xs,e,l,aI.of r⟩
  .cases h2;unfold bf at rr;exact⟨rfl,rr⟩
  .cases h2
 obtain⟨rfl,a,xs,rfl,l,rr⟩:=key;cases r1;obtain⟨its,rv,p,hz⟩:=I1.tuple l.sq;refine wpAny_pyIter_tuple (show s1.heap.IsTuple a its.toArray from p) ?_
 refine⟨s1.heap.objs.size,[s1.heap.objs.size],_,_,H1,rfl,I1.kept (t':=s1.toks) fun b o e=>Heap.get?_push_of_some _ e,o4 a _,⟨_,Heap.get?_push_size _ rfl,rfl,rfl⟩,fun b hb=>?_,q _ cD H1 p1 w1 fun cc H' pr bs=>?_⟩
 .have e:b=s1.heap.objs.size:=by simpa using hb
  subst e;exact I1.uV (Nat.le_refl _) (I1.hok.fresh (Nat.le_refl _))
 .have l':qH X.K cc.b H' a xs:=qH.aY pr.aY l;have rr':=rr.pw pr;refine⟨fun i d hd=>?_,⟨xs,l'.sq,by rw[rr.length];exact Nat.le_refl _⟩⟩
  obtain⟨x,hx,rx⟩:=rr'.get hd;exact⟨⟨xs,x,l'.sq,hx⟩,fun y lP ⟨e1,e2⟩=>by
   subst e1;have:=e2 xs l'.sq;rw[hx] at this;cases this;exact⟨aP.refl _,rx⟩⟩⟩
end
end L3
end
section
namespace L3
open PySem PySem.Spec PyProof.Rows L2
def W3{α:Type}(r:R3 α)(Q:α->bc->Prop):Prop:=∃a S,r= .ok a S/\Q a S
section
variable {α β:Type} {Q Q':α->bc->Prop} {S:bc} {δ:DE}
theorem W3.ok{a:α}(h:Q a S):W3 (.ok a S) Q:=⟨a,S,rfl,h⟩
theorem W3.bind{Q:β->bc->Prop}{r:R3 α}{f:α->bc->R3 β}(h:W3 r fun a S=>W3 (f a S) Q):W3 (r.bind f) Q:=by
 obtain⟨a,S1,e1,b,S2,h2,q⟩:=h;exact⟨b,S2,by rw[e1];exact h2,q⟩
theorem W3.mono{r:R3 α}(h:W3 r Q)(m:∀a S,Q a S->Q' a S):W3 r Q':=let⟨a,S,e,q⟩:=h;⟨a,S,e,m a S q⟩
theorem W3.wh{c:Bool}{r:R3 α}(hc:c=true)(h:W3 r Q):W3 (R3.aR c r) Q:=by rw[hc];exact h
theorem W3.of{r:R α}{a:α}(e:r= .ok a)(h:Q a S):W3 (R3.of r S) Q:=by rw[e];exact⟨a,S,rfl,h⟩
end
section
variable {S:bc} {δ:DE} {QV:V3->bc->Prop} {QB:Bool->bc->Prop} {QA:List V3->bc->Prop} {QO:Ou->bc->Prop}
theorem cX{f:FD}{d:D}(e:f (down δ)= .ok d)(h:QV (.d d) S):W3 (xP f δ S) QV:=W3.bind (W3.of e (W3.ok h))
theorem Qv{f:FD}{d:D}(e:f (dW S δ)= .ok d)(ha:uQ d=true)(h:QV (.d d) S):W3 (xT f δ S) QV:=W3.bind (W3.of e (W3.wh ha (W3.ok h)))
theorem uT{f:aq->R Bool}{b:Bool}(e:f (down δ)= .ok b)(h:QB b S):W3 (bP f δ S) QB:=W3.of e h
theorem DC{f:aq->R Bool}{b:Bool}(e:f (dW S δ)= .ok b)(h:QB b S):W3 (bT f δ S) QB:=W3.of e h
theorem w_var{i:Nat}{v:V3}(e:δ[i]? =some (some v))(h:QV v S):W3 (lr i δ S) QV:=by unfold lr;rw [e];exact W3.ok h
theorem ug{f:aq->R (List D)}{ds:List D}(e:f (down δ)= .ok ds)(h:QV (.loc S.length) (S++[.lst ds])):W3 (vD f δ S) QV:=W3.bind (W3.of e (W3.ok h))
theorem jP(h:QA [] S):W3 (iJ δ S) QA:=W3.ok h
theorem b7{f:FX}{g:FA}(h:W3 (f δ S) fun v S1=>W3 (g δ S1) fun vs S2=>QA (v ::vs) S2):W3 (bO f g δ S) QA:=W3.bind (h.mono fun _ _ h=>W3.bind (h.mono fun _ _ h=>W3.ok h))
theorem IA{g:FA}(h:W3 (g δ S) fun vs S1=>vs.length<=sizeLine/\QV (wM vs) S1):W3 (Gn g δ S) QV:=W3.bind (h.mono fun _ _ h=>W3.wh (decide_eq_true h.1) (W3.ok h.2))
theorem PV{g:D->D->R D}{fa fb:FX}(h:W3 (fa δ S) fun a S1=>W3 (fb δ S1) fun b S2=>∃x y d,a= .d x/\b= .d y/\g x y= .ok d/\QV (.d d) S2):W3 (x2 g fa fb δ S) QV:=
 W3.bind (h.mono fun _ _ h=>W3.bind (h.mono fun _ _ ⟨_,_,_,e1,e2,e3,q⟩=>by subst e1 e2;exact W3.bind (W3.of e3 (W3.ok q))))
theorem L7{g:D->D->R D}{fa fb:FX}(h:W3 (fa δ S) fun a S1=>W3 (fb δ S1) fun b S2=>∃x y k,a= .d x/\b= .d y/\g x y= .ok (.bl k)/\QB k S2):W3 (Kd g fa fb δ S) QB:=
 W3.bind (PV (h.mono fun _ _ h=>h.mono fun _ _ ⟨x,y,k,e1,e2,e3,q⟩=>⟨x,y, .bl k,e1,e2,e3,W3.ok q⟩))
theorem lq{g:List V3->bc->R3 V3}{fs:FA}(h:W3 (fs δ S) fun vs S1=>W3 (g vs S1) QV):W3 (jh g fs δ S) QV:=W3.bind h
theorem Hr{it:FA}{own:List Str}{kp:List Nat}(h:W3 (it δ S) fun vs S1=>vs.length<=sizeLine/\W3 (jv t c f (k_ own kp δ) vs S1) fun ys S2=>QV (qC ys) S2):W3 (fX it t c f own kp δ S) QV:=
 W3.bind (h.mono fun _ _ h=>W3.wh (decide_eq_true h.1) (W3.bind (h.2.mono fun _ _ h=>W3.ok h)))
theorem aZ{F G:FZ}(h:W3 (F δ S) fun o S1=>∃δ1,o= .nx δ1/\W3 (G δ1 S1) QO):W3 (bD F G δ S) QO:=W3.bind (h.mono fun _ _ ⟨_,e,h⟩=>by subst e;exact h)
theorem bG{i:Nat}{f:FX}(hi:i < δ.length)(h:W3 (f δ S) fun v S1=>QO (.nx (δ.set i (some v))) S1):W3 (b9 i f δ S) QO:=W3.bind (h.mono fun _ _ h=>W3.wh (decide_eq_true hi) (W3.ok h))
theorem q8{f:FX}(h:W3 (f δ S) fun v S1=>QO (.rt v) S1):W3 (mC f δ S) QO:=W3.bind (h.mono fun _ _ h=>W3.ok h)
theorem rV{c:FB}{F G:FZ}(h:W3 (c δ S) fun b S1=>if b then W3 (F δ S1) QO else W3 (G δ S1) QO):W3 (xG c F G δ S) QO:=W3.bind (h.mono fun b _ h=>by cases b <;> exact h)
theorem Jq{f:FX}{t:FG}(h:W3 (f δ S) fun v S1=>∃δ1,t v δ=some δ1/\QO (.nx δ1) S1):W3 (G2 f t δ S) QO:=W3.bind (h.mono fun _ _ ⟨_,e,q⟩=>by rw[e];exact W3.ok q)
theorem iY(h:QO (.nx δ) S):W3 (lV δ S) QO:=W3.ok h
theorem hV{f:aq->R (List D)}{ds:List D}(e:f (down δ)= .ok ds)(h:QA (ds.map .d) S):W3 (iP f δ S) QA:=W3.bind (W3.of e (W3.ok h))
theorem Hi{f:FX}(h:W3 (f δ S) fun v S1=>∃vs,v= .tup vs/\QA vs S1):W3 (BD f δ S) QA:=W3.bind (h.mono fun _ _ ⟨n,e,q⟩=>by subst e;exact W3.ok q)
theorem ik{it:FA}(h:W3 (it δ S) fun vs S1=>W3 (lW t F vs δ S1) QO):W3 (jT it t F δ S) QO:=W3.bind h
theorem nh{i k:Nat}{f:FX}(hk:δ[i]? =some (some (.loc k)))(h0:∃ds,S[k]? =some (.lst ds))(h:W3 (f δ S) fun v S1=>∃d ds,v= .d d/\S1[k]? =some (.lst ds)/\ds.length < sizeLine/\QO (.nx δ) (S1.set k (.lst (ds++[d])))):W3 (qc i f δ S) QO:=by
 obtain⟨es,h0⟩:=h0;unfold qc;have e1:e_ δ i=some k:=by unfold e_;rw [hk]
 have e2:cZ S k=some es:=by unfold cZ;simp only[h0]
 rw[e1];show W3 (match cZ S k with | none=>_ | some _=>_) _
 rw[e2];refine W3.bind (h.mono fun v S1 ⟨d,ds,e,h1,hl,q⟩=>?_)
 subst e;have e3:cZ S1 k=some ds:=by unfold cZ;simp only[h1]
 show W3 (match cZ S1 k with | some ds=>_ | none=>_) _
 rw[e3];exact W3.wh (decide_eq_true hl) (W3.ok q)
theorem pz{t:FG}{body:FZ}:∀(vs:List V3) (n:Nat) (P:Nat->DE->bc->Prop) {δ:DE} {S:bc},P n δ S->
 (∀i v δ S,vs[i]? =some v->P (n+i) δ S->∃δ1,t v δ=some δ1/\W3 (body δ1 S) fun o S1=>∃e8,o= .nx e8/\P (n+i+1) e8 S1)->W3 (lW t body vs δ S) fun o S1=>∃e8,o= .nx e8/\P (n+vs.length) e8 S1
 | [],n,P,δ,S,h0,_=>W3.ok ⟨δ,rfl,h0⟩
 | v ::vs,n,P,δ,S,h0,hs=>by
   obtain⟨δ1,e1,o,S1,e2,e8,rfl,p2⟩:=hs 0 v δ S rfl h0;have ih:=pz vs (n+1) P p2 (fun i v' df S' hi hp=>by
    have:=hs (i+1) v' df S' (by simpa using hi) (by rw[show n+(i+1)=n+1+i by omega];exact hp)
    rw[show n+(i+1)+1=n+1+i+1 by omega] at this
    exact this)
   rw[show n+1+vs.length=n+(v ::vs).length by rw[List.length_cons];omega] at ih
   unfold lW;rw[e1];refine W3.bind ⟨_,_,e2,?_⟩;exact ih
theorem cy{t:FG}{body:FZ}{vs:List V3}(P:Nat->DE->bc->Prop){δ:DE}{S:bc}(h0:P 0 δ S)
 (hs:∀i v δ S,vs[i]? =some v->P i δ S->∃δ1,t v δ=some δ1/\W3 (body δ1 S) fun o S1=>∃e8,o= .nx e8/\P (i+1) e8 S1):W3 (lW t body vs δ S) fun o S1=>∃e8,o= .nx e8/\P vs.length e8 S1:=by
 have:=pz (t:=t) (body:=body) vs 0 P h0 (fun i v δ S hi hp=>by simpa using hs i v δ S hi (by simpa using hp))
 simpa using this
theorem pd{t:FG}{c:FB}{f:FX}{δ:DE}:∀(vs:List V3) (n:Nat) (P:Nat->List V3->bc->Prop) {ys:List V3} {S:bc},P n ys S->
 (∀i v ys S,vs[i]? =some v->P (n+i) ys S->∃δ1,t v δ=some δ1/\W3 (c δ1 S) fun b S1=>if b then W3 (f δ1 S1) fun y S2=>P (n+i+1) (ys++[y]) S2 else P (n+i+1) ys S1)->W3 (jv t c f δ vs S) fun zs S1=>P (n+vs.length) (ys++zs) S1
 | [],n,P,ys,S,h0,_=>W3.ok (by rw[List.append_nil];exact h0)
 | v ::vs,n,P,ys,S,h0,hs=>by
   obtain⟨δ1,e1,b,S1,e2,h2⟩:=hs 0 v ys S rfl h0;have ih:∀{JX S'},P (n+1) JX S'->W3 (jv t c f δ vs S') fun zs S1=>P (n+(v ::vs).length) (JX++zs) S1:=fun {JX S'} p=>by
    have:=pd (t:=t) (c:=c) (f:=f) (δ:=δ) vs (n+1) P p (fun i v' JX S' hi hp=>by
     have:=hs (i+1) v' JX S' (by simpa using hi) (by rw[show n+(i+1)=n+1+i by omega];exact hp)
     rw[show n+(i+1)+1=n+1+i+1 by omega] at this
     exact this)
    rw[show n+1+vs.length=n+(v ::vs).length by rw[List.length_cons];omega] at this
    exact this
   unfold jv;rw[e1];refine W3.bind ⟨b,S1,e2,?_⟩;cases b with
   | true=>
     rw[if_pos rfl] at h2 ⊢;exact W3.bind (h2.mono fun y S2 p=>W3.bind ((ih p).mono fun zs S3 q=>W3.ok (by rw[List.append_assoc] at q;exact q)))
   | false=>rw [if_neg (by decide)] at h2 ⊢;exact ih h2
theorem yP{t:FG}{c:FB}{f:FX}{δ:DE}{vs:List V3}(P:Nat->List V3->bc->Prop){S:bc}(h0:P 0 [] S)
 (hs:∀i v ys S,vs[i]? =some v->P i ys S->∃δ1,t v δ=some δ1/\W3 (c δ1 S) fun b S1=>if b then W3 (f δ1 S1) fun y S2=>P (i+1) (ys++[y]) S2 else P (i+1) ys S1):W3 (jv t c f δ vs S) fun zs S1=>P vs.length zs S1:=by
 have:=pd (t:=t) (c:=c) (f:=f) (δ:=δ) vs 0 P h0 (fun i v ys S hi hp=>by simpa using hs i v ys S hi (by simpa using hp))
 simpa using this
theorem pj{QB:Bool->bc->Prop}(h:QB true S):W3 (oU δ S) QB:=W3.ok h
theorem HU{N:List Str}{F:FZ}{vs:List V3}{δ:DE}(e:eE N vs=δ)(h:W3 (F δ S) fun o S1=>∃v,o= .rt v/\QV v S1):W3 (sV N F vs S) QV:=by
 subst e;exact W3.bind (h.mono fun _ _ ⟨_,e,q⟩=>by subst e;exact W3.ok q)
def M3(S:bc):Prop:=∀o∈S,∃ds,o=SO.lst ds
end
section
variable {S:bc} {δ:DE} {QV:V3->bc->Prop}
theorem fY{it:FA}{t:FG}{c:FB}{f:FX}{own:List Str}{kp:List Nat}(P:Nat->List D->bc->Prop)(h:W3 (it δ S) fun vs S1=>vs.length<=sizeLine/\P 0 [] S1/\
 (∀i v ds S2,vs[i]? =some v->P i ds S2->∃δ1,t v (k_ own kp δ)=some δ1/\W3 (c δ1 S2) fun b S3=>if b then W3 (f δ1 S3) fun y S4=>∃d,y= .d d/\P (i+1) (ds++[d]) S4 else P (i+1) ds S3)/\
 ∀ds S2,P vs.length ds S2->QV (.d (.lst ds)) S2):W3 (fX it t c f own kp δ S) QV:=by
 refine Hr (h.mono fun vs S1 ⟨hl,h0,hs,hq⟩=>⟨hl,?_⟩)
 refine(yP (fun i ys S=>∃ds,ys=ds.map V3.d/\P i ds S) ⟨[],rfl,h0⟩ ?_).mono fun zs S2 ⟨ds,e,p⟩=>?_
 .rintro i v ys S2 hv ⟨ds,rfl,p⟩;obtain⟨δ1,e1,h1⟩:=hs i v ds S2 hv p;refine⟨δ1,e1,h1.mono fun b S3 h3=>?_⟩
  cases b with
  | true=>
    rw[if_pos rfl] at h3 ⊢;exact h3.mono fun y S4 ⟨d,e,p⟩=>by subst e;exact⟨ds++[d],by simp,p⟩
  | false=>rw [if_neg (by decide)] at h3 ⊢;exact⟨ds,rfl,h3⟩
 .subst e;unfold qC;rw[o_];exact hq ds S2 p
structure dt (n:Nat) (d:D):Prop where
 pl:c8 d=true
 ly:(toPy d).canLay0=true
 dp:(toPy d).depth<=n
theorem dt.int(i:Int):dt 0 (.int i):=⟨by unfold c8;rfl,by unfold toPy PyData.canLay0;rfl,by unfold toPy PyData.depth;omega⟩
theorem dt.bl(b:Bool):dt 0 (.bl b):=⟨by unfold c8;rfl,by unfold toPy PyData.canLay0;rfl,by unfold toPy PyData.depth;omega⟩
theorem dt.str(h:(PyData.str s).canLay0=true):dt 0 (.str s):=⟨by unfold c8;rfl,by unfold toPy;exact h,by unfold toPy PyData.depth;omega⟩
theorem dt.mono{n m:Nat}{d:D}(h:dt n d)(hm:n<=m):dt m d:=⟨h.pl,h.ly,Nat.le_trans h.dp hm⟩
theorem dt.all{n:Nat}:∀{ds:List D},(∀d∈ds,dt n d)->gO ds=true/\PyData.canLayAll0 (iu ds)=true/\PyData.depthAll (iu ds)<=n
 | [],_=>⟨by unfold gO;rfl,by unfold iu PyData.canLayAll0;rfl,by unfold iu PyData.depthAll;omega⟩
 | d ::ds,h=>by
   obtain⟨h1,h2,h3⟩:=dt.all (ds:=ds) fun x hx=>h x (List.mem_cons_of_mem _ hx)
   have f:=h d List.mem_cons_self;refine⟨by unfold gO;rw [f.pl,h1];rfl,by unfold iu PyData.canLayAll0;rw [f.ly,h2];rfl,?_⟩
   unfold iu PyData.depthAll;have:=f.dp;omega
theorem dt.lst{n:Nat}{ds:List D}(h:∀d∈ds,dt n d):dt (n+1) (.lst ds):=by
 obtain⟨h1,h2,h3⟩:=dt.all h;exact⟨by unfold c8;exact h1,by unfold toPy PyData.canLay0;exact h2,by unfold toPy PyData.depth;omega⟩
theorem dt.tup{n:Nat}{ds:List D}(h:∀d∈ds,dt n d):dt (n+1) (.tup ds):=by
 obtain⟨h1,h2,h3⟩:=dt.all h;exact⟨by unfold c8;exact h1,by unfold toPy PyData.canLay0;exact h2,by unfold toPy PyData.depth;omega⟩
theorem dt.sh{n:Nat}{d:D}(h:dt n d)(hn:n<=64):SeqAt.shaped (toPy d)=true:=by
 unfold SeqAt.shaped;rw[h.ly,decide_eq_true (Nat.le_trans h.dp hn)];rfl
theorem zN{d e:List D}:CB (.lst d) (.lst e)=R.aR (c8 (.lst d) && c8 (.lst e) && SeqAt.shaped (toPy (.lst d)) && SeqAt.shaped (toPy (.lst e))) (.ok (PyData.eqv (toPy (.lst d)) (toPy (.lst e)))):=rfl
theorem FI{d e:List D}:CB (.tup d) (.tup e)=R.aR (c8 (.tup d) && c8 (.tup e) && SeqAt.shaped (toPy (.tup d)) && SeqAt.shaped (toPy (.tup e))) (.ok (PyData.eqv (toPy (.tup d)) (toPy (.tup e)))):=rfl
theorem dt.eqT{n:Nat}{ds:List D}(h:dt n (.tup ds))(hn:n<=64):CB (.tup ds) (.tup ds)= .ok true:=by
 rw[FI,h.pl,h.sh hn,SeqAt.eqv_refl _ h.ly];rfl
theorem dt.Qa{n:Nat}{ds:List D}(h:dt n (.lst ds))(hn:n<=64):CB (.lst ds) (.lst ds)= .ok true:=by
 rw[zN,h.pl,h.sh hn,SeqAt.eqv_refl _ h.ly];rfl
end
end L3
end
section
namespace L2
open PySem PySem.Spec PyProof.Rows
section
variable {X:Cx}
def Es:D->Bool | .cu=>true | _=>false
def Sg(d e:D):R D:=match e with | .cu=> .ok (.bl (Es d)) | _=> .no
def OT(d e:D):R D:=match e with | .cu=> .ok (.bl (!Es d)) | _=> .no
theorem yw:jM X (.type "int") (fun xs H Q=>∃x n,xs=[.str x]/\PySem.intText? x=some n/\x.length<=640/\Q (.int n) H):=by
 intro pins s σ H xs us Q I r h;obtain⟨x,n,rfl,h1,h2,q⟩:=h;obtain⟨u,rfl,ru⟩:=vals1 r;obtain⟨t,rfl⟩:=ru;exact PySem.W.KIN.call_text h1 h2 ⟨.int n,H,I.tok _,⟨_,rfl⟩,q⟩
def Bu:List D->R D
 | [.str x]=>R.aR (decide (x.length<=640)) (match PySem.intText? x with | some n=> .ok (.int n) | none=> .no)
 | _=> .no
theorem Ho:cI X (.type "int") Bu:=cI.of yw fun B H ds d xs Q _ rs hg q=>by
 unfold Bu at hg;split at hg
 .obtain⟨h1,h2⟩:=R.aW hg;split at h2
  .rename_i e;cases h2;obtain⟨x,rfl,r⟩:=rs.one;exact⟨_,_,by rw[Rep.str.mp r],e,of_decide_eq_true h1,q _ H (aP.refl H) (Rep.int.mpr rfl)⟩
  .cases h2
 .cases hg
def tF(ds:List D):R D:=match ds with | [.str _]=>Bu ds | _=>cInt ds
theorem Ap:cI X (.type "int") tF:=cI.or Ho Ja fun a d h=>by
 unfold tF at h;split at h
 .exact .inl h
 .exact .inr h
def JH(f:FD):FD:=fun δ=>(f δ).bind fun d=>match d with | .int i=> .ok (.int (-i)) | _=> .no
theorem CV(h:QD X a f):QD X (.UnaryOp .USub a pos) (JH f):=⟨(JB Fm h.1).imp fun σ H Q ⟨Z,B,δ,d,E,hf,q⟩=>by
 obtain⟨d1,h1,h2⟩:=R.ak hf;split at h2
 .cases h2;exact⟨Z,B,δ,_,E,h1,fun v H1 s1 r1=>⟨_,Rep.int.mp r1,q _ H1 s1 (Rep.int.mpr rfl)⟩⟩
 .cases h2⟩
def Oc(d:D)(ds:List D):R D:=match d,ds with
 | .str x,[.str y]=> .ok (.int (Txt.find x y))
 | _,_=> .no
def O2(kvs:List (Str × Str)):D:= .dct (kvs.map fun p=>Sum.inr p.1) (kvs.map fun p=> .str p.2)
def SR(kvs:List (Str × Str)):List (Key × V):=kvs.map fun p=>((Sum.inr p.1:Key),V.str p.2)
def OQ(d k:D):R D:=match d,k with
 | .dct ks ds, .str x=>(match (ks.zip ds).find? fun p=>decide (p.1=Sum.inr x) with | some p=> .ok p.2 | none=> .no)
 | _,_=> .no
theorem ny{K:W.Frag}{B:List Addr}{k:Key}{v:Key × D}:∀{kvs:List (Key × V)} {ds:List D},aC K B H ds (kvs.map (·.2))->(((kvs.map (·.1)).zip ds).find? fun p=>decide (p.1=k))=some v->∃x,eY kvs k=some x/\Rep K B H v.2 x
 | [],ds,r,h=>by simp at h
 | (k1,v1) ::kvs,[],r,h=>by simp at h
 | (k1,v1) ::kvs,d ::ds,r,h=>by
   obtain⟨x,xs,e,r1,r2⟩:=r.bX;cases e;rw[List.map_cons,List.zip_cons_cons,List.find?_cons] at h;unfold eY;rw[List.find?_cons];by_cases hk:k1=k
   .have e1:decide (k1=k)=true:=decide_eq_true hk;simp only[e1] at h ⊢;cases h;exact⟨_,rfl,r1⟩
   .have e1:decide (k1=k)=false:=decide_eq_false hk;simp only[e1] at h ⊢;exact ny r2 h
end
end L2
namespace L3
open PySem PySem.Spec PyProof.Rows L2
section
variable {X:Cx} {cl:Tr}
def NC(f:FX):FB:=fun δ S=>(f δ S).bind fun v S=>match v with | .d (.bl b)=> .ok b S | _=> .no
def Pa(f g:FX):FX:=fun δ S=>(NC f δ S).bind fun b S=>if b then g δ S else .ok (.d (.bl false)) S
def Sw(f g:FX):FX:=fun δ S=>(NC f δ S).bind fun b S=>if b then .ok (.d (.bl true)) S else g δ S
def sL(i:Nat)(F:FZ):FZ:=fun δ S=>match e_ δ i with
 | some k=>(match cZ S k with | some ds=>F (δ.set i (some (.d (.lst ds)))) (S.set k .ft) | none=> .no)
 | none=> .no
theorem l7(i:Nat)(h:zo X cl E4 F):zo X cl E4 (sL i F):=⟨h.1.imp fun D σ H ⟨ρ,S,δ,o,S',E,hf,q⟩=>by
 unfold sL at hf;split at hf
 .rename_i k hk;split at hf
  .rename_i ds hds;obtain⟨v,v1,v2⟩:=E.val i _ (iI hk);unfold bf at v2;obtain⟨a,a1,rfl⟩:=v2;obtain⟨w,p,r⟩:=E.sw.ft a1 (gc hds);have E1:dG X.K cl ⟨ρ.r,ρ.z,a ::ρ.f⟩ H (S.set k .ft) σ (δ.set i (some (.d (.lst ds)))):=⟨by rw[List.length_set];exact E.len,w,fun j d e=>by
    by_cases h:i=j
    .subst h;rw[List.getElem?_set_self (by obtain⟨h1,_⟩:=List.getElem?_eq_some_iff.mp (iI hk);exact h1)] at e
     cases e;exact⟨_,v1,by unfold bf;exact r⟩
    .rw [List.getElem?_set_ne h] at e;obtain⟨u,u1,u2⟩:=E.val j d e;exact⟨u,u1,u2.pre p⟩⟩
   exact⟨_,_,_,o,S',E1,hf,q.pre p⟩
  .cases hf
 .cases hf⟩
theorem uc{i k:Nat}{ds:List D}{F:FZ}{δ:DE}{S:bc}{QO:Ou->bc->Prop}(hk:δ[i]? =some (some (.loc k)))(hS:S[k]? =some (.lst ds))(h:W3 (F (δ.set i (some (.d (.lst ds)))) (S.set k .ft)) QO):W3 (sL i F δ S) QO:=by
 unfold sL;have e1:e_ δ i=some k:=by unfold e_;rw [hk]
 have e2:cZ S k=some ds:=by unfold cZ;simp only[hS]
 simp only[e1,e2];exact h
end
def Flat(S:bc):Prop:=∀o∈S,∀n,uJ n o=true
theorem Flat.nil:Flat []:=fun o ho=>by cases ho
end L3
end
section
namespace PySem
open Sem (wp)
open AutoSeq1 (wpAny_loadPart')
section
variable {prog:Program} {w:World} {A:Around} {E:Ti} {s:Shared}
end
end PySem
namespace L2
open PySem PySem.Spec PyProof.Rows
section
variable {X:Cx}
def Ka(f:FD):FD:=fun δ=>(f δ).bind fun d=>match d with
 | .int j=>R.aR (decide (-(2 ^ 62)<=j/\j < 16777216)) (.ok (.tup (jl 0 j.toNat)))
 | _=> .no
theorem vO{n:Nat}{acc:Array Value}(h:ItemsOf (fun i v=>∃t,v=Value.int (0+(i:Int)*1) t) acc n):Vals ((List.range n).map fun(i:Nat)=>V.int (0+(i:Int))) acc.toList:=by
 obtain⟨hl,h⟩:=h;have gen:∀(l:List Value) (m:Nat),(∀j v,l[j]? =some v->∃t,v=Value.int (((m+j:Nat):Int)) t)->Vals ((List.range' m l.length).map fun(i:Nat)=>V.int (0+(i:Int))) l:=by
  intro l
  induction l with
  | nil=>intro m _;exact .nil
  | cons x l ih=>
    intro m hv;rw[List.length_cons,List.range'_succ,List.map_cons];obtain⟨t,e⟩:=hv 0 x rfl;refine .cons ⟨t,by rw[e];simp⟩ (ih (m+1) fun j v hj=>?_)
    obtain⟨t,e⟩:=hv (j+1) v (by simpa using hj)
    exact⟨t,by rw[e];congr 1;omega⟩
 have:=gen acc.toList 0 fun j v hj=>by
  obtain⟨t,e⟩:=h j v (by rw[<-hj];simp)
  exact⟨t,by rw[e];congr 1;omega⟩
 rw[<-hl,List.range_eq_range'];simpa using this
theorem ud{K:W.Frag}{B:List Addr}:∀l:List Nat,aC K B H (l.map fun(i:Nat)=>D.int (0+(i:Int))) (l.map fun(i:Nat)=>V.int (0+(i:Int)))
 | []=>aC.nil
 | i ::l=>aC.cons (Rep.int.mpr rfl) (ud l)
end
end L2
end
section
namespace PySem
open Sem (wp)
open AutoSeq1 (wpAny_loadPart')
section
variable {prog:Program} {w:World} {A:Around} {E:Ti} {s:Shared}
theorem nB{it l:Addr}{i:Nat}{items:Array Value}{x:Value}{Q:Ti}(hit:s.heap.IsTupleIter it l i)(hl:s.heap.IsTuple l items)(hx:items[i]? =some x)
 (hQ:∀h',h'.IsTupleIter it l (i+1)->Heap.SameBut it s.heap h'->Q x {s with heap:=h'}):wpAny (model prog w) A (Builtin.SmallTypes.nextOf (.ref it)) Q E s:=by
 obtain⟨o,ho,hc,hd⟩:=id hit;obtain⟨ol,yg,_,nl,hdl⟩:=hl;unfold Builtin.SmallTypes.nextOf;refine wpAny_bind (wpAny_callSpecial?_slot (name:="__next__") hit.typeIs F.slot_tuple_iterator_next (wpAny_call_entry F.slot_tuple_iterator_next hit.typeIs F.entry_tuple_iterator_next ?_ (F.args_tuple_iterator_next_1 _)));show wpAny _ _ (field (.ref it) 0 >>=_) _ _ s;refine wpAny_bind (wpAny_field ho hd (x:= .ref l) rfl ?_);show wpAny _ _ (if(Value.ref l==Value.none)=true then _ else _) _ _ s;rw [if_neg (show ¬((Value.ref l==Value.none)=true) from Bool.false_ne_true)]
 show wpAny _ _ (field (.ref it) 1 >>=_) _ _ s;refine wpAny_bind (wpAny_field ho hd (x:= .int i 0) rfl ?_);show wpAny _ _ (seqItems? (.ref l) >>=_) _ _ s;refine wpAny_bind (wpAny_seqItems yg hdl ?_);simp only[Int.toNat_natCast,hx];refine wpAny_bind (wpAny_setField ho hd (by simp) (wpAny_pure ⟨x,rfl,wpAny_pure (hQ _ ⟨_,Heap.get?_update_self _ ho (Obj.isFreed_of_fields (Obj.data_mapFields hd _)),(Obj.cls_mapFields ..).trans hc,by rw[Obj.data_mapFields hd];simp [rawInt]⟩ (Heap.SameBut.update ..))⟩))
theorem jV{it l:Addr}{i:Nat}{items:Array Value}{Q:Ti}(hh:A.handled=none)(hit:s.heap.IsTupleIter it l i)(hl:s.heap.IsTuple l items)(hx:items[i]? =none)
 (hE:∀h' e,Heap.ExtBut it s.heap h'->(∃o,h'.get? e=some o/\o.cls= .type "StopIteration")->E (.ref e) {s with heap:=h'}):wpAny (model prog w) A (Builtin.SmallTypes.nextOf (.ref it)) Q E s:=by
 obtain⟨o,ho,hc,hd⟩:=id hit;obtain⟨ol,yg,_,nl,hdl⟩:=hl;unfold Builtin.SmallTypes.nextOf;refine wpAny_bind (wpAny_callSpecial?_slot (name:="__next__") hit.typeIs F.slot_tuple_iterator_next (wpAny_call_entry F.slot_tuple_iterator_next hit.typeIs F.entry_tuple_iterator_next ?_ (F.args_tuple_iterator_next_1 _)));show wpAny _ _ (field (.ref it) 0 >>=_) _ _ s;refine wpAny_bind (wpAny_field ho hd (x:= .ref l) rfl ?_);show wpAny _ _ (if(Value.ref l==Value.none)=true then _ else _) _ _ s;rw [if_neg (show ¬((Value.ref l==Value.none)=true) from Bool.false_ne_true)]
 show wpAny _ _ (field (.ref it) 1 >>=_) _ _ s;refine wpAny_bind (wpAny_field ho hd (x:= .int i 0) rfl ?_);show wpAny _ _ (seqItems? (.ref l) >>=_) _ _ s;refine wpAny_bind (wpAny_seqItems yg hdl ?_);simp only[Int.toNat_natCast,hx];refine wpAny_bind (wpAny_rule (wpAny_bind (wpAny_setField ho hd (by simp) ?_)))
 show wpAny _ _ (newExc (.type "StopIteration") [] >>=_) _ _ _;refine wpAny_bind ?_;simp only[newExc,newTuple];refine wpAny_bind (wpAny_newObj_type ?_ (by size_fits))
 refine wpAny_bind (m:=firstArgMember _ _) (wpAny_of_eq (a:=Value.none) (by first | rfl | (simp only[firstArgMember];rfl)) ?_);refine wpAny_newObj_type ?_ (by size_fits)
 simp only[raiseNew];refine wpAny_bind (wpAny_handled ?_)
 first | rw[show A.in1.handled=none from hh] | rw[hh]
 exact wpAny_bind (wpAny_pure (wpAny_throw (hE _ _ (((Heap.SameBut.update ..).extBut.push _).push _) ⟨_,Heap.get?_push_size _ rfl,rfl⟩)))
end
theorem yG{prog:Program}{w:World}{A:Around}(hh:A.handled=none)(it l:Addr)(yh:l≠it)(items:Array Value) :
 Draws prog w A it [it,l] items.size (fun i v=>items[i]? =some v) (fun i h=>h.IsTupleIter it l i/\h.IsTuple l items) where
 live:=fun _ _ st=>let⟨o,ho,_⟩:=st.1;⟨o,ho⟩
 frame:=fun _ _ _ st hk=>⟨st.1.at fun o e=>hk it (by simp) o e,Heap.IsTuple.at st.2 fun o e=>hk l (by simp) o e⟩
 item:=fun i s Q E hi st hQ=>nB st.1 st.2 (x:=items[i]) (by simp [hi]) fun h' Mw Ot=>hQ _ h' s.toks (by simp [hi]) ⟨Mw,st.2.extBut Ot.extBut yh⟩ Ot
 done:=fun s Q E st hE=>jV hh st.1 st.2 (by simp) hE
theorem nP(l:Addr)(items:Array Value)(o:Obj)(n:Nat)(hc:o.cls= .type "tuple")(hd:o.data= .seq items n) :
 Meets (Builtin.«enumerate.__new__» ⟨[.type "enumerate", .ref l],[]⟩) (fun _ R s=>s.heap.get? l=some o/\
  R (.ok (.ret (.ref (s.heap.push {cls:= .type "tuple_iterator",data:= .fields #[.ref l, .int 0 0]}).objs.size)))
   {s with heap:=(s.heap.push {cls:= .type "tuple_iterator",data:= .fields #[.ref l, .int 0 0]}).push {cls:= .type "enumerate",data:= .fields #[.none, .bool false, .ref s.heap.objs.size,rawInt 0, .none, .none]}}):=
 .of_wp fun prog w A R s h=>by
   obtain⟨hp,g,d,tk,os⟩:=s;obtain⟨hl,h⟩:=h;have hsub:=sub_enumerate;have hL:Heap.IsTuple (Shared.heap ⟨hp,g,d,tk,os⟩) l items:=⟨_,hl,hc,n,hd⟩
   wp_walk using wpAny_loadPart' hl
   refine wpAny_stack_any fun st=>wpAny_pure ?_
   split
   .rename_i c _ _ _ _ _;cases(c==Value.type "enumerate") <;> (wp_walk using wpAny_loadPart' hl,wpAny_pyIter_tuple hL;exact⟨_,rfl,h⟩)
   .wp_walk using wpAny_loadPart' hl,wpAny_pyIter_tuple hL
    exact⟨_,rfl,h⟩
theorem wc{prog:Program}{w:World}{A:Around}{E:Ti}{s:Shared}{l:Addr}{items:Array Value}{Q:Ti}(hL:s.heap.IsTuple l items)
 (h:∀h':Heap,IsEnum h' (s.heap.objs.size+1) s.heap.objs.size 0 .none->h'.IsTupleIter s.heap.objs.size l 0->(∀b o,s.heap.get? b=some o->h'.get? b=some o)->Q (.ref (s.heap.objs.size+1)) {s with heap:=h'}) :
 wpAny (model prog w) A (call (.type "enumerate") [.ref l]) Q E s:=by
 obtain⟨o,hl,hc,n,hd⟩:=hL;refine callType_new F.called_enumerate (by decide) (F.typeCall_enumerate_1 _) (F.newCall_enumerate_1 _) (fun obj=>F.args_object_init_2 obj _) F.entry_enumerate_new (nP l items o n hc hd) ⟨hl,?_⟩
 have hz:(s.heap.push {cls:= .type "tuple_iterator",data:= .fields #[.ref l, .int 0 0]}).objs.size=s.heap.objs.size+1:=Heap.size_push ..;show _/\_;rw [hz];have he:IsEnum ((s.heap.push {cls:= .type "tuple_iterator",data:= .fields #[.ref l, .int 0 0]}).push {cls:= .type "enumerate",data:= .fields #[.none, .bool false, .ref s.heap.objs.size,rawInt 0, .none, .none]}) (s.heap.objs.size+1) s.heap.objs.size 0 .none:=by
  have:=Heap.get?_push_size (s.heap.push {cls:= .type "tuple_iterator",data:= .fields #[.ref l, .int 0 0]}) (o:={cls:= .type "enumerate",data:= .fields #[.none, .bool false, .ref s.heap.objs.size,rawInt 0, .none, .none]}) rfl;rw[hz] at this;exact this
 exact⟨⟨_,he,rfl⟩,h _ he ⟨_,Heap.get?_push_of_some _ (Heap.get?_push_size _ rfl),rfl,rfl⟩ fun b o x=>Heap.get?_push_of_some _ (Heap.get?_push_of_some _ x)⟩
end PySem
namespace L2
open PySem PySem.Spec PyProof.Rows
def K0(K:W.Frag)(a:Addr):It:=
 ⟨fun i H=>∃xs x,l6 K H a xs/\xs[i]? =some x,fun i H v H'=>∃p x,H p=none/\v= .ref p/\(∀xs,l6 K H a xs->xs[i]? =some x)/\H'=upd H p (.tup [.int i,x]),fun i H=>∃xs,l6 K H a xs/\xs.length<=i⟩
theorem vK{K:W.Frag}{k:Nat}(a e it:Addr)(Ig:e≠it):Turn P w K (.Tuple elts k pos) (K0 K a) [e,it] e (fun i h=>(∃old,IsEnum h e it ((i:Nat):Int) old)/\h.IsTupleIter it a i) where
 mem:=by simp
 obj:=fun i h st b hb=>by
  obtain⟨⟨old,he⟩,o,ho,c,d⟩:=st;rcases List.mem_cons.mp hb with rfl | hb
  .exact⟨_,he,fun v z=>by cases z⟩
  .have e:b=it:=by simpa using hb
   subst e;exact⟨o,ho,fun v z=>by rw[d] at z;cases z⟩
 keep:=fun i h h' st k=>by
  obtain⟨⟨old,he⟩,hi⟩:=st;exact⟨⟨old,k e (by simp) _ he⟩,hi.at fun o x=>k it (by simp) o x⟩
 item:=by
  intro X hP hw hK hc i pins s σ H E I hf st hg;subst hP hw hK;obtain⟨xs,x,hq,hx⟩:=hg;obtain⟨its,rv,p,hz⟩:=I.tuple hq;have p':s.heap.IsTuple a its.toArray:=p;obtain⟨u,hu,ru⟩:=rv.get hx;obtain⟨⟨old,he⟩,hit⟩:=st;obtain⟨f0,f1,f2,f3,f4,f5⟩:=hf e (by simp)
  obtain⟨g0,g1,g2,g3,g4,g5⟩:=hf it (by simp)
  have ha_it:a≠it:=fun z=>by
   obtain⟨o1,h1,c1,_⟩:=p';obtain⟨o2,h2,c2,_⟩:=hit;rw[z,h2] at h1;cases h1;rw[c2] at c1;exact absurd c1 (by decide)
  have ha_e:e ∉ [it,a]:=fun z=>by
   rcases List.mem_cons.mp z with q | q
   .exact Ig q
   .have q:e=a:=by simpa using q
    obtain⟨o1,h1,c1,_⟩:=p';rw[<-q,he] at h1;cases h1;exact absurd (show Value.type "enumerate"=Value.type "tuple" from c1) (by decide)
  refine wpAny_pyNext_enum_itemD (yG (A:=X.A.in1) (I.ok.hd hc) it a ha_it its.toArray) he ⟨hit,p'⟩ (by have:=(List.getElem?_eq_some_iff.mp hu).1;simpa using this) Ig ha_e fun u2 iH tk Ry B8 JV BU J2 BS=>⟨_,rfl,?_⟩
  obtain rfl:u2=u:=by
   have h1:its[i]? =some u2:=by simpa using Ry
   rw[hu] at h1;cases h1;rfl
  obtain⟨wx,_⟩:=JV;refine wpAny_letOwnedTupleGo_enum B8 fun lQ BQ j8=>?_
  replace j8:Heap.SameBut e iH lQ:=j8
  have hel:e < s.heap.objs.size:=Heap.lt_size he;have BP:lQ.get? s.heap.objs.size=some {cls:= .type "tuple",data:= .seq #[.int i tk,u2]}:=(j8.2 _ (Nat.ne_of_gt hel)).trans BU;have kk:∀b o,b≠e->b≠it->s.heap.get? b=some o->lQ.get? b=some o:=fun b o h1 h2 q=>(j8.2 b h1).trans (BS b o h1 h2 q)
  have hn:H s.heap.objs.size=none:=I.fresh;have sm:aP H (upd H s.heap.objs.size (.tup [.int i,x])):=aT hn;have nit:∀b o,H b=some o->b≠e/\b≠it:=fun b o q=>⟨fun z=>(by rw[z,f0] at q;cases q),fun z=>(by rw[z,g0] at q;cases q)⟩
  have hok:kE X.prog X.w (upd H s.heap.objs.size (.tup [.int i,x])) lQ:=fun b ob q=>by
   by_cases hb:b=s.heap.objs.size
   .subst hb;rw[aU] at q;cases q;exact⟨by show 2<=sizeLine;decide,[.int i tk,u2], .cons ⟨_,rfl⟩ (.cons ru .nil),⟨_,BP,rfl,_,rfl⟩⟩
   .rw [bo hb] at q;refine(I.hok b ob q).vo (fun c v hc z=>?_) (fun c z=>sm c _ z) fun c ys z=>sm c _ z
    rcases hc with rfl | hc
    .exact kk c v (nit c _ q).1 (nit c _ q).2 z
    .exact kk c v (nit c _ hc).1 (nit c _ hc).2 z
  have nch:∀b,b ∉ [e,it]->b≠e/\b≠it:=fun b hb=>⟨fun z=>hb (by simp [z]),fun z=>hb (by simp [z])⟩
  have I2:Inv X pins σ (upd H s.heap.objs.size (.tup [.int i,x])) {s with heap:=lQ,toks:=tk+1}:=by
   refine I.step (g':=s.gens) (d':=s.drawn) (ch:=[e,it]) (fun b hb=>?_) (fun b o _ _ hb q _=>kk b o (nch b hb).1 (nch b hb).2 q) (fun b o _ _ hb q _=>⟨o.slots,kk b o (nch b hb).1 (nch b hb).2 q⟩)
    (fun b o hb q n=>by rw[bo (Nat.ne_of_lt (Heap.lt_size q))];exact n) (fun b o hb q=>⟨o,kk b o (nch b hb).1 (nch b hb).2 q⟩) (fun b ys z=>sm b _ z) (fun b o u z=>sm b _ z) (fun b ps z=>⟨#[],by rw[sm b _ z];simp⟩) (fun m hm=>?_) hok I.bare
   .rcases List.mem_cons.mp hb with rfl | hb
    .exact⟨f3,f1,f4,f5⟩
    .have z:b=it:=by simpa using hb
     subst z;exact⟨g3,g1,g4,g5⟩
   .obtain⟨o,es,ep,ho,r⟩:=hm;exact⟨o,es,ep,kk _ o (Ne.symm f1) (Ne.symm g1) ho,r⟩
  refine⟨.ref s.heap.objs.size,_,I2,rfl,⟨s.heap.objs.size,x,hn,rfl,fun ys hy=>(by rw[I.qO hy hq];exact hx),rfl⟩,⟨⟨_,by simpa using BQ⟩,wx.at fun o q=>(j8.2 it (Ne.symm Ig)).trans q⟩,fun b hb=>?_⟩
  rcases List.mem_cons.mp hb with rfl | hb
  .rw [bo (Nat.ne_of_lt hel)];exact f0
  .have z:b=it:=by simpa using hb
   subst z;obtain⟨o,ho,_⟩:=hit;rw[bo (Nat.ne_of_lt (Heap.lt_size ho))];exact g0
 done:=by
  intro X hP hw hK hc i pins s σ H E I hf st hg;subst hP hw hK;obtain⟨xs,hq,hx⟩:=hg;obtain⟨its,rv,p,hz⟩:=I.tuple hq;have p':s.heap.IsTuple a its.toArray:=p;obtain⟨⟨old,he⟩,hit⟩:=st;obtain⟨g0,g1,g2,g3,g4,g5⟩:=hf it (by simp)
  have hl:=rv.length;have hT:s.TypeIs (.ref e) "enumerate":=⟨_,he,rfl⟩;unfold pyNext;refine wpAny_bind (wpAny_attempt (wpAny_callSpecial?_slot (name:="__next__") hT F.slot_enumerate_next (wpAny_call_entry F.slot_enumerate_next hT F.entry_enumerate_next ?_ (F.args_enumerate_next_1 _))));show wpAny _ _ (field (.ref e) 2 >>=_) _ _ _;refine wpAny_bind (wpAny_field he rfl (x:= .ref it) rfl ?_);refine wpAny_bind (jV (A:=X.A.in1) (I.ok.hd hc) hit p' (by simp;omega) fun h' x Mo Rl=>?_)
  obtain⟨o,ho,HM⟩:=Rl;refine wpAny_bind (wpAny_isInstance (T:="StopIteration") (b:=true) ⟨o,ho,HM⟩ isSubtype_stop ?_);exact wpAny_pure ⟨rfl,I.turned (t':=s.toks) (fun b o hb q=>Mo b o hb q) g0 g1 g3 g4 g5⟩
 self:=fun A i s Q E st h=>let⟨⟨_,he⟩,_⟩:=st;wpAny_pyIter_enum he h
section
variable {X:Cx}
def rA(f:FD):aq->R (List D):=fun δ=>(f δ).bind fun d=>match d with | .tup ds=> .ok (eD ds) | _=> .no
theorem v_{elts:List Expr}{k:Nat}{sP:Pos}{p pos:Pos}(h:QD X a f)(hg:Gl X "enumerate")(hm:X.mg "enumerate"=none)(hs:starEach [a] X.env=[(false,eval a X.env)]:=by rfl):w6 X (.Tuple elts k sP) (.Call (.Name "enumerate" p) [a] [] pos) (rA f):=by
 refine⟨?_⟩;intro pins s σ H RR I ⟨Z,B,δ,ds,E,hf,q⟩;obtain⟨d,h1,h2⟩:=R.ak hf;have hA:=dH h.1 gn hs pos pins s σ H (fun vs H1=>aP H H1/\∃v,vs=[v]/\Rep X.K B H1 d v) I ⟨Z,B,δ,d,E,h1,fun v H1 s1 r1=>⟨s1,v,rfl,r1⟩⟩
 refine Call_ (fQ I hg hm boot_enumerate (PyProof.Rows.callWith_type1 (dc hA fun us s1 ⟨vs,H1,I1,r1,ss,v,ev,rr⟩=>?_) hs rfl))
 subst ev;obtain⟨u,rfl,ru⟩:=vals1 r1;cases d with
 | tup es=>
   cases h2;obtain⟨b,xs,rfl,l,rs⟩:=Rep.tup.mp rr;cases ru;obtain⟨its,rv,pt,hz⟩:=I1.tuple l.sq;refine wc (items:=its.toArray) pt fun h' he hit kk=>wpAny_pyIter_enum he ?_
   have I2:Inv X pins σ H1 {s1 with heap:=h'}:=I1.kept (t':=s1.toks) kk
   refine⟨s1.heap.objs.size+1,[s1.heap.objs.size+1,s1.heap.objs.size],_,_,H1,rfl,I2,vK b (s1.heap.objs.size+1) s1.heap.objs.size (Nat.succ_ne_self _),⟨⟨_,he⟩,hit⟩,fun c hc=>?_,q _ H1 ss fun B' H' pr=>?_⟩
   .have hle:s1.heap.objs.size<=c:=by
     rcases List.mem_cons.mp hc with z | hc
     .rw [z];exact Nat.le_succ _
     .have z:c=s1.heap.objs.size:=by simpa using hc
      rw[z];exact Nat.le_refl _
    exact I1.uV hle (I1.hok.fresh hle)
   .have l':qH X.K B' H' b xs:=l.elim (fun z=> .inl ⟨(pr.rd z.2 z.1).2,(pr.rd z.2 z.1).1⟩) .inr
    have rs':=rs.aY pr;refine⟨fun i d hd=>?_,⟨xs,l'.sq,by rw[<-rs.length];unfold eD;simp⟩⟩
    unfold eD at hd;rw[List.getElem?_map,List.getElem?_zipIdx] at hd;cases e:es[i]? with
    | none=>rw [e] at hd;cases hd
    | some d0=>
      rw[e] at hd;have hd:D.tup [.int ((0+i:Nat):Int),d0]=d:=Option.some.inj hd;rw[Nat.zero_add] at hd;obtain⟨x,hx,rx⟩:=rs'.get e;refine⟨⟨xs,x,l'.sq,hx⟩,fun v lP y Ij=>?_⟩
      obtain⟨p,y,hp,rfl,hy,rfl⟩:=y;refine⟨aT hp,?_⟩;subst hd;have hy2:=hy xs l'.sq;rw[hx] at hy2;cases hy2;refine Rep.tup.mpr ⟨p,_,rfl, .inl ⟨fun ha=>?_, .inl aU⟩,aC.cons (Rep.int.mpr rfl) (aC.cons (rx.same (aT hp)) aC.nil)⟩
      obtain⟨o,ho⟩:=Ij p ha;rw[hp] at ho;cases ho
 | _=>cases h2
end
end L2
end
section
namespace L2
open PySem PySem.Spec PyProof.Rows
section
variable {X:Cx}
abbrev MV:D->D->R D:=B0 (fun _ j=>decide (0 < j/\j.natAbs.log2 < 9000)) fun i j=>i / j
theorem uK:∀{ns:List Int} {us:List Value},Vals (ns.map V.int) us->IntsAre us ns
 | [],_, .nil=> .nil
 | n ::ns,_, .cons r t=>by obtain⟨tk,rfl⟩:=r;exact .cons _ _ (uK t)
theorem tR{K:W.Frag}{B:List Addr}{ds:List D}{xs:List V}(r:aC K B H ds xs):∀n:Nat,aC K B H (List.replicate n ds).flatten (List.replicate n xs).flatten
 | 0=>aC.nil
 | n+1=>by rw[List.replicate_succ,List.replicate_succ,List.flatten_cons,List.flatten_cons];exact r.append (tR r n)
def BK(f:aq->R (List D))(g:FD):aq->R (List D):=fun δ=>(f δ).bind fun ds=>(g δ).bind fun d=>match d with
 | .int k=>R.aR (decide (0<=k/\k < 1000000/\ds.length*k.toNat<=sizeLine)) (.ok (List.replicate k.toNat ds).flatten)
 | _=> .no
theorem xc{f:aq->R (List D)}(ha:QN X a f)(hb:QD X b g):QN X (.BinOp a .Mult b pos) (BK f g):=by
 refine⟨(zE Gh ha.1 hb.1).imp fun σ H Q ⟨Z,B,δ,es,E,hf,q⟩=>?_⟩
 obtain⟨ds,h1,h2⟩:=R.ak hf;obtain⟨d,h3,h4⟩:=R.ak h2;split at h4
 .rename_i k;obtain⟨h5,h6⟩:=R.aW h4;cases h6;obtain⟨k0,k1,k2⟩:=of_decide_eq_true h5;refine⟨Z,B,δ,ds,E,h1,fun a xs H1 s1 n1 e1 r1=>⟨Z,B,δ, .int k,E.same s1,h3,fun v H2 s2 r2=>⟨a,k,xs,rfl,Rep.int.mp r2,s2 a _ e1,by omega,by omega,by rw[<-r1.length];exact k2,fun p hp=>?_⟩⟩⟩
  refine q p _ _ (s1.trans (s2.trans (aT hp))) ((s1.trans s2).free hp) aU ?_;refine(tR r1 k.toNat).aY fun b o e nb=>⟨(s2.trans (aT hp)) b o e,fun hm=>?_⟩
  rcases List.mem_cons.mp hm with z | z
  .rw [z] at e;rw [s2 p _ e] at hp;cases hp
  .exact nb (List.mem_cons_of_mem _ z)
 .cases h4
def wU(ns:List Int):List Int:=ns.mergeSort fun a b=>decide (a<=b)
def Ko:List D->R D
 | [.lst ds]=>(match ints? ds with | some ns=>R.aR (decide (ns.length < 64)) (.ok (.lst ((wU ns).map .int))) | none=> .no)
 | _=> .no
theorem getD_in{l:List Int}{i:Nat}(h:i < l.length):l.getD i 0∈l:=by
 have e:l.getD i 0=l[i]:=by simp [h]
 rw[e];exact List.getElem_mem h
theorem fold_min:∀(ns:List Int) (n:Int),ns.foldl min n∈n ::ns/\∀a∈n ::ns,ns.foldl min n<=a
 | [],n=>⟨by simp,fun a ha=>by simp at ha;subst ha;exact Int.le_refl _⟩
 | x ::ns,n=>by
   obtain⟨h1,h2⟩:=fold_min ns (min n x);rw[List.foldl_cons];refine⟨?_,fun a ha=>?_⟩
   .rcases List.mem_cons.mp h1 with z | z
    .rw [z];by_cases hc:n<=x
     .rw [Int.min_eq_left hc];simp
     .rw [Int.min_eq_right (by omega)];simp
    .exact List.mem_cons_of_mem _ (List.mem_cons_of_mem _ z)
   .have hm:=h2 _ List.mem_cons_self;rcases List.mem_cons.mp ha with z | z
    .subst z;omega
    .rcases List.mem_cons.mp z with z | z
     .subst z;omega
     .exact h2 a (List.mem_cons_of_mem _ z)
def tw:List D->R D
 | [.lst ds]=>(match ints? ds with | some (n ::ns)=> .ok (.int (ns.foldl min n)) | _=> .no)
 | ds=>Cv ds
def Ny:List D->R D
 | [.lst ds]=>(match ints? ds with | some (n ::ns)=> .ok (.int (ns.foldl max n)) | _=> .no)
 | ds=>KS ds
theorem Bh(hc:X.calm=true):cI X (.builtin "min") tw:=by
 intro pins s σ H B ds d xs us I hb rx rs hg;unfold tw at hg;split at hg
 .split at hg
  .rename_i es n ns e;cases hg;obtain⟨x,rfl,r⟩:=rs.one;obtain⟨a,ys,rfl,l,r⟩:=Rep.lst.mp r;obtain⟨u,rfl,ru⟩:=vals1 rx;cases ru;obtain⟨its,k,rv,e1,hz⟩:=I.zr l;rw[dI r e] at rv;obtain⟨ps,rfl,hps⟩:=fG rv;have hl:s.heap.IsList a (intItems ps.toArray):=⟨_,e1,rfl,k,by simp [intItems]⟩
   have hlp:ps.length=ns.length+1:=by have:=congrArg List.length hps;simpa using this
   refine min_intList (I.ok.hd hc) hl (by simp;omega) fun v h' tk hv hk=>?_
   obtain⟨t,rfl⟩:=intItems_at hv;obtain⟨b1,b2⟩:=argBest_lt (numAt ps.toArray) (ps.toArray.size - 1);refine⟨.int _,H,I.kept hk,⟨t,rfl⟩,aP.refl H,Rep.int.mpr ?_⟩;obtain⟨m1,m2⟩:=fold_min ns n;have hge:∀j,j < ps.length->numAt ps.toArray j=(n ::ns).getD j 0:=fun j hj=>by rw[numAt_eq,<-hps]
   have hin:numAt ps.toArray (argBest (fun i j=>decide (numAt ps.toArray i < numAt ps.toArray j)) (ps.toArray.size - 1))∈n ::ns:=by
    rw[hge _ (by simp at b1 ⊢;omega)];exact getD_in (by simp at b1 ⊢;omega)
   have hle:=m2 _ hin;obtain⟨j,hj,ej⟩:=List.getElem_of_mem m1;have EU:j < ns.length+1:=by simpa using hj
   have h3:=b2 j (by simp;omega)
   rw[hge j (by omega)] at h3
   have h4:(n ::ns).getD j 0=ns.foldl min n:=by rw[<-ej,List.getD_eq_getElem?_getD,List.getElem?_eq_getElem hj];rfl
   rw[h4] at h3;congr 1;omega
  .cases hg
 .exact IM hc pins s σ H B _ d xs us I hb rx rs hg
end
end L2
namespace L3
open PySem PySem.Spec PyProof.Rows L2
def yp(S:bc):V3->Option (List D)
 | .d (.lst ds)=>some ds
 | .loc k=>cZ S k
 | _=>none
theorem Bv{K:W.Frag}{cl:Tr}{ρ:P3}{S:bc}{v:V3}{x:V}{ds:List D}(w:SW K cl ρ H S)(h:yp S v=some ds)(r:bf K ρ H v x):∃a xs,x= .ref a/\sj K [] H a xs/\aC K ρ.b H ds xs:=by
 unfold yp at h;split at h
 .cases h;unfold bf Rep at r;obtain⟨a,xs,e,l,rs⟩:=r;exact⟨a,xs,e,l.aY (fun b o e _=>⟨e,by simp⟩),rs⟩
 .unfold bf at r;obtain⟨a,a1,rfl⟩:=r;obtain⟨xs,e,rs⟩:=w.ob _ a _ a1 (gc h);exact⟨a,xs,rfl, .inl ⟨by simp, .inl e⟩,rs⟩
 .cases h
section
variable {X:Cx} {cl:Tr}
def zK(fa fb:FX):FX:=fun δ S=>(fa δ S).bind fun a S1=>(fb δ S1).bind fun b S2=>match yp S2 a,yp S2 b with
 | some ds,some es=>R3.aR (decide (ds.length+es.length<=sizeLine)) (.ok (.loc S2.length) (S2++[.lst (ds++es)]))
 | _,_=> .no
theorem vm(ha:PX X cl a fa)(hb:PX X cl b fb):PX X cl (.BinOp a .Add b pos) (zK fa fb):=⟨(zE xO ha.1 hb.1).imp fun σ H Q ⟨ρ,S,δ,v,S',E,hf,q⟩=>by
 obtain⟨a,S1,h1,h2⟩:=R3.ak hf;obtain⟨b,S2,h3,h4⟩:=R3.ak h2;split at h4
 .rename_i ds es e1 iG;obtain⟨hl,h5⟩:=R3.aW h4;cases h5;refine⟨ρ,S,δ,a,S1,E,h1,fun u1 cD H1 p1 w1 r1=>⟨cD,S1,δ,b,S2,E.to p1 w1,h3,fun u2 sY H2 p2 w2 r2=>?_⟩⟩
  obtain⟨la,xs,rfl,l1,Oh⟩:=Bv w2 e1 (r1.pre p2);obtain⟨lb,ys,rfl,l2,Of⟩:=Bv w2 iG r2;refine⟨[],la,lb,xs,ys,rfl,rfl,l1,l2,by rw[<-Oh.length,<-Of.length];exact of_decide_eq_true hl,fun p hp=>?_⟩
  obtain⟨w3,p3⟩:=w2.new (a:=p) (o:= .lst (ds++es)) (aT (o:= .lst (xs++ys)) hp) hp ⟨xs++ys,aU,(Oh.append Of).aY (fun b o e nb=>⟨by rw[bo (bY e hp)];exact e,fun hb=>by
   rcases P3.mem_push hb with z | z
   .exact nb z
   .exact bY e hp z⟩)⟩
  exact q _ _ _ (p1.trans (p2.trans p3)) w3 (by unfold bf;exact⟨p,by show(sY.r++[p])[_]? =_;rw [<-w2.len,List.getElem?_append_right (Nat.le_refl _),Nat.sub_self];rfl,rfl⟩)
 .cases h4⟩
theorem BE{fa fb:FX}{δ:DE}{S:bc}{Q:V3->bc->Prop}(h:W3 (fa δ S) fun a S1=>W3 (fb δ S1) fun b S2=>∃ds es,yp S2 a=some ds/\yp S2 b=some es/\ds.length+es.length<=sizeLine/\Q (.loc S2.length) (S2++[.lst (ds++es)])):W3 (zK fa fb δ S) Q:=
 W3.bind (h.mono fun _ _ h=>W3.bind (h.mono fun _ _ ⟨ds,es,e1,iG,hl,q⟩=>by
  simp only[e1,iG];exact W3.wh (decide_eq_true hl) (W3.ok q)))
def OW(i:Nat):FZ:=fun δ S=>match e_ δ i with
 | none=> .no
 | some k=>(match cZ S k with | some _=> .ok (.nx δ) (S.set k (.lst [])) | none=> .no)
end
end L3
end
section
namespace L3
open PySem PySem.Spec PyProof.Rows L2
def Bg(S:bc)(c k:Nat):Option (List (Str × V3)):=match S[k]? with | some (.ins c' fs)=>(if c'=c then some fs else none) | _=>none
def JC(f:Str)(v:V3):List (Str × V3)->List (Str × V3)
 | []=>[(f,v)]
 | (g,x) ::r=>if g=f then(g,v) ::r else(g,x) ::JC f v r
section
variable {X:Cx} {cl:Tr}
def Qh(c:Nat)(f:Str)(g:FX):FX:=fun δ S=>(g δ S).bind fun v S1=>match v with
 | .loc k=>(match Bg S1 c k with | some fs=>(match fs.lookup f with | some v=> .ok v S1 | none=> .no) | none=> .no)
 | _=> .no
def Oa(P:Program)(w:World)(K:W.Frag)(mg:Tq)(base:Heap)(cl:Tr)(k c:Nat)(m:Str)(n:Nat)(g:List V3->bc->R3 V3):Prop:=
 ∃(f:Addr) (fd:FuncData) (ps:List Str),CC K (cl c)/\Meth K (cl c) m f/\gH P w K mg base pZ k f fd ps (BZ K cl (n+1) g)/\Binds K fd ps []
def NN(c:Nat)(m:Str)(g:List V3->bc->R3 V3)(fo:FX)(fs:FA):FX:=fun δ S=>(fo δ S).bind fun o S1=>match o with
 | .loc k=>(match Bg S1 c k with | some ys=>(match ys.lookup m with | none=>(fs δ S1).bind fun vs S2=>g (.loc k ::vs) S2 | some _=> .no) | none=> .no)
 | _=> .no
def NA(P:Program)(w:World)(K:W.Frag)(mg:Tq)(base:Heap)(cl:Tr)(k c:Nat)(x:Str)(n:Nat)(g:List V3->bc->R3 V3):Prop:=
 ∃(f:Addr) (fd:FuncData) (ps:List Str),Mk K (cl c) f/\gH P w K mg base pZ k f fd ps (BZ K cl (n+1) g)/\mg x=some (.ref (cl c))/\Binds K fd ps []
def NP(c:Nat)(g:List V3->bc->R3 V3)(fs:FA):FX:=fun δ S=>(fs δ S).bind fun vs S1=>(g (.loc S1.length ::vs) (S1++[.ins c []])).bind fun v S2=>match v with
 | .d .cu=> .ok (.loc S1.length) S2
 | _=> .no
def Qg(c:Nat)(f:Str)(fo fe:FX):FZ:=fun δ S=>(fe δ S).bind fun v S1=>(fo δ S1).bind fun o S2=>match o with
 | .loc k=>(match Bg S2 c k with | some fs=>R3.aR (decide (fs.length < 1000)) (.ok (.nx δ) (S2.set k (.ins c (JC f v fs)))) | none=> .no)
 | _=> .no
end
end L3
end
section
namespace PySem
open Sem (wp)
def O4(t:Bool)(h:Heap)(i l:Addr)(k:Nat):Prop:=cond t (h.IsTupleIter i l k) (h.IsListIter i l k)
def Lw(t:Bool)(h:Heap)(l:Addr)(xs:Array Value):Prop:=cond t (h.IsTuple l xs) (h.IsList l xs)
def BG(t:Bool):String:=cond t "tuple_iterator" "list_iterator"
section
variable {prog:Program} {w:World} {A:Around} {E:Ti} {s:Shared}
end
abbrev MX(t:Bool)(h:Heap)(l1:Addr):Heap:=h.push {cls:= .type (BG t),data:= .fields #[.ref l1, .int 0 0]}
abbrev N9(t u:Bool)(h:Heap)(l1 l2:Addr):Heap:=(MX t h l1).push {cls:= .type (BG u),data:= .fields #[.ref l2, .int 0 0]}
abbrev Nz(t u:Bool)(h:Heap)(l1 l2:Addr):Heap:=(N9 t u h l1 l2).push {cls:= .type "tuple",data:= .seq #[.ref h.objs.size, .ref (MX t h l1).objs.size]}
abbrev QW(t u:Bool)(h:Heap)(l1 l2:Addr):Heap:=(Nz t u h l1 l2).push {cls:= .type "tuple",data:= .seq #[.none, .none]}
abbrev Sr(t u:Bool)(h:Heap)(l1 l2:Addr):Heap:=(QW t u h l1 l2).push {cls:= .type "zip",data:= .fields #[.none, .bool false, .bool false, .ref (N9 t u h l1 l2).objs.size, .ref (Nz t u h l1 l2).objs.size]}
end PySem
namespace L2
open PySem PySem.Spec PyProof.Rows
def Ds(t:Bool)(K:W.Frag)(H:Hp)(a:Addr)(xs:List V):Prop:=cond t (l6 K H a xs) (lD K H a xs)
theorem Inv.L_{X:Cx}{pins:Th}{σ:L2.St}{s:Shared}{t:Bool}{a:Addr}{xs:List V}(I:Inv X pins σ H s)(h:Ds t X.K H a xs):∃its:List Value,Vals xs its/\Lw t s.heap a its.toArray:=by
 cases t with
 | true=>obtain⟨its,r,p,_⟩:=I.tuple h;exact⟨its,r,p⟩
 | false=>obtain⟨its,r,p,_⟩:=I.list h;exact⟨its,r,p.isList⟩
def Se(K:W.Frag)(t u:Bool)(a b:Addr):It:=
 ⟨fun i H=>∃xs ys x y,Ds t K H a xs/\Ds u K H b ys/\xs[i]? =some x/\ys[i]? =some y,
  fun i H v H'=>∃p x y,H p=none/\v= .ref p/\(∀xs,Ds t K H a xs->xs[i]? =some x)/\(∀ys,Ds u K H b ys->ys[i]? =some y)/\H'=upd H p (.tup [x,y]),
  fun i H=>∃xs ys,Ds t K H a xs/\Ds u K H b ys/\(xs.length<=i\/ys.length<=i)⟩
section
variable {X:Cx}
def JM(ds es:List D):List D:=(ds.zip es).map fun p=> .tup [p.1,p.2]
def seqD?:D->Option (List D)
 | .lst ds=>some ds
 | .tup ds=>some ds
 | _=>none
def ND(f g:FD):aq->R (List D):=fun δ=>(f δ).bind fun d=>(g δ).bind fun e=>match seqD? d,seqD? e with | some ds,some es=> .ok (JM ds es) | _,_=> .no
theorem Rep.L_{K:W.Frag}{B:List Addr}{d:D}{v:V}{ds:List D}(r:Rep K B H d v)(h:seqD? d=some ds):∃t a xs,v= .ref a/\(∀B' H',cW B H B' H'->Ds t K H' a xs/\aC K B' H' ds xs):=by
 cases d with
 | lst es=>
   cases h;obtain⟨a,xs,rfl,l,rs⟩:=Rep.lst.mp r;exact⟨false,a,xs,rfl,fun B' H' p=>⟨(l.aY p).sq,rs.aY p⟩⟩
 | tup es=>
   cases h;obtain⟨a,xs,rfl,l,rs⟩:=Rep.tup.mp r;refine⟨true,a,xs,rfl,fun B' H' p=>⟨?_,rs.aY p⟩⟩
   have l':qH K B' H' a xs:=l.elim (fun z=> .inl ⟨(p.rd z.2 z.1).2,(p.rd z.2 z.1).1⟩) .inr
   exact l'.sq
 | _=>cases h
def N3(T U:String)(f:FD):FD:=fun δ=>(f δ).bind fun d=>match d with | .dct _ _=> .no | _=> .ok (.bl (vC (tyName d) T || vC (tyName d) U))
def Ss(lo:Int)(n:Nat):It:=⟨fun i _=>i < n,fun i H x H'=>H'=H/\x= .int (lo - i),fun i _=>n<=i⟩
def Lo(lo:Int)(n:Nat):List D:=(List.range n).map fun(i:Nat)=>D.int (lo - i)
def M_(f g h:FD):aq->R (List D):=fun δ=>(f δ).bind fun d=>(g δ).bind fun e=>(h δ).bind fun k=>match d,e,k with
 | .int i, .int j, .int m=>R.aR (decide (m= -1/\ -(2 ^ 60)<=i/\i < 2 ^ 60/\ -(2 ^ 60)<=j/\j < 2 ^ 60)) (.ok (Lo i (i - j).toNat)) | _,_,_=> .no
def bls?:List D->Option (List Bool)
 | []=>some []
 | .bl b ::ds=>(bls? ds).map (b ::·)
 | _ ::_=>none
def Qw:List D->R D
 | [.lst ds]=>(match bls? ds with | some bs=> .ok (.bl (bs.all id)) | none=> .no)
 | _=> .no
def Qu:List D->R D
 | [.lst ds]=>(match bls? ds with | some bs=> .ok (.bl (bs.any id)) | none=> .no)
 | _=> .no
end
end L2
end
section
namespace L2
open PySem PySem.Spec PyProof.Rows
section
variable {X:Cx}
def LQ:FS:=fun _=> .no
theorem wR{st:Stmt}:Az X st LQ:=⟨fun pins s σ H D I ⟨Z,B,δ,o,E,hf,q⟩=>by cases hf⟩
def NY(f:FD):FS:=fun δ=>(f δ).bind fun _=> .ok (.nx δ)
end
end L2
namespace L3
open PySem PySem.Spec PyProof.Rows L2
section
variable {X:Cx} {cl:Tr}
def L1:FZ:=fun _ _=> .no
theorem Ez{st:Stmt}:PZ X cl st L1:=⟨fun pins s σ H D I ⟨ρ,S,δ,o,S',E,hf,q⟩=>by cases hf⟩
def MP(f:aq->R (List D)):FX:=fun δ S=>(R3.of (f (dW S δ)) S).bind fun ds S=>R3.aR (uq ds) (.ok (.loc S.length) (S++[.lst ds]))
def Pd(i:Nat)(f:FX):FZ:=fun δ S=>match e_ δ i with
 | none=> .no
 | some k=>match cZ S k with
   | none=> .no
   | some _=>(f δ S).bind fun v S1=>match v with
     | .d (.lst es)=>(match cZ S1 k with
       | some ds=>R3.aR (decide (ds.length+es.length<=sizeLine)) (.ok (.nx δ) (S1.set k (.lst (ds++es))))
       | none=> .no)
     | _=> .no
theorem rH{f:FX}{δ:DE}{S:bc}{QO:Ou->bc->Prop}(h:W3 (f δ S) fun _ S1=>QO (.nx δ) S1):W3 (qY f δ S) QO:=W3.bind (h.mono fun _ _ h=>W3.ok h)
end
end L3
end
section
namespace L2
open PySem PySem.Spec PyProof.Rows
section
variable {X:Cx}
def NG(d e:D):R D:=match d,e with
 | .tup a, .tup b=>R.aR (decide (a.length+b.length<=sizeLine)) (.ok (.tup (a++b)))
 | d,e=>bU d e
theorem w6.or{F F1 F2:aq->R (List D)}(h1:w6 X tg e F1)(h2:w6 X tg e F2)(h:∀δ ds,F δ= .ok ds->F1 δ= .ok ds\/F2 δ= .ok ds):w6 X tg e F:=
 ⟨fun pins s σ H R I ⟨Z,B,δ,ds,E,hf,q⟩=>(h δ ds hf).elim (fun z=>h1.1 pins s σ H R I ⟨Z,B,δ,ds,E,z,q⟩) fun z=>h2.1 pins s σ H R I ⟨Z,B,δ,ds,E,z,q⟩⟩
def rY(f:FD):aq->R (List D):=fun δ=>(f δ).bind fun d=>match d with | .lst ds=> .ok (eD ds) | .tup ds=> .ok (eD ds) | _=> .no
theorem oT{elts:List Expr}{k:Nat}{sP:Pos}{p pos:Pos}(h:QD X a f)(hg:Gl X "enumerate")(hm:X.mg "enumerate"=none)(hs:starEach [a] X.env=[(false,eval a X.env)]:=by rfl):w6 X (.Tuple elts k sP) (.Call (.Name "enumerate" p) [a] [] pos) (rY f):=
 w6.or (F1:=gW f) (F2:=rA f) ⟨t4 h.1 hg hm hs⟩ (v_ h hg hm hs) fun δ ds hf=>by
  obtain⟨d,h1,h2⟩:=R.ak hf;cases d with
  | lst es=>cases h2;exact .inl (by unfold gW;rw [h1];rfl)
  | tup es=>cases h2;exact .inr (by unfold rA;rw [h1];rfl)
  | _=>cases h2
def R1(K:W.Frag)(a:Addr)(n:Nat):It:=
 ⟨fun i H=>∃xs x,lD K H a xs/\xs.length=n/\i < n/\xs[n - 1 - i]? =some x,fun i H v H'=>H'=H/\∀xs,lD K H a xs->xs[n - 1 - i]? =some v,fun i H=>(∃xs,lD K H a xs)/\i=n⟩
def NM(f:FD):aq->R (List D):=fun δ=>(f δ).bind fun d=>match d with | .lst ds=> .ok ds.reverse | _=> .no
def O0(K:W.Frag)(C:Addr)(m qual:Str)(st:Stmt):Prop:=∃f fd,yd K m qual st f fd/\Meth K C m f
def Qn(K:W.Frag)(C:Addr)(m qual:Str)(st:Stmt):Prop:=∃f fd,yd K m qual st f fd/\Mk K C f
end
end L2
namespace L3
open PySem PySem.Spec PyProof.Rows L2
section
variable {X:Cx} {cl:Tr}
end
end L3
end
section
namespace L2
open PySem PySem.Spec PyProof.Rows
section
variable {X:Cx}
def Df(f:FD):aq->R (List D):=fun δ=>(f δ).bind fun d=>match d with | .int j=>R.aR (decide (-(2 ^ 62)<=j/\j < 16777216)) (.ok (jl 0 j.toNat)) | _=> .no
theorem D_{a:Expr}{f:FD}{p p2 pos qw:Pos}(hc:X.calm=true)(h:QD X a f)(hg:Gl X "list")(hm:X.mg "list"=none)(Ei:Gl X "range")(EZ:X.mg "range"=none)(hs:starEach [a] X.env=[(false,eval a X.env)]:=by rfl)
 (hs2:starEach [.Call (.Name "range" p2) [a] [] qw] X.env=(false,eval (.Call (.Name "range" p2) [a] [] qw) X.env) ::starEach [] X.env:=by rfl) (j5:(backTo pos (starEach [] X.env)).any (·.1)=false:=by rfl) :
 QN X (.Call (.Name "list" p) [.Call (.Name "range" p2) [a] [] qw] [] pos) (Df f):=by
 refine⟨?_⟩;intro pins s σ H Q I ⟨Z,B,δ,ds,E,hf,q⟩;obtain⟨d1,h1,h2⟩:=R.ak hf;have key:∃j:Int,d1= .int j/\ -(2 ^ 62)<=j/\j < 16777216/\ds=jl 0 j.toNat:=by
  split at h2
  .obtain⟨h3,h4⟩:=R.aW h2;cases h4;have h3:=of_decide_eq_true h3;exact⟨_,rfl,h3.1,h3.2,rfl⟩
  .cases h2
 obtain⟨j,rfl,OC,OB,rfl⟩:=key;refine wpAny_Call_Name_kw (fQ I hg hm boot_list ?_ (by decide) (by decide))
 refine PyProof.Rows.callWith_type1 ?_ hs2 j5;rw[hs2];show wpAny _ _ (spliced ((false,eval (.Call (.Name "range" p2) [a] [] qw) X.env) ::backTo pos (starEach [] X.env))) _ _ s;refine Calls.spliced_cons ?_;have hA:=dH h.1 gn hs qw pins s σ H (fun vs H1=>aP H H1/\vs=[.int j]) I ⟨Z,B,δ, .int j,E,h1,fun v H1 s1 r1=>⟨s1,by rw[Rep.int.mp r1]⟩⟩
 refine Call_ (fQ I Ei EZ boot_range (PyProof.Rows.callWith_type1 (dc hA fun us s1 ⟨vs,H1,I1,r1,ss,ev⟩=>?_) hs rfl))
 subst ev;obtain⟨u,rfl,ru⟩:=vals1 r1;obtain⟨t,rfl⟩:=ru;refine call_range_1 ?_;have I2:Inv X pins σ H1 {s1 with heap:=s1.heap.push {cls:= .type "range",data:= .fields #[.int 0 s1.toks, .int j t, .int 1 (s1.toks+1)]},toks:=s1.toks+1+1}:=I1.kept fun b o e=>Heap.get?_push_of_some _ e
 refine Calls.spliced_nil ?_;have hsz:Builtin.Range.rangeSize 0 j 1=(j.toNat:Nat):=by rw[rangeSize_one];split <;> omega
 have hz:sizeLine=16777216:=sizeLine_eq;refine call_list_range (n:=j.toNat) (I2.ok.hd hc) (IsRange.new ..) (small_one (by omega) (by omega) (by omega) (by omega)) hsz (by omega) fun h' tk acc c' hk HD HF=>?_
 have rv:=vO HF;have hle:((List.range j.toNat).map fun(i:Nat)=>V.int (0+(i:Int))).length<=sizeLine:=by rw[List.length_map,List.length_range];omega
 have Eg:H1 (s1.heap.push {cls:= .type "range",data:= .fields #[.int 0 s1.toks, .int j t, .int 1 (s1.toks+1)]}).objs.size=none:=I2.hok.fresh (Nat.le_refl _);have I4:=I2.laid (o:= .lst ((List.range j.toNat).map fun(i:Nat)=>V.int (0+(i:Int)))) (h':=h') (t':=tk) hk (Nat.le_refl _) (show cB X.prog X.w _ _ _ (.lst _) from⟨hle,acc.toList,c',rv,by simpa using HD⟩)
 exact⟨.ref _,_,I4,rfl,q _ _ _ (ss.trans (aT Eg)) (ss.free Eg) aU (ud _)⟩
def Js(f:FD):FD:=fun δ=>(f δ).bind fun d=>match d with | .lst ds=> .ok (.lst ds.reverse) | _=> .no
theorem aC.rev{K:W.Frag}{B:List Addr}:∀{ds:List D} {xs:List V},aC K B H ds xs->aC K B H ds.reverse xs.reverse
 | [],xs,r=>by unfold aC at r;subst r;exact aC.nil
 | d ::ds,xs,r=>by
   obtain⟨x,q,rfl,r1,r2⟩:=r.bX;rw[List.reverse_cons,List.reverse_cons];exact r2.rev.append (aC.cons r1 aC.nil)
theorem Vals.rev:∀{xs:List V} {us:List Value},Vals xs us->Vals xs.reverse us.reverse
 | [],us,r=>by cases r;exact .nil
 | x ::xs,us,r=>by
   cases r with
   | cons r t=>
     rw[List.reverse_cons,List.reverse_cons];exact(Vals.rev t).append (.cons r .nil)
theorem Di{e step:Expr}(he:QD X e f)(Ed:QP X (some step) (pH (JH (eC (.int 1))))):QD X (.Subscript e (.Slice none none (some step) p2) pos) (Js f):=by
 refine⟨?_⟩;intro pins s σ H Q I ⟨Z,B,δ,d,E,hf,q⟩;obtain⟨d1,h1,h2⟩:=R.ak hf;cases d1 with
 | lst es=>
   cases h2;refine Subscript_ (dc (he.1 pins s σ H (fun x H1=>aP H H1/\Rep X.K B H1 (.lst es) x) I ⟨Z,B,δ, .lst es,E,h1,fun v H1 s1 r1=>⟨s1,r1⟩⟩) fun v s1 ⟨x,H1,I1,r1,Mq,rr⟩=>?_)
   refine wpAny_Slice ?_;rw[evalPart_none];refine wpAny_pure ?_;refine wpAny_pure ?_;refine dc (Ed.1 pins s1 σ H1 (fun o H2=>aP H1 H2/\o=some (-1)) I1 ⟨Z,B,δ,some (-1),E.same Mq,rfl,fun H2 s2=>⟨s2,rfl⟩⟩) fun vk s2 ⟨o,H2,I2,pk,MC,eo⟩=>?_
   subst eo;obtain⟨a,xs,rfl,ls,rs⟩:=Rep.lst.mp (rr.same MC);cases r1;have I3:Inv X pins σ H2 {s2 with heap:=s2.heap.push {cls:= .type "slice",data:= .fields #[.none, .none,vk]}}:=I2.kept (t':=s2.toks) fun b ob q=>Heap.get?_push_of_some _ q
   obtain⟨its,r,ht,hz⟩:=I3.list ls.sq;show wpAny (model X.prog X.w) X.A (subscriptTail e (.Slice none none (some step) p2) (.ref a) (.ref s2.heap.objs.size)) (EP X pins σ Q) X.xe {s2 with heap:=s2.heap.push {cls:= .type "slice",data:= .fields #[.none, .none,vk]}}
   refine tail_any (ops:=[.ref a, .ref s2.heap.objs.size]) ht.isList.typeIs slot_list_getitem.lookup ?_ (by with_unfolding_all rfl)
   have hlen:=r.length;refine wpAny_getItem_list_slice ht.isList (Heap.IsSliceOf.new ..) .none .none pk (by decide) ?_ (by rw[List.size_toArray] <;> omega)
   rw[PySem.W.krv_pick];have hp:H2 (s2.heap.push {cls:= .type "slice",data:= .fields #[.none, .none,vk]}).objs.size=none:=I3.hok.fresh (Nat.le_refl _);refine⟨.ref _,_,I3.laid (t':=s2.toks) (o:= .lst xs.reverse) (fun b ob q=>Heap.get?_push_of_some _ q) (Nat.le_refl _) ?_,rfl,q _ _ ((Mq.trans MC).trans (aT hp)) (Rep.lst.mpr ⟨_,_,rfl, .n_ aU fun ha=>?_,(rs.rev).same (aT hp)⟩)⟩
   .exact⟨by rw[List.length_reverse];exact hz,_,0,r.rev,Heap.get?_push_size _ rfl⟩
   .obtain⟨o,ho⟩:=(E.same (Mq.trans MC)).bs _ ha;rw[hp] at ho;cases ho
 | _=>cases h2
end
end L2
end
section
namespace L2
open PySem PySem.Spec PyProof.Rows
section
variable {X:Cx}
def Q_(K:W.Frag)(n:Nat)(t:Ay):TG:=fun v σ H Q=>∃a xs,v= .ref a/\lD K H a xs/\xs.length=n/\t xs σ H Q
end
end L2
namespace L3
open PySem PySem.Spec PyProof.Rows L2
section
variable {X:Cx} {cl:Tr}
def R9(n:Nat)(t:CJ):FG:=fun d δ=>match d with
 | .d (.lst ds)=>if ds.length=n then t (ds.map .d) δ else none
 | .lst vs=>if vs.length=n then t vs δ else none
 | _=>none
def OR(f g:FX):FA:=fun δ S=>(bO f (bO g iJ) δ S).bind fun vs S1=>match vs with
 | [.d d, .d e]=>(match seqD? d,seqD? e with | some ds,some es=> .ok ((JM ds es).map .d) S1 | _,_=> .no)
 | _=> .no
def Hn(S:bc):Prop:=∀o∈S,uJ S.length o=true
theorem Flat.clo{S:bc}(h:Flat S):Hn S:=fun o ho=>h o ho _
theorem IZ{N:List Str}{vs:List V3}{S:bc}{QV:V3->bc->Prop}(h:W3 (sV N F vs S) fun v S1=>(∀o∈S1.take S.length,uJ S.length o=true)/\gI S.length v=true/\∃d,res S1 v=some d/\QV (.d d) (S1.take S.length)):W3 (xJ N F vs S) QV:=
 W3.bind (h.mono fun v S1 ⟨hl,hg,d,e,q⟩=>by
  rw[e];exact W3.wh (by rw[List.all_eq_true.mpr hl,hg];rfl) (W3.ok q))
theorem oi{N:List Str}{vs:List V3}{S:bc}{QV:V3->bc->Prop}(hS:Hn S)(h:W3 (sV N F vs S) fun v S1=>gI S.length v=true/\(∃T,S1=S++T)/\∃d,res S1 v=some d/\QV (.d d) S):W3 (xJ N F vs S) QV:=
 IZ (h.mono fun v S1 ⟨hg,⟨T,e1⟩,d,e,q⟩=>by
  subst e1;rw[List.take_append_of_le_length (Nat.le_refl _),List.take_length];exact⟨hS,hg,d,e,q⟩)
end
end L3
end
section
namespace L2
open PySem PySem.Spec PyProof.Rows
section
variable {X:Cx}
def ois?:List D->Option (List (Option Int))
 | []=>some []
 | .int i ::ds=>(ois? ds).map (some i ::·)
 | .cu ::ds=>(ois? ds).map (none ::·)
 | _ ::_=>none
def SS:Option Int->V | some i=> .int i | none=> .cu
def OP(d e:D):R Bool:=match d,e with
 | .cu, .lst ds=>(match ois? ds with | some ss=> .ok (ss.any (·.isNone)) | none=> .no)
 | _,_=> .no
def Pp(d e:D):R D:=(OP d e).bind fun b=> .ok (.bl b)
end
end L2
end
section
namespace L2
open PySem PySem.Spec PyProof.Rows
section
variable {X:Cx}
def LL(d:D)(ds:List D):R D:=match d,ds with
 | .lst es,[.int k]=>(match ints? es with | some ss=> .ok (.int (ss.count k:Nat)) | none=> .no)
 | _,_=> .no
end
end L2
end
section
namespace L2
open PySem PySem.Spec PyProof.Rows
section
variable {X:Cx}
abbrev Pt:D->D->R D:=B0 (fun i j=>decide (0<=j/\j < 1000/\ -1000 < i/\i < 1000)) fun i j=>i*2 ^ j.toNat
def NX(d e:D):R D:=match d,e with | .bl a, .bl b=> .ok (.bl (a !=b)) | _,_=> .no
end
end L2
namespace L3
open PySem PySem.Spec PyProof.Rows L2
section
variable {X:Cx} {cl:Tr}
def NZ(fo f:FX):FZ:=fun δ S=>(fo δ S).bind fun o S0=>match o with
 | .loc k=>(match cZ S0 k with
   | none=> .no
   | some _=>(f δ S0).bind fun v S1=>match v with
     | .d d=>(match cZ S1 k with | some ds=>R3.aR (decide (ds.length < sizeLine)) (.ok (.nx δ) (S1.set k (.lst (ds++[d])))) | none=> .no)
     | _=> .no)
 | _=> .no
def N4(f:FX):FA:=fun δ S=>(bO f iJ δ S).bind fun vs S1=>match vs with
 | [.d (.lst ds)]=> .ok ((eD ds).map .d) S1
 | _=> .no
end
end L3
end
section
namespace L2
open PySem PySem.Spec PyProof.Rows
section
variable {X:Cx}
end
end L2
end
section
namespace L3
open PySem PySem.Spec PyProof.Rows L2
section
variable {cl:Tr}
def K1(it:FA)(t:FG)(c:FB)(f:FX)(own:List Str)(kp:List Nat):FX:=fun δ S=>(it δ S).bind fun vs S1=>R3.aR (decide (vs.length<=sizeLine)) ((jv t c f (k_ own kp δ) vs S1).bind fun ys S2=>match my ys with | some ds=> .ok (.loc S2.length) (S2++[.lst ds]) | none=> .no)
end
section
variable {X:Cx} {cl:Tr}
end
end L3
end
section
namespace L3
open PySem PySem.Spec PyProof.Rows L2
section
variable {X:Cx} {cl:Tr}
def LY(g:List D->R D)(fs:FA):FX:=fun δ S=>(fs δ S).bind fun vs S1=>match lJ S1 vs with
 | some ds=>(R3.of (g ds) S1).bind fun d S=>R3.aR (uQ d) (.ok (.d d) S)
 | none=> .no
end
end L3
end
section
namespace L2
open PySem PySem.Spec PyProof.Rows
section
variable {X:Cx}
def Q7(f:FD):FD:=fun δ=>(f δ).bind fun d=>match d with | .int i=> .ok (.int (-i - 1)) | _=> .no
def OZ(d:D)(lo hi:Option Int):R D:=match d with
 | .tup ds=>R.aR (decide (¬(HT.m8 ds.length 0 lo=0/\HT.m8 ds.length ds.length hi=ds.length))) (.ok (.tup (cutD ds lo hi)))
 | _=> .no
def PH(f:FD)(fl fh:FO):FD:=fun δ=>(f δ).bind fun d=>(fl δ).bind fun lo=>(fh δ).bind fun hi=>OZ d lo hi
end
end L2
namespace L3
open PySem PySem.Spec PyProof.Rows L2
section
variable {X:Cx} {cl:Tr}
structure Sa (X:Cx) (cl:Tr) (st:List Stmt) (F:FZ):Prop where
 go:r6 X st (fun D σ H=>D.ct=D.nx/\sX X.K cl F D σ H)
end
end L3
end
section
namespace L2
open PySem PySem.Spec PyProof.Rows
end L2
namespace L3
open PySem PySem.Spec PyProof.Rows L2
section
variable {X:Cx} {cl:Tr}
def Rg(i:Nat)(f:FX):FX:=fun δ S=>match e_ δ i with
 | none=> .no
 | some k=>match cZ S k with
   | none=> .no
   | some _=>(f δ S).bind fun v S1=>match v with
     | .d (.int j)=>(match cZ S1 k with
       | some ds=>(match BY ds.length j with
         | some p=>(match ds[p]? with | some d=>R3.aR (decide (-(2 ^ 63)<=j/\j < 2 ^ 63)) (.ok (.d d) (S1.set k (.lst (ds.eraseIdx p)))) | none=> .no)
         | none=> .no)
       | none=> .no)
     | _=> .no
end
end L3
end
section
namespace L3
open PySem PySem.Spec PyProof.Rows L2
section
variable {X:Cx} {cl:Tr}
def P2(f:FX)(fl fh:H0):FX:=fun δ S=>(f δ S).bind fun v S1=>(fl δ S1).bind fun lo S2=>(fh δ S2).bind fun hi S3=>match v with
 | .lst vs=> .ok (.lst (L2.cutD vs lo hi)) S3
 | _=> .no
end
end L3
end
section
namespace L2
open PySem PySem.Spec PyProof.Rows
section
variable {X:Cx}
def LH:List V->Hp->VK->Prop:=fun xs H Q=>∃a kvs ns,xs=[V.ref a]/\H a=some (.dK kvs)/\kvs.map (·.1)=ns.map Sum.inl/\ns.length < 64/\∀p,H p=none->Q (.ref p) (upd H p (.lst ((wU ns).map V.int)))
end
end L2
end
section
namespace L3
open PySem PySem.Spec PyProof.Rows L2
section
variable {X:Cx} {cl:Tr}
def o7(kvs:List (Key × D))(k:Key)(d:D):List (Key × D):=if(kvs.any fun kv=>decide (kv.1=k))=true then kvs.map (fun kv=>if kv.1=k then(kv.1,d) else kv) else kvs++[(k,d)]
def me(S:bc)(k:Nat):Option (List (Key × D)):=match S[k]? with | some (.dct kvs)=>some kvs | _=>none
theorem oR{S:bc}{k:Nat}{kvs:List (Key × D)}(h:me S k=some kvs):S[k]? =some (.dct kvs):=by
 unfold me at h;split at h
 .rename_i e;cases h;exact e
 .cases h
theorem wX{α β:Type}(k:Key):∀{a:List (Key × α)} {b:List (Key × β)},a.map (·.1)=b.map (·.1)->(a.any fun kv=>decide (kv.1=k))=b.any fun kv=>decide (kv.1=k)
 | [],[],_=>rfl
 | [],_ ::_,h=>by simp at h
 | _ ::_,[],h=>by simp at h
 | x ::a,y ::b,h=>by
   rw[List.map_cons,List.map_cons] at h;obtain⟨h1,h2⟩:=List.cons.inj h;rw[List.any_cons,List.any_cons,wX k h2,h1]
theorem xg{K:W.Frag}{B:List Addr}{k:Key}{d:D}{v:V}(rv:Rep K B H d v):∀{kvs:List (Key × D)} {ys:List (Key × V)},ys.map (·.1)=kvs.map (·.1)->aC K B H (kvs.map (·.2)) (ys.map (·.2))->
 (ys.map fun kv=>if kv.1=k then(kv.1,v) else kv).map (·.1)=(kvs.map fun kv=>if kv.1=k then(kv.1,d) else kv).map (·.1)/\aC K B H ((kvs.map fun kv=>if kv.1=k then(kv.1,d) else kv).map (·.2)) ((ys.map fun kv=>if kv.1=k then(kv.1,v) else kv).map (·.2))
 | [],[],_,_=>⟨rfl,aC.nil⟩
 | [],_ ::_,h,_=>by simp at h
 | _ ::_,[],h,_=>by simp at h
 | (k1,d1) ::kvs,(k2,v2) ::ys,h,r=>by
   obtain⟨h1,h2⟩:=List.cons.inj h;have h1:k2=k1:=h1;subst h1;obtain⟨x,r',e,q1,q2⟩:=aC.bX r;cases e;obtain⟨i1,i2⟩:=xg rv h2 q2;simp only[List.map_cons];by_cases hk:k2=k
   .rw [if_pos hk,if_pos hk];exact⟨by rw[i1],aC.cons rv i2⟩
   .rw [if_neg hk,if_neg hk];exact⟨by rw[i1],aC.cons q1 i2⟩
theorem JO{K:W.Frag}{B:List Addr}{k:Key}{d:D}{v:V}(rv:Rep K B H d v){kvs:List (Key × D)}{ys:List (Key × V)}(h:ys.map (·.1)=kvs.map (·.1))(r:aC K B H (kvs.map (·.2)) (ys.map (·.2))) :
 (putK ys k v).map (·.1)=(o7 kvs k d).map (·.1)/\aC K B H ((o7 kvs k d).map (·.2)) ((putK ys k v).map (·.2)):=by
 unfold putK o7;rw[wX k h];split
 .exact xg rv h r
 .rw [List.map_append,List.map_append,List.map_append,List.map_append,h];exact⟨rfl,r.append (aC.cons rv aC.nil)⟩
def xy:FX:=fun δ S=> .ok (.loc S.length) (S++[.dct []])
theorem w_:PX X cl (.Dict [] [] pos) xy:=⟨Ax.imp fun σ H Q ⟨ρ,S,δ,v,S',E,hf,q⟩=>by
 cases hf;intro p hp;obtain⟨w,pr⟩:=E.sw.new (a:=p) (o:= .dct []) (aT (o:= .dK []) hp) hp ⟨[],aU,rfl,aC.nil⟩;exact q _ _ _ pr w (by unfold bf;exact⟨p,by show(ρ.r++[p])[_]? =_;rw [<-E.sw.len,List.getElem?_append_right (by omega),Nat.sub_self];rfl,rfl⟩)⟩
def MR(fo fi fe:FX):FZ:=fun δ S=>(fe δ S).bind fun v S1=>(fo δ S1).bind fun o S2=>(fi δ S2).bind fun j S3=>match v,o,j with
 | .d d, .loc k, .d (.int n)=>(match me S3 k with | some kvs=>R3.aR (decide (kvs.length < sizeLine)) (.ok (.nx δ) (S3.set k (.dct (o7 kvs (Sum.inl n) d)))) | none=> .no)
 | _,_,_=> .no
def OO(fa fo:FX):FX:=fun δ S=>(fa δ S).bind fun j S1=>(fo δ S1).bind fun o S2=>match j,o with
 | .d (.int n), .loc k=>(match me S2 k with | some kvs=> .ok (.d (.bl (kvs.any fun kv=>decide (kv.1=Sum.inl n)))) S2 | none=> .no)
 | _,_=> .no
def intK?:List Key->Option (List Int)
 | []=>some []
 | .inl n ::ks=>(intK? ks).map (n ::·)
 | .inr _ ::_=>none
def KU(f:FX):FX:=fun δ S=>(f δ S).bind fun o S1=>match o with
 | .loc k=>(match me S1 k with
   | some kvs=>(match intK? (kvs.map (·.1)) with | some ns=>R3.aR (decide (ns.length < 64)) (.ok (.d (.lst ((wU ns).map .int))) S1) | none=> .no)
   | none=> .no)
 | _=> .no
theorem AW{δ:DE}{S:bc}{QV:V3->bc->Prop}(h:QV (.loc S.length) (S++[.dct []])):W3 (xy δ S) QV:=W3.ok h
end
end L3
end
section
namespace L2
open PySem PySem.Spec PyProof.Rows
section
variable {X:Cx}
def J_:V->List V->Hp->VK->Prop:=fun x vs H Q=>∃(l:Addr) (xs:List V) (j:Int) (i:Nat) (y:V),x= .ref l/\vs=[.int j,y]/\H l=some (.lst xs)/\j=i/\i<=xs.length/\xs.length < sizeLine/\Q .cu (upd H l (.lst (xs.take i++y ::xs.drop i)))
end
end L2
namespace L3
open PySem PySem.Spec PyProof.Rows L2
section
variable {X:Cx} {cl:Tr}
def OS(i:Nat)(f g:FX):FZ:=fun δ S=>match e_ δ i with
 | none=> .no
 | some k=>match cZ S k with
   | none=> .no
   | some _=>(f δ S).bind fun v S1=>match v with
     | .d (.int j)=>(g δ S1).bind fun w S2=>(match w with
       | .d d=>(match cZ S2 k with
         | some ds=>R3.aR (decide (0<=j/\j.toNat<=ds.length/\ds.length < sizeLine)) (.ok (.nx δ) (S2.set k (.lst (ds.take j.toNat++d ::ds.drop j.toNat))))
         | none=> .no)
       | _=> .no)
     | _=> .no
end
end L3
end
section
namespace L3
open PySem PySem.Spec PyProof.Rows L2
section
variable {X:Cx} {cl:Tr}
structure SH (X:Cx) (pos:Pos) (keys:List (Option Expr)) (values:List Expr) (ks:List Str) (g:aq->R (List D)):Prop where
 h:∃rj,Fx X pos keys values rj/\∀(σ:L2.St) (H:Hp) (Q:List (V × V)->Hp->Prop),(∃Z B δ ds,di X.K Z B H σ δ/\g δ= .ok ds/\∀vs H',aP H H'->aC X.K B H' ds vs->Q ((ks.zip vs).map fun p=>(V.str p.1,p.2)) H')->mQ rj σ H Q
def G9(ks:List Str)(ns:List Int):List (Key × D):=(ks.zip ns).foldl (fun acc p=>o7 acc (Sum.inr p.1) (.int p.2)) []
def Lk(ks:List Str)(g:aq->R (List D)):FX:=fun δ S=>(R3.of (g (down δ)) S).bind fun ds S=>match ints? ds with
 | some ns=>R3.aR (decide (ns.length=ks.length/\ks.length<=15)) (.ok (.loc S.length) (S++[.dct (G9 ks ns)]))
 | none=> .no
def KI(kvs:List (Key × D))(k:Key):Option D:=(kvs.find? fun kv=>decide (kv.1=k)).map (·.2)
def MU(i:Nat)(f g:FD):FX:=fun δ S=>match e_ δ i with
 | none=> .no
 | some k=>match me S k with
   | none=> .no
   | some kvs=>(R3.of (f (down δ)) S).bind fun kd S=>(R3.of (g (down δ)) S).bind fun d S=>match kd with
     | .str x=> .ok (.d ((KI kvs (Sum.inr x)).getD d)) S
     | _=> .no
end
end L3
end
section
namespace L2
open PySem PySem.Spec PyProof.Rows
section
variable {X:Cx}
def qM:List D->R D
 | [.tup ds]=>(match ints? ds with | some ns=> .ok (.int ns.sum) | none=> .no)
 | ds=>G7 ds
theorem vU(hc:X.calm=true):cI X (.builtin "sum") qM:=by
 intro pins s σ H B ds d xs us I hb rx rs hg;unfold qM at hg;split at hg
 .split at hg
  .rename_i es ns e;cases hg;obtain⟨x,rfl,r⟩:=rs.one;obtain⟨a,ys,rfl,l,r⟩:=Rep.tup.mp r;obtain⟨u,rfl,ru⟩:=vals1 rx;cases ru;obtain⟨its,rv,ht,hz⟩:=I.tuple l.sq;rw[dI r e] at rv;obtain⟨ps,rfl,rfl⟩:=fG rv;have hl:s.heap.IsTuple a (intItems ps.toArray):=by
    have ht:s.heap.IsTuple a (ps.map fun p=>Value.int p.1 p.2).toArray:=ht
    simpa [intItems] using ht
   refine PySem.W.ktm_sumG (I.ok.hd hc) hl fun h' tk t' k=>⟨.int _,H,I.kept k,⟨t',rfl⟩,aP.refl H,Rep.int.mpr ?_⟩
   rw[preSum_eq,List.take_of_length_le (by simp)]
  .cases hg
 .exact IE hc pins s σ H B ds d xs us I hb rx rs hg
end
end L2
end
section
namespace L2
open PySem PySem.Spec PyProof.Rows
section
variable {X:Cx}
def N8(d e:D):R D:=match d,e with
 | .tup a, .int k=>R.aR (decide (2<=k/\k < 1000/\a≠[]/\a.length*k.toNat<=sizeLine)) (.ok (.tup (List.replicate k.toNat a).flatten))
 | d,e=>jm d e
end
end L2
end
section
namespace L2
open PySem PySem.Spec PyProof.Rows
def N7(P:Program)(w:World):zp:=fun outer H s E e s'=>
 ∃(a:Addr) (B:Heap) (cls a0:Value) (H':Hp),e= .ref a/\s'.os=s.os/\AllBare s'.gens/\Un (xu outer) [] H H' s.heap s'.heap/\kE P w H' s'.heap/\Heap.FlyingW B outer a cls a0 s'.heap/\
  (∀b o,s'.heap.get? b=some o->b ∉ xu outer->((∃u,s.heap.get? b=some u)\/∃u,H' b=some u)->B.get? b=some o)/\E cls none H'
section
variable {X:Cx} {pins:Th} {σ:St} {H1 H':Hp} {s1 s':Shared} {B S7:Heap} {a:Addr} {cls a0:Value} {E:XK}
end
section
variable {P:Program} {w:World} {K:W.Frag} {mg:Tq} {base:Heap} {N:List Str} {qual:Str} {scope:Scope} {f:Addr} {cd:Value} {A:Around} {outer:List Env} {s:Shared} {H:Hp} {E:XK}
end
end L2
end
section
namespace L2
open PySem PySem.Spec PyProof.Rows
def Qs:List Value:=[.type "ValueError", .type "Exception", .type "BaseException", .type "object"]
structure XC (K:W.Frag) (C:Addr):Prop where
 ex:PySem.W.excIn K C Qs "ValueError.__new__"=true
 ga:PySem.W.findIn K (.ref C) "__getattribute__"=some (some (.builtin "BaseException.__getattribute__"))
 gt:PySem.W.findIn K (.ref C) "__getattr__"=some none
 co:PySem.W.findIn K (.ref C) "__class__"=some (some (.builtin "object.__class__"))
 gs:PySem.W.specialIn K (.builtin "object.__class__") "__get__"=some (some (.builtin "getset_descriptor.__get__"))
 tk:PySem.W.takesIn K (.builtin "object.__class__")=some true
 mo:PySem.W.mroIn K C (.type "object")=some true
 mb:PySem.W.mroIn K C (.type "BaseException")=some true
 ic:(PySem.W.clsIn K C).isSome=true
def Pu(x C:Addr)(h:Heap):Prop:=∃o,h.get? x=some o/\o.cls= .ref C
section
variable {prog:Program} {w:World} {A:Around} {E:Ti} {s:Shared} {K:W.Frag} {x C:Addr}
end
end L2
end
section
namespace L3
open PySem PySem.Spec PyProof.Rows L2
def HR{α:Type}(r:R3 α):R3 α:=match r with | .ex _ _=> .no | .ok a S=> .ok a S | .no=> .no
def IF(K:W.Frag)(cl:Tr)(E:XK)(ρ:P3)(H:Hp)(S':bc)(c:Nat):Prop:=∀cc H',Pre ρ H cc H'->SW K cl cc H' S'->E (.ref (cl c)) none H'
def Pz(K:W.Frag)(cl:Tr)(E:XK)(f:FX):TE:=fun σ H Q=>∃ρ S δ,dG K cl ρ H S σ δ/\((∃v S',f δ S= .ok v S'/\∀u cc H',Pre ρ H cc H'->SW K cl cc H' S'->bf K cc H' v u->Q u H')\/∃c S',f δ S= .ex c S'/\IF K cl E ρ H S' c)
def Me(K:W.Frag)(cl:Tr)(E:XK)(f:FA):TA:=fun σ H Q=>∃ρ S δ,dG K cl ρ H S σ δ/\((∃vs S',f δ S= .ok vs S'/\∀us cc H',Pre ρ H cc H'->SW K cl cc H' S'->aI K cc H' vs us->Q us H')\/∃c S',f δ S= .ex c S'/\IF K cl E ρ H S' c)
def N6(K:W.Frag)(cl:Tr)(E:XK)(F:FZ):TS:=fun D σ H=>∃ρ S δ,dG K cl ρ H S σ δ/\((∃o S',F δ S= .ok o S'/\yH K cl ρ H D S' o)\/∃c S',F δ S= .ex c S'/\IF K cl E ρ H S' c)
structure RZ (X:Cx) (cl:Tr) (E:XK) (e:Expr) (f:FX):Prop where
 go:PE X e (Pz X.K cl E f)
structure Qf (X:Cx) (cl:Tr) (E:XK) (es:List Expr) (f:FA):Prop where
 go:PA X es (Me X.K cl E f)
structure So (X:Cx) (cl:Tr) (E:XK) (st:Stmt) (F:FZ):Prop where
 go:PS X st (N6 X.K cl E F)
structure Q6 (X:Cx) (cl:Tr) (E:XK) (st:List Stmt) (F:FZ):Prop where
 go:r6 X st (N6 X.K cl E F)
section
variable {X:Cx} {cl:Tr} {E:XK}
def RU(f:FX):FX:=fun δ S=>HR (f δ S)
def QH(f:FA):FA:=fun δ S=>HR (f δ S)
def Sv(f:FZ):FZ:=fun δ S=>HR (f δ S)
def II(K:W.Frag)(cl:Tr)(n:Nat)(g:List V3->bc->R3 V3):Sp:=fun vs H Q E=>vs.length=n/\∃ρ S xs,SW K cl ρ H S/\aI K ρ H xs vs/\
 ((∃v S',g xs S= .ok v S'/\∀u cc H',Pre ρ H cc H'->SW K cl cc H' S'->bf K cc H' v u->Q u H')\/∃c S',g xs S= .ex c S'/\IF K cl E ρ H S' c)
def DU(P:Program)(w:World)(K:W.Frag)(mg:Tq)(base:Heap)(cl:Tr)(k:Nat)(x:Str)(n:Nat)(g:List V3->bc->R3 V3):Prop:=
 ∃(f:Addr) (fd:FuncData) (ps:List Str),gH P w K mg base (N7 P w) k f fd ps (II K cl n g)/\mg x=some (.ref f)/\PySem.W.keepIn K (.ref f)=true/\Binds K fd ps []
def Sk(f:FB):FB:=fun δ S=>HR (f δ S)
def L6(X:Cx)(E:XK):Prop:=∀(pins:Th) (σ:L2.St) (H:Hp) (s:Shared) (h':Heap) (a:Addr) (cls:Value) (vs:List Value),Inv X pins σ H s->Heap.MadeExcOf s.heap h' a cls vs->E cls none H->X.xe (.ref a) {s with heap:=h'}
def LM(c:Nat)(fs:FA):FZ:=fun δ S=>(fs δ S).bind fun vs S=>R3.aR (decide (vs.length<=sizeLine)) (.ex c S)
end
end L3
end
section
namespace L2
open PySem PySem.Spec PyProof.Rows
abbrev Cx.alt(X:Cx)(A:Around)(calm:Bool)(pn:Th)(xe:Ti):Cx:={X with A:=A,calm:=calm,pn:=pn,xe:=xe}
section
variable {X:Cx} {pins BW:Th} {σ:St} {H H1 H':Hp} {s s1 s':Shared}
end
end L2
namespace L3
open PySem PySem.Spec PyProof.Rows L2
section
variable {X:Cx} {cl:Tr}
def QM(F:FZ)(ok:Nat->Bool)(i:Nat)(G:FZ):FZ:=fun δ S=>match F δ S with
 | .ok o S'=> .ok o S'
 | .ex c S'=>R3.aR (ok c) ((HR (G ((List.replicate δ.length none).set i (some (.loc S'.length))) (S'++[.exc c]))).bind fun o S2=>match o with | .nx df=> .ok (.nx (df.set i none)) S2 | .rt v=> .ok (.rt v) S2)
 | .no=> .no
end
end L3
end
section
namespace L2
open PySem PySem.Spec PyProof.Rows
def vP:V->Bool | .ref _=>true | .ty _=>true | _=>false
def Hy:V->Value | .ref a=> .ref a | .ty n=> .type n | _=> .none
section
variable {X:Cx}
def QU(K:W.Frag):List V->Hp->VK->Prop:=fun xs H Q=>∃a b C cv k,xs=[V.ref a,cv]/\H a=some (.ext (L3.isExc C b))/\XC K C/\vP cv=true/\PySem.W.kitOne K (.ref C) (Hy cv)=some k/\Q (.bl k) H
def Px(K:W.Frag):List V->Hp->VK->Prop:=fun xs H Q=>∃cv k,xs=[V.cu,cv]/\vP cv=true/\PySem.W.kitOne K (.type "NoneType") (Hy cv)=some k/\Q (.bl k) H
def P5(K:W.Frag):List V->Hp->VK->Prop:=fun xs H Q=>∃a b C tp J0 k,xs=[V.ref a,V.ref tp]/\H a=some (.ext (L3.isExc C b))/\XC K C/\H tp=some (.tup J0)/\J0.all vP=true/\PySem.W.kitAny K (.ref C) (J0.map Hy)=some k/\Q (.bl k) H
end
end L2
namespace L3
open PySem PySem.Spec PyProof.Rows L2
section
variable {X:Cx} {cl:Tr} {E:XK}
def OJ(f:FX)(tb:Nat->Option Bool):FX:=fun δ S=>(f δ S).bind fun v S1=>match v with
 | .loc k=>(match S1[k]? with | some (.exc c)=>(match tb c with | some b=> .ok (.d (.bl b)) S1 | none=> .no) | _=> .no)
 | .d .cu=> .ok (.d (.bl false)) S1
 | _=> .no
def Qj(f:FX)(tb:Nat->Option Bool):FX:=fun δ S=>(f δ S).bind fun v S1=>match v with
 | .loc k=>(match S1[k]? with | some (.exc c)=>(match tb c with | some b=> .ok (.d (.bl b)) S1 | none=> .no) | _=> .no)
 | _=> .no
def SE(J0:List V):TA:=fun _ H Q=>Q J0 H
end
end L3
end
section
namespace L3
open PySem PySem.Spec PyProof.Rows L2
section
variable {α β:Type} {S S':bc} {δ:DE} {c:Nat}
end
end L3
end
section
namespace L3
open PySem PySem.Spec PyProof.Rows L2
def R7(K:W.Frag)(mg:Tq)(x:Str):Prop:=∃f,PySem.W.nsIn K mainGlobals x=some (some (.ref f))/\mg x=some (.ref f)
section
variable {X:Cx} {cl:Tr} {E:XK}
def SQ(x:Str):FX:=fun _ S=> .ok (.fn x) S
abbrev GT:=List (Str × (List V3->bc->R3 V3))
def Ft(P:Program)(w:World)(K:W.Frag)(mg:Tq)(base:Heap)(cl:Tr)(j n:Nat)(l:GT):Prop:=∀x g,l.lookup x=some g->∃k,k<=j/\DU P w K mg base cl k x n g
def Li(i:Nat)(l:GT)(fs:FA):FX:=fun δ S=>match δ[i]? with
 | some (some (.fn x))=>(match l.lookup x with | some g=>(fs δ S).bind g | none=> .no)
 | _=> .no
end
end L3
end
section
namespace HT
open PySem PySem.Spec PyProof.Rows
section
variable {prog:Program} {w:World} {A:Around} {E:Ti} {s:Shared}
end
end HT
namespace L2
open PySem PySem.Spec PyProof.Rows
def um:D->Option Key
 | .int n=>some (Sum.inl n)
 | .str x=>some (Sum.inr x)
 | _=>none
theorem mi{K:W.Frag}{B:List Addr}{d:D}{k:Key}{v:V}(h:um d=some k)(r:Rep K B H d v):v=kV k:=by
 cases d with
 | int n=>cases h;exact Rep.int.mp r
 | str x=>cases h;exact Rep.str.mp r
 | cu=>cases h
 | bl b=>cases h
 | lst ds=>cases h
 | tup ds=>cases h
 | dct ks ds=>cases h
def jx(ks:List Key)(k:Key):Bool:=ks.any fun x=>decide (x=k)
def D1(ks:List Key)(ds:List D)(k:Key):Option D:=((ks.zip ds).find? fun p=>decide (p.1=k)).map (·.2)
theorem wQ(kvs:List (Key × V))(k:Key):(eY kvs k).isSome=jx (kvs.map (·.1)) k:=by
 unfold eY jx;rw[Option.isSome_map,Bool.eq_iff_iff,List.find?_isSome,List.any_eq_true];constructor
 .rintro⟨x,h1,h2⟩;exact⟨x.1,List.mem_map_of_mem h1,h2⟩
 .rintro⟨x,h1,h2⟩;obtain⟨y,y1,rfl⟩:=List.mem_map.mp h1;exact⟨y,y1,h2⟩
def vH(a b:D):R D:=match b with
 | .dct ks _=>(match um a with | some k=> .ok (.bl (jx ks k)) | none=> .no)
 | _=> .no
def D8(a b:D):R D:=match b with
 | .dct ks _=>(match um a with | some k=> .ok (.bl (!jx ks k)) | none=> .no)
 | _=> .no
def xr(d k:D):R D:=match d with
 | .dct ks ds=>(match um k with | some k=>(match D1 ks ds k with | some x=> .ok x | none=> .no) | none=> .no)
 | _=> .no
section
variable {X:Cx}
theorem zC(hu:X.A.units+1 < cLine):kH X (compareOp .In) vH:=by
 intro pins s σ H B da db d x y v u I hb rx ry ra rb hg;unfold vH at hg;split at hg
 .split at hg
  .rename_i ks ds k hk;cases hg;obtain⟨a,kvs,rfl,⟨_,hH⟩,rfl,rs⟩:=rb;have:=mi hk ra;subst this;obtain rfl:u=Value.ref a:=ry;refine KL hu I (jw.k hH) rx fun s3 I3=>⟨.bl (jx (kvs.map (·.1)) k),H,I3,?_,aP.refl H,Rep.bl.mpr rfl⟩
   rw[wQ];rfl
  .cases hg
 .cases hg
theorem JK(hu:X.A.units+1 < cLine):kH X (compareOp .NotIn) D8:=by
 intro pins s σ H B da db d x y v u I hb rx ry ra rb hg;unfold D8 at hg;split at hg
 .split at hg
  .rename_i ks ds k hk;cases hg;obtain⟨a,kvs,rfl,⟨_,hH⟩,rfl,rs⟩:=rb;have:=mi hk ra;subst this;obtain rfl:u=Value.ref a:=ry;refine CQ hu I (jw.k hH) rx fun s3 I3=>⟨.bl (!jx (kvs.map (·.1)) k),H,I3,?_,aP.refl H,Rep.bl.mpr rfl⟩
   rw[wQ];rfl
  .cases hg
 .cases hg
theorem zh(hu:X.A.units+1 < cLine)(ho:QD X o f)(hi:QD X i g)(hs:Fz i):QD X (.Subscript o i pos) (e2 xr f g):=by
 refine⟨(DL hu ho.1 hi.1 hs).imp fun σ H Q ⟨Z,B,δ,d,E,hf,q⟩=>?_⟩
 obtain⟨d1,h1,h2⟩:=R.ak hf;obtain⟨d2,h3,h4⟩:=R.ak h2;refine⟨Z,B,δ,d1,E,h1,fun v1 H1 s1 r1=>⟨Z,B,δ,d2,E.same s1,h3,fun v2 H2 s2 r2=>?_⟩⟩
 unfold xr at h4;split at h4
 .split at h4
  .rename_i ks ds k hk;split at h4
   .rename_i x e;cases h4;have vi:=r1.same s2;obtain⟨a,kvs,rfl,⟨_,hH⟩,rfl,rs⟩:=vi;obtain⟨p,e1,e2⟩:=L3.fk e;obtain⟨y,ey,ry⟩:=ny rs e1;have ry:Rep X.K B H2 _ y:=e2▸ry;refine⟨a,y,rfl,?_,q _ H2 (s1.trans s2) ry⟩;rw[mi hk r2,<-ey];exact jw.k hH
   .cases h4
  .cases h4
 .cases h4
def NK(f:FD):FD:=fun δ=>(f δ).bind fun d=>match d with | .tup ds=> .ok (.tup ds.reverse) | _=> .no
theorem rK(l:Addr)(items:Array Value)(n:Nat)(b:Addr)(gr:Array Value)(n2:Nat)(o:Obj)(HM:o.cls= .type "tuple")(MA:o.data= .seq gr n2)(RJ:¬(!items.isEmpty && Builtin.List.listTooLong (items.size+gr.size))=true)(Kz:items.size<=sizeLine)(hs2:items.size+gr.size<=sizeLine+1) :
 Meets (Builtin.«list.extend» ⟨[.ref l, .ref b],[]⟩) (fun _ R s=>s.heap.get? l=some {cls:= .type "list",dict:=none,data:= .seq items n,slots:=#[]}/\s.heap.get? b=some o/\R (.ok (.ret Value.none)) {s with heap:=s.heap.update l (Obj.mapSeq fun x=>x++gr),toks:=s.toks}):=
 .of_wp fun prog w A R s h=>by
   obtain⟨cls,dct,data,slots⟩:=o;subst HM MA;obtain⟨hp,g,d,tk,os⟩:=s;obtain⟨hl,hb,h⟩:=h;have hz':(items++gr).size<=sizeLine+1:=by rw[Array.size_append];exact hs2
   wp_walk using(wpAny_updateSeq hl rfl),AutoSeq1.wpAny_loadPart' hl,AutoSeq1.wpAny_loadPart' hb;exact⟨_,rfl,h⟩
theorem extend_list(l:Addr)(items:Array Value)(n:Nat)(b:Addr)(gr:Array Value)(n2:Nat)(o:Obj)(HM:o.cls= .type "list")(MA:o.data= .seq gr n2)(RJ:¬(!items.isEmpty && Builtin.List.listTooLong (items.size+gr.size))=true)(Kz:items.size<=sizeLine)(hs2:items.size+gr.size<=sizeLine+1) :
 Meets (Builtin.«list.extend» ⟨[.ref l, .ref b],[]⟩) (fun _ R s=>s.heap.get? l=some {cls:= .type "list",dict:=none,data:= .seq items n,slots:=#[]}/\s.heap.get? b=some o/\R (.ok (.ret Value.none)) {s with heap:=s.heap.update l (Obj.mapSeq fun x=>x++gr),toks:=s.toks}):=
 .of_wp fun prog w A R s h=>by
   obtain⟨cls,dct,data,slots⟩:=o;subst HM MA;obtain⟨hp,g,d,tk,os⟩:=s;obtain⟨hl,hb,h⟩:=h;have hz':(items++gr).size<=sizeLine+1:=by rw[Array.size_append];exact hs2
   wp_walk using(wpAny_updateSeq hl rfl),AutoSeq1.wpAny_loadPart' hl,AutoSeq1.wpAny_loadPart' hb;exact⟨_,rfl,h⟩
theorem wg:KG X "list.extend" (fun x vs H Q=>∃l b xs zs,x= .ref l/\vs=[.ref b]/\H l=some (.lst xs)/\(∃t,Ds t X.K H b zs)/\xs.length+zs.length<=sizeLine/\Q .cu (upd H l (.lst (xs++zs)))):=by
 intro pins s σ H x vs v us Q I rx rv h;obtain⟨l,b,xs,zs,rfl,rfl,hH,⟨t,hB⟩,hz,q⟩:=h;cases rx;obtain⟨u,rfl,ru⟩:=rv.one;cases ru;obtain⟨z,its,n,r,hl,e⟩:=I.Ai hH;obtain⟨lN,r2,e2⟩:=I.L_ hB;have HN:=r2.length;have hsz:its.toArray.size+lN.toArray.size<=sizeLine:=by rw[List.size_toArray,List.size_toArray];omega
 have hlong:¬(!its.toArray.isEmpty && Builtin.List.listTooLong (its.toArray.size+lN.toArray.size))=true:=by
  rw[px hsz,Bool.and_false];exact Bool.false_ne_true
 cases t with
 | true=>
   obtain⟨o,o1,o2,n2,o3⟩:=(show s.heap.IsTuple b lN.toArray from e2)
   refine call_meets F.slot_list_extend ⟨_,e,rfl⟩ F.entry_list_extend (F.args_list_extend_2 _ _)
    (rK l its.toArray n b lN.toArray n2 o o2 o3 hlong (by rw[List.size_toArray];omega) (by omega)) ⟨e,o1,?_⟩
   refine⟨.cu,_,I.Ck hH e (by simp) (r.append r2) ?_,rfl,q⟩
   rw[List.length_append];omega
 | false=>
   obtain⟨o,o1,o2,n2,o3⟩:=(show s.heap.IsList b lN.toArray from e2)
   refine call_meets F.slot_list_extend ⟨_,e,rfl⟩ F.entry_list_extend (F.args_list_extend_2 _ _)
    (extend_list l its.toArray n b lN.toArray n2 o o2 o3 hlong (by rw[List.size_toArray];omega) (by omega)) ⟨e,o1,?_⟩
   refine⟨.cu,_,I.Ck hH e (by simp) (r.append r2) ?_,rfl,q⟩
   rw[List.length_append];omega
def q_(i:Nat)(f:FD):FS:=fun δ=>(f δ).bind fun d=>match seqD? d with
 | some es=>(ph δ i).bind fun ds=>R.aR (decide (ds.length+es.length<=sizeLine)) (.ok (.nx (δ.set i (.bld (ds++es)))))
 | none=> .no
theorem mM{i:Nat}{x:Str}{e:Expr}{f:FD}{eZ apos bL pos:Pos}(he:QD X e f)(hd:(x==("__debug__":Str))=false:=by decide)(nR:(x==("__classdict__":Str))=false:=by decide)(hs:starEach [e] X.env=(false,eval e X.env) ::starEach [] X.env:=by rfl)(gz:(apos.endLine==bL.line)=true:=by rfl)(lK:((backTo bL (starEach [e] X.env)).all (fun x=>!x.1) && (backToKw bL (keywordEach [] X.env)).all (fun x=>x.1.isSome)
 && decide (([e]:List Expr).length+([]:List Keyword).length+(if([]:List Keyword).isEmpty then 0 else 1) < 30))=true:=by rfl) (ve:swapsWith (.Call (.Attribute (.Name x eZ) "extend" apos) [e] [] bL) none pos.line X.env=pure false:=by rfl) (gA:attributeBase (.Name x eZ) "extend" X.env (eval (.Name x eZ) X.env)=eval (.Name x eZ) X.env:=by rfl) (hN:X.N[i]? =some x:=by rfl) (hv:B4 X.env.scope x:=by first | exact Or.inl rfl | exact Or.inr (Or.inl rfl) | exact Or.inr (Or.inr rfl)) :
 Az X (.Expr (.Call (.Attribute (.Name x eZ) "extend" apos) [e] [] bL) pos) (q_ i f):=by
 refine⟨(nX (yb PySem.F.plainAttrs_list PySem.F.slot_list_extend PySem.F.type_list_extend wg (m3 hN hv hd nR) (dH he.1 gn hs) gA lK gz hs) ve).imp fun D σ H ⟨Z,B,δ,o,E,hf,q⟩=>?_⟩
 obtain⟨d,h1,h2⟩:=R.ak hf;split at h2
 .rename_i es he;obtain⟨ds,h3,h4⟩:=R.ak h2;obtain⟨hl,h5⟩:=R.aW h4;cases h5;have hb:=uY h3;obtain⟨a,xs,q1,q2,q3,q4,q5⟩:=E.bld i ds hb;refine⟨.ref a,q1, .inl ⟨rfl,xs,lD.of q4⟩,⟨Z,B,δ,d,E,h1,fun v H1 s1 r1=>?_⟩⟩
  have E1:=E.same s1;obtain⟨t,b,ys,rfl,k1⟩:=r1.L_ he;obtain⟨l,r'⟩:=k1 B H1 (cW.refl B H1);refine⟨a,b,xs,ys,rfl,rfl,s1 a _ q4,⟨_,l⟩,by rw[<-q5.length,<-r'.length];exact of_decide_eq_true hl,?_⟩
  obtain⟨E2,p2⟩:=E1.grow hb q1 q2 (s1 a _ q4) ((q5.same s1).append r');exact q σ B _ ((Ev.same E.zb s1).trans (Ev.grow E.zb q3 p2)) E2
 .cases h2
theorem t_{lo:Int}{n:Nat}{acc:Array Value}(h:ItemsOf (fun i v=>∃t,v=Value.int (lo+(i:Int)*1) t) acc n):Vals ((List.range n).map fun(i:Nat)=>V.int (lo+(i:Int))) acc.toList:=by
 obtain⟨hl,h⟩:=h;have gen:∀(l:List Value) (m:Nat),(∀j v,l[j]? =some v->∃t,v=Value.int (lo+((m+j:Nat):Int)) t)->Vals ((List.range' m l.length).map fun(i:Nat)=>V.int (lo+(i:Int))) l:=by
  intro l
  induction l with
  | nil=>intro m _;exact .nil
  | cons v l ih=>
    intro m hm;obtain⟨t,ht⟩:=hm 0 v rfl;refine .cons ⟨t,by rw[ht];simp⟩ (ih (m+1) fun j w hw=>?_)
    obtain⟨t,ht⟩:=hm (j+1) w (by simpa using hw)
    exact⟨t,by rw[ht];congr 2;omega⟩
 have:=gen acc.toList 0 fun j v hv=>by
  obtain⟨t,ht⟩:=h j v (by simpa using hv)
  exact⟨t,by rw[ht];simp⟩
 rw[Array.length_toList,hl] at this;rw[List.range_eq_range'];exact this
theorem qI{K:W.Frag}{B:List Addr}{lo:Int}:∀l:List Nat,aC K B H (l.map fun(i:Nat)=>D.int (lo+(i:Int))) (l.map fun(i:Nat)=>V.int (lo+(i:Int)))
 | []=>aC.nil
 | i ::l=>aC.cons (Rep.int.mpr rfl) (qI l)
def ux(f g:FD):aq->R (List D):=fun δ=>(f δ).bind fun d=>(g δ).bind fun e=>match d,e with
 | .int i, .int j=>R.aR (decide (-(2 ^ 62)<=i/\i < 2 ^ 62/\ -(2 ^ 62)<=j/\j < 2 ^ 62/\j - i < 16777216)) (.ok (jl i (j - i).toNat))
 | _,_=> .no
theorem uA{a b:Expr}{f g:FD}{p p2 pos qw:Pos}(hc:X.calm=true)(h:QD X a f)(h':QD X b g)(hg:Gl X "list")(hm:X.mg "list"=none)(Ei:Gl X "range")(EZ:X.mg "range"=none)(hs:starEach [a,b] X.env=(false,eval a X.env) ::starEach [b] X.env:=by rfl)(Kz:starEach [b] X.env=[(false,eval b X.env)]:=by rfl)
 (hs2:starEach [.Call (.Name "range" p2) [a,b] [] qw] X.env=(false,eval (.Call (.Name "range" p2) [a,b] [] qw) X.env) ::starEach [] X.env:=by rfl) (j5:(backTo pos (starEach [] X.env)).any (·.1)=false:=by rfl) :
 QN X (.Call (.Name "list" p) [.Call (.Name "range" p2) [a,b] [] qw] [] pos) (ux f g):=by
 refine⟨?_⟩;intro pins s σ H Q I ⟨Z,B,δ,ds,E,hf,q⟩;obtain⟨d1,h1,h2⟩:=R.ak hf;obtain⟨d2,h3,h4⟩:=R.ak h2;have key:∃i j:Int,d1= .int i/\d2= .int j/\(-(2 ^ 62)<=i/\i < 2 ^ 62/\ -(2 ^ 62)<=j/\j < 2 ^ 62/\j - i < 16777216)/\ds=jl i (j - i).toNat:=by
  split at h4
  .obtain⟨h5,h6⟩:=R.aW h4;cases h6;exact⟨_,_,rfl,rfl,of_decide_eq_true h5,rfl⟩
  .cases h4
 obtain⟨i,j,rfl,rfl,⟨OC,OB,RN,RH,S5⟩,rfl⟩:=key;refine wpAny_Call_Name_kw (fQ I hg hm boot_list ?_ (by decide) (by decide))
 refine PyProof.Rows.callWith_type1 ?_ hs2 j5;refine Calls.spliced_cons ?_;have hA:=dH h.1 (dH h'.1 gn Kz) hs qw pins s σ H (fun vs H1=>aP H H1/\vs=[.int i, .int j]) I ⟨Z,B,δ, .int i,E,h1,fun v H1 s1 r1=>⟨Z,B,δ, .int j,E.same s1,h3,fun v2 H2 s2 r2=>⟨s1.trans s2,by rw[Rep.int.mp r1,Rep.int.mp r2]⟩⟩⟩
 refine Call_ (fQ I Ei EZ boot_range (PyProof.Rows.callWith_type1 (dc hA fun us s1 ⟨vs,H1,I1,r1,ss,ev⟩=>?_) (by rw[hs]) (by rw[Kz];rfl)))
 subst ev;cases r1 with
 | cons r rr=>
 cases rr with
 | cons r' rr=>
 cases rr;obtain⟨t,rfl⟩:=r;obtain⟨t',rfl⟩:=r';refine call_range_2 ?_;have I2:Inv X pins σ H1 {s1 with heap:=s1.heap.push {cls:= .type "range",data:= .fields #[.int i t, .int j t', .int 1 s1.toks]},toks:=s1.toks+1}:=I1.kept fun b o e=>Heap.get?_push_of_some _ e
 refine Calls.spliced_nil ?_;have hsz:Builtin.Range.rangeSize i j 1=((j - i).toNat:Nat):=by rw[rangeSize_one];split <;> omega
 have hz:sizeLine=16777216:=sizeLine_eq;refine call_list_range (I2.ok.hd hc) (IsRange.new ..) (small_one OC OB RN RH) hsz (by omega) fun h' tk acc c' hk HD HF=>?_
 have rv:=t_ HF;have hle:((List.range (j - i).toNat).map fun(k:Nat)=>V.int (i+(k:Int))).length<=sizeLine:=by rw[List.length_map,List.length_range];omega
 have Eg:H1 (s1.heap.push {cls:= .type "range",data:= .fields #[.int i t, .int j t', .int 1 s1.toks]}).objs.size=none:=I2.hok.fresh (Nat.le_refl _);have I4:=I2.laid (t':=tk) hk (Nat.le_refl _) (show cB X.prog X.w _ _ _ (.lst _) from⟨hle,acc.toList,c',rv,by simpa using HD⟩)
 exact⟨.ref _,_,I4,rfl,q _ _ _ (ss.trans (aT Eg)) (ss.free Eg) aU (qI _)⟩
end
end L2
namespace L3
open PySem PySem.Spec PyProof.Rows L2
section
variable {X:Cx} {cl:Tr}
def Nd(i:Nat)(f:FX):FZ:=fun δ S=>match e_ δ i with
 | none=> .no
 | some k=>match cZ S k with
   | none=> .no
   | some _=>(f δ S).bind fun v S1=>match v with
     | .d d=>(match seqD? d with
       | some es=>(match cZ S1 k with
         | some ds=>R3.aR (decide (ds.length+es.length<=sizeLine)) (.ok (.nx δ) (S1.set k (.lst (ds++es))))
         | none=> .no)
       | none=> .no)
     | _=> .no
def rE(fo fi fe:FX):FZ:=fun δ S=>(fe δ S).bind fun v S1=>(fo δ S1).bind fun o S2=>(fi δ S2).bind fun j S3=>match v,o,j with
 | .d d, .loc k, .d n=>(match me S3 k,um n with | some kvs,some key=>R3.aR (decide (kvs.length < sizeLine)) (.ok (.nx δ) (S3.set k (.dct (o7 kvs key d)))) | _,_=> .no)
 | _,_,_=> .no
theorem uf{pos pos':Pos}(hu:X.A.units+1 < cLine)(hv:PX X cl value fe)(ho:PX X cl o fo)(hi:PX X cl i fi)(hs:swapsWith value (some (.Subscript o i pos')) pos.line X.env=pure false:=by rfl):PZ X cl (.Assign [.Subscript o i pos'] value pos) (rE fo fi fe):=
 ⟨(xE hu ho.1 hi.1 hv.1 hs).imp fun D σ H ⟨ρ,S,δ,ou,S',E,hf,q⟩=>by
   obtain⟨v,S1,h1,h2⟩:=R3.ak hf;obtain⟨o,S2,h3,h4⟩:=R3.ak h2;obtain⟨j,S3,h5,h6⟩:=R3.ak h4;refine⟨ρ,S,δ,v,S1,E,h1,fun u1 cD H1 p1 w1 r1=>⟨cD,S1,δ,o,S2,E.to p1 w1,h3,fun u2 sY H2 p2 w2 r2=>⟨sY,S2,δ,j,S3,(E.to p1 w1).to p2 w2,h5,fun u3 E6 H3 p3 w3 r3=>?_⟩⟩⟩
   split at h6
   .rename_i d k n;split at h6
    .rename_i kvs key hd hn;obtain⟨hl,h7⟩:=R3.aW h6;cases h7;have r2':=r2.pre p3;obtain⟨a,a1,rfl⟩:=r2';have:=mi hn r3;subst this;obtain⟨ys,y1,y2,y3⟩:=w3.ob k a _ a1 (oR hd);have vi:=(r1.pre p2).pre p3;obtain⟨e1,iG⟩:=JO vi y2 y3;have hll:ys.length=kvs.length:=by have:=congrArg List.length y2;simpa using this
     refine⟨a,_,rfl,rX.k y1 (by rw[hll];exact of_decide_eq_true hl),?_⟩
     obtain⟨w4,p4⟩:=w3.put (o:= .dct (o7 kvs key d)) a1 (w3.fz k a a1 (by rw[oR hd];intro h;cases h)) ⟨_,rfl,e1,iG⟩
     exact q σ E6 _ (p1.trans (p2.trans (p3.trans p4))) (E.to (p1.trans (p2.trans (p3.trans p4))) w4)
    .cases h6
   .cases h6⟩
theorem wW{fo fi fe:FX}{δ:DE}{S:bc}{QO:Ou->bc->Prop}(h:W3 (fe δ S) fun v S1=>W3 (fo δ S1) fun o S2=>W3 (fi δ S2) fun j S3=>∃d k n key kvs,v= .d d/\o= .loc k/\j= .d n/\um n=some key/\S3[k]? =some (.dct kvs)/\kvs.length < sizeLine/\QO (.nx δ) (S3.set k (.dct (o7 kvs key d)))):W3 (rE fo fi fe δ S) QO:=
 W3.bind (h.mono fun _ _ h=>W3.bind (h.mono fun _ _ h=>W3.bind (h.mono fun _ S3 ⟨d,k,n,key,kvs,e1,e2,e3,e6,e4,hl,q⟩=>by
  subst e1 e2 e3;have e5:me S3 k=some kvs:=by unfold me;simp only[e4]
  simp only[e5,e6];exact W3.wh (decide_eq_true hl) (W3.ok q))))
end
end L3
end
section
namespace PySem.W
open PySem PySem.Calls PyProof.Rows
def EH{α:Type}(n:Nat)(lt:Nat->Nat->Bool):KasT α->Option α
 | .ret a=>some a
 | .ask i j k=>if i < n/\j < n then EH n lt (k (lt i j)) else none
section
variable {prog:Program} {w:World} {A:Around} {E:Ti} {s:Shared} {a:Addr} {vs:List Value} {κ:SortKind}
abbrev Pq(h:Heap)(a:Addr)(vs:List Value):Heap:=((h.update a (Obj.mapSeq fun _=>(#[]:Array Value))).push (seqObj "tuple" vs.toArray 0)).push (seqObj "list" #[] 0)
end
end PySem.W
namespace L2
open PySem PySem.Spec PyProof.Rows
def Pc:D->Option (Int × List Int)
 | .tup [.int a, .tup zs]=>(ints? zs).map fun ns=>(a,ns)
 | _=>none
def Ir:List D->Option (List (Int × List Int))
 | []=>some []
 | d ::ds=>(Pc d).bind fun p=>(Ir ds).map (p ::·)
def QC(x y:Int × List Int):Bool:=if x.1=y.1 then(if x.2=y.2 then false else HT.lexLt x.2 y.2) else decide (x.1 < y.1)
def LO(ps:List (Int × List Int)):Option (Array Nat):=PySem.W.EH ps.length (fun i j=>QC (ps.getD i (0,[])) (ps.getD j (0,[]))) (PySem.W.kas_sort ps.length)
def LJ:List D->R D
 | [.lst ds]=>(match Ir ds with
   | some ps=>R.aR (decide (2<=ps.length/\ps.length < 64)) (match LO ps with | some p=>R.aR (p.toList.all (fun i=>decide (i < ps.length)) && decide (p.toList.length < 64)) (.ok (.lst (p.toList.map fun i=>ds.getD i .cu))) | none=> .no)
   | none=> .no)
 | _=> .no
def Qt(h:Heap)(v:Value)(p:Int × List Int):Prop:=
 ∃(x b:Addr) (t:Tok) (n:Nat) (o:Obj) (its:Array Value),v= .ref x/\h.get? x=some o/\o.cls= .type "tuple"/\o.data= .seq #[.int p.1 t, .ref b] n/\IsTup h b its/\IntsAre its.toList p.2
section
variable {X:Cx}
end
end L2
end
section
namespace L2
open PySem PySem.Spec PyProof.Rows
def wZ(d a:D):Bool:=PyData.eqv (toPy d) (toPy a)
def zt(d:D):Bool:=c8 d && (toPy d).canLay0 && decide ((toPy d).depth<=8)
def N_(a b:D):R Bool:=match seqD? b with
 | some ds=>R.aR (zt a && ds.all zt) (.ok (ds.any fun d=>wZ d a))
 | none=> .no
def Qz(a b:D):R D:=(N_ a b).bind fun x=> .ok (.bl x)
def Ql(a b:D):R D:=(N_ a b).bind fun x=> .ok (.bl (!x))
section
variable {X:Cx}
open Classical in
def GP(h:Heap)(a:D)(y:Value):Bool:=decide (∃d as,Reads h y (toPy d) as/\(toPy d).canLay0=true/\wZ d a=true)
open Classical in
theorem zQ{a d:D}{y:Value}{as:List Addr}(r:Reads h y (toPy d) as)(hl:(toPy d).canLay0=true):GP h a y=wZ d a:=by
 unfold GP;cases q:wZ d a with
 | true=>exact decide_eq_true ⟨d,as,r,hl,q⟩
 | false=>
   refine decide_eq_false fun⟨d',Ov,r',hl',q'⟩=>?_
   have:=SeqAt.Reads.unique _ _ y as Ov hl r r';unfold wZ at q q';rw[<-this,q] at q';cases q'
theorem km{d:D}(h:zt d=true):c8 d=true/\(toPy d).canLay0=true/\(toPy d).depth<=8:=by
 obtain⟨h1,h2⟩:=Bool.and_eq_true_iff.mp h;obtain⟨h3,h4⟩:=Bool.and_eq_true_iff.mp h1;exact⟨h3,h4,of_decide_eq_true h2⟩
theorem xh{pins:Th}{s:Shared}{B:List Addr}(I:Inv X pins σ H s){a:D}:∀{ds:List D} {xs:List V} {us:List Value},ds.all zt=true->aC X.K B H ds xs->Vals xs us->
 us.any (GP s.heap a)=ds.any (fun d=>wZ d a)/\∀u∈us,∃d as,zt d=true/\Reads s.heap u (toPy d) as/\GP s.heap a u=wZ d a
 | [],xs,us,_,r,rv=>by
   subst r;cases rv;exact⟨rfl,fun u hu=>by cases hu⟩
 | d ::ds,xs,us,hk,r,rv=>by
   rw[List.all_cons,Bool.and_eq_true] at hk;obtain⟨x,Oy,rfl,r1,r2⟩:=r.bX;cases rv with
   | cons u rv=>
     obtain⟨i1,i2⟩:=xh I hk.2 r2 rv;obtain⟨p1,p2,p3⟩:=km hk.1;obtain⟨as,ra⟩:=r1.reads I p1 u;have e:=zQ (a:=a) ra p2;refine⟨by rw[List.any_cons,List.any_cons,e,i1],fun u' hu=>?_⟩
     rcases List.mem_cons.mp hu with rfl | hu
     .exact⟨d,as,hk.1,ra,e⟩
     .exact i2 u' hu
end
end L2
end
section
set_option maxHeartbeats 1000000
namespace L3
open PySem PySem.Spec PyProof.Rows L2
section
variable {X:Cx} {cl:Tr}
def Nf(i:Nat)(F:FZ):FZ:=fun δ S=>match e_ δ i with
 | some k=>(match S[k]? with | some (.dct kvs)=>F (δ.set i (some (.d (.dct (kvs.map (·.1)) (kvs.map (·.2)))))) (S.set k .ft) | _=> .no)
 | none=> .no
end
end L3
end
section
set_option maxHeartbeats 3200000
namespace PySem.W
open PySem PySem.Calls PyProof.Rows
namespace F2
end F2
section
variable {prog:Program} {w:World} {A:Around} {E:Ti} {s:Shared}
end
section
variable {prog:Program} {w:World} {K:Type} [DecidableEq K] {knd:KeyKind prog w K} {A:Around} {s:Shared}
def L8(knd:KeyKind prog w K)(h:Heap)(v:Value)(q:K × Value):Prop:=
 ∃(x:Addr) (n:Nat) (o:Obj) (kv:Value),v= .ref x/\h.get? x=some o/\o.cls= .type "tuple"/\o.data= .seq #[kv,q.2] n/\knd.is q.1 kv=true
def fills(qs:List (K × Value))(kvs:List (K × Value)):List (K × Value):=qs.foldl (fun acc q=>stored acc q.1 q.2) kvs
end
end PySem.W
namespace L2
open PySem PySem.Spec PyProof.Rows
def Qp:D->Option (Key × D)
 | .tup [a,b]=>(um a).map fun k=>(k,b)
 | _=>none
def JE:List D->Option (List (Key × D))
 | []=>some []
 | d ::ds=>(Qp d).bind fun p=>(JE ds).map (p ::·)
def EE(qs:List (Key × D))(kvs:List (Key × D)):List (Key × D):=qs.foldl (fun acc q=>L3.o7 acc q.1 q.2) kvs
def KY:List D->R D
 | [.lst ds]=>(match JE ds with
   | some qs=>R.aR (decide (ds.length<=1000000)) (.ok (.dct ((EE qs []).map (·.1)) ((EE qs []).map (·.2))))
   | none=> .no)
 | _=> .no
section
variable {X:Cx}
end
end L2
end
section
set_option maxHeartbeats 1000000
namespace L3
open PySem PySem.Spec PyProof.Rows L2
def SM(g:List V3->bc->R3 V3):List V3->bc->R3 V3:=fun vs S=>match g vs S with
 | .ok v S'=>(match res S' v with
   | some d=>R3.aR ((S'.take S.length).all (uJ S.length) && gI S.length v) (.ok (.d d) (S'.take S.length))
   | none=> .no)
 | .ex c S'=>R3.aR ((S'.take S.length).all (uJ S.length)) (.ex c (S'.take S.length))
 | .no=> .no
section
variable {X:Cx} {cl:Tr} {E:XK}
def PR(f:FX):FX:=fun δ S=>(f δ S).bind fun v S1=>match v with | .d (.bl b)=> .ok (.d (.bl (!b))) S1 | _=> .no
def QL(K:W.Frag)(cl:Tr)(E:XK)(ρ:P3)(H:Hp)(D:Ends)(r:R3 Ou):Prop:=match r with
 | .ok o S'=>yH K cl ρ H D S' o
 | .ex c S'=>IF K cl E ρ H S' c
 | .no=>False
def RY(f:FA):FA:=fun δ S=>HR (f δ S)
def Nl(P:Program)(w:World)(K:W.Frag)(mg:Tq)(base:Heap)(cl:Tr)(k c:Nat)(m:Str)(n:Nat)(g:List V3->bc->R3 V3):Prop:=
 ∃(f:Addr) (fd:FuncData) (ps:List Str),CC K (cl c)/\Meth K (cl c) m f/\gH P w K mg base (N7 P w) k f fd ps (II K cl (n+1) g)/\Binds K fd ps []
def WE{α:Type}(r:R3 α)(Q:α->bc->Prop)(Y:Nat->bc->Prop):Prop:=(∃a S,r= .ok a S/\Q a S)\/∃c S,r= .ex c S/\Y c S
section
variable {α β:Type} {S:bc} {δ:DE} {Y:Nat->bc->Prop}
end
end
end L3
end
section
namespace L2
open PySem PySem.Spec PyProof.Rows
def gK(ks:List (Str × Int)):List (Key × V):=ks.map fun p=>(Sum.inr p.1,V.int p.2)
def NL(P:Program)(w:World)(K:W.Frag)(mg:Tq)(x:Str)(ks:List (Str × Int)):Prop:=∃a,mg x=some (.ref a)/\∀(H:Hp) (h:Heap),K.In h->cB P w H h a (.dK (gK ks))
def Qy(w:World)(es:List (Str × Tok × Int × Tok)):List DictEntry:=es.map fun e=>⟨hashStr w e.1, .str e.1 e.2.1, .int e.2.2.1 e.2.2.2⟩
section
variable {X:Cx}
def Kt(ks:List (Str × Int))(d:D):R Bool:=match d with | .str x=> .ok (ks.lookup x).isSome | _=> .no
def Q8(ks:List (Str × Int))(f:FD):FD:=fun δ=>(f δ).bind fun d=>(Kt ks d).bind fun b=> .ok (.bl b)
def PQ(ks:List (Str × Int))(f:FD):FD:=fun δ=>(f δ).bind fun d=>(Kt ks d).bind fun b=> .ok (.bl (!b))
def OH(ks:List (Str × Int))(f:FD):aq->R Bool:=fun δ=>(f δ).bind fun d=>Kt ks d
def Pe(ks:List (Str × Int))(f:FD):aq->R Bool:=fun δ=>(f δ).bind fun d=>(Kt ks d).bind fun b=> .ok (!b)
def Od(ks:List (Str × Int))(f:FD):FD:=fun δ=>(f δ).bind fun d=>match d with | .str x=>(match ks.lookup x with | some i=> .ok (.int i) | none=> .no) | _=> .no
def Rf(ks:List (Str × Int))(neg:Bool)(t:TE):TE:=fun σ H Q=>t σ H fun y H1=>∃x,y= .str x/\Q (.bl (neg !=(ks.lookup x).isSome)) H1
end
end L2
namespace L3
open PySem PySem.Spec PyProof.Rows L2
section
variable {X:Cx} {cl:Tr} {E:XK}
def Ey(S:bc)(k:Nat):Option Nat:=match S[k]? with | some (.lst ds)=>some ds.length | some (.dct kvs)=>some kvs.length | _=>none
def QT(f:FX):FX:=fun δ S=>(f δ S).bind fun v S1=>match v with | .loc k=>(match Ey S1 k with | some n=> .ok (.d (.int n)) S1 | none=> .no) | _=> .no
def M4(f:FX):FB:=fun δ S=>(f δ S).bind fun v S1=>match v with | .loc k=>(match Ey S1 k with | some n=> .ok (decide (n≠0)) S1 | none=> .no) | _=> .no
def Fh(v o:V3)(S:bc):Option (Option D):=match v,o with
 | .d x, .loc k=>(match um x,S[k]? with | some key,some (.dct kvs)=>some ((kvs.find? fun kv=>decide (kv.1=key)).map (·.2)) | _,_=>none)
 | _,_=>none
def P_(neg:Bool)(fa fb:FX):FX:=fun δ S=>(fa δ S).bind fun v S1=>(fb δ S1).bind fun o S2=>match Fh v o S2 with | some r=> .ok (.d (.bl (neg !=r.isSome))) S2 | none=> .no
def Pj(neg:Bool)(fa fb:FX):FB:=fun δ S=>(fa δ S).bind fun v S1=>(fb δ S1).bind fun o S2=>match Fh v o S2 with | some r=> .ok (neg !=r.isSome) S2 | none=> .no
def Nw(fo fi:FX):FX:=fun δ S=>(fo δ S).bind fun o S1=>(fi δ S1).bind fun v S2=>match Fh v o S2 with | some (some d)=> .ok (.d d) S2 | _=> .no
end
end L3
end
section
namespace L2
open PySem PySem.Spec PyProof.Rows
section
variable {X:Cx}
def Nc(f:FD):FD:=fun δ=>(f δ).bind fun d=>match d with | .str x=>R.aR (decide ((reprText x).length<=sizeLine)) (.ok (.str (reprText x))) | _=> .no
end
end L2
end
section
namespace L3
open PySem PySem.Spec PyProof.Rows L2
section
variable {X:Cx} {cl:Tr} {E:XK}
section
variable {S:bc} {δ:DE} {Y:Nat->bc->Prop}
end
end
end L3
end
section
namespace L3
open PySem PySem.Spec PyProof.Rows L2
section
variable {X:Cx} {cl:Tr} {E:XK}
def Qm(g:D->List D->R D)(fo:FX)(fs:FA):FX:=fun δ S=>(fo δ S).bind fun o S1=>match o with
 | .d (.str z)=>(fs δ S1).bind fun vs S2=>(match my vs with | some ds=>(R3.of (g (.str z) ds) S2).bind fun d S=> .ok (.d d) S | none=> .no)
 | _=> .no
end
end L3
end
section
namespace L2
open PySem PySem.Spec PyProof.Rows Builtin Builtin.Str
section
variable {prog:Program} {w:World} {A:Around} {E:Ti} {s:Shared} {x:Str} {t:Tok} {Q:Ti}
def IV(x y:Str):List Str:=match occurrences x y 0 x.length 1 with
 | i ::_=>[strSub x 0 i,y,strSub x (i+y.length) x.length]
 | []=>[x,Str.empty,Str.empty]
end
section
variable {X:Cx}
def Lj(d:D)(ds:List D):R D:=match d,ds with
 | .str x,[.str y]=>R.aR (decide ((y.length==0)=false/\x.length<=sizeLine/\(Txt.split x y).length<=sizeLine/\(partsBetween x (occurrences x y 0 x.length (x.length+1)) y.length).length<=sizeLine)) (.ok (.lst ((Txt.split x y).map .str)))
 | _,_=> .no
def NI(d:D)(ds:List D):R D:=match d,ds with
 | .str x,[.str y]=>R.aR (decide ((y.length==0)=false/\x.length<=sizeLine)) (.ok (.tup ((IV x y).map .str)))
 | _,_=> .no
end
end L2
end
section
namespace L2
open PySem PySem.Spec PyProof.Rows
section
variable {X:Cx}
def Pg(kvs:List (Str × Int)):D:= .dct (kvs.map fun p=>Sum.inr p.1) (kvs.map fun p=> .int p.2)
def Sj(kvs:List (Str × Int)):List (Key × V):=kvs.map fun p=>((Sum.inr p.1:Key),V.int p.2)
end
end L2
namespace L3
open PySem PySem.Spec PyProof.Rows L2
def SG(l:List (Nat × Bool))(c:Nat):Option Bool:=l.lookup c
def Qb(P:Nat->Bool->Prop):List (Nat × Bool)->Prop | []=>True | p ::l=>P p.1 p.2/\Qb P l
def Q1(P:Nat->Prop):List Nat->Prop | []=>True | c ::l=>P c/\Q1 P l
end L3
namespace L2
open PySem PySem.Spec PyProof.Rows
section
variable {X:Cx}
def Kc(d:D)(ds:List D):R D:=match d,ds with
 | .lst es,[.str k]=>(match strs? es with | some ss=> .ok (.int (ss.count k:Nat)) | none=> .no)
 | _,_=> .no
end
section
variable {X:Cx}
def Nm(n:Nat)(t:zm):FT:=fun d δ=>match d with | .lst ds=>R.aR (decide (ds.length=n)) (t ds δ) | _=> .no
end
section
variable {X:Cx}
def NJ(d e:D):R D:=match d,e with
 | .lst ds, .int k=>R.aR (decide (0<=k/\k < 1000000/\ds.length*k.toNat<=sizeLine)) (.ok (.lst (List.replicate k.toNat ds).flatten))
 | _,_=> .no
end
end L2
end
section
namespace L2
open PySem PySem.Spec PyProof.Rows
section
variable {X:Cx}
def LI(d:D)(ds:List D):R D:=match d,ds with
 | .lst es,[.str k]=>(match strs? es with | some ss=>(match ss.findIdx? (·==k) with | some j=>R.aR (decide (j < 1000000)) (.ok (.int (j:Nat))) | none=> .no) | none=> .no)
 | _,_=> .no
end
end L2
end
section
namespace HT
open PySem PySem.Spec PyProof.Rows
section
variable {prog:Program} {w:World} {A:Around} {E:Ti} {s:Shared}
end
end HT
namespace L2
open PySem PySem.Spec PyProof.Rows
section
variable {X:Cx}
def OM(K:W.Frag):V->Option Int->Option Int->Hp->VK->Prop:=fun x lo hi H Q=>∃a xs,x= .ref a/\l6 K H a xs/\HT.m8 xs.length 0 lo=0/\HT.m8 xs.length xs.length hi=xs.length/\Q (.ref a) H
def Q4(d:D)(lo hi:Option Int):R D:=match d with
 | .tup ds=> .ok (.tup (cutD ds lo hi))
 | _=> .no
def Po(f:FD)(fl fh:FO):FD:=fun δ=>(f δ).bind fun d=>(fl δ).bind fun lo=>(fh δ).bind fun hi=>Q4 d lo hi
end
end L2
end
section
namespace L2
open PySem PySem.Spec PyProof.Rows Builtin Builtin.Str
section
variable {X:Cx}
def EJ(v c y z:Str):Bool:=decide (v.length<=1000000) && (decide (c.length<=10) && (decide (z.length<=14) && !(y==z)))
def Qr(i:Nat)(c y z:Str):TA:=fun σ H Q=>∃v:Str,σ[i]? =some (some (.str v))/\EJ v c y z=true/\Q [.str (v++c), .str (Txt.replace v y z)] H
def P6(i:Nat)(c y z:Str):aq->R (List D):=fun δ=>match δ[i]? with | some (.val (.str v))=>R.aR (EJ v c y z) (.ok [.str (v++c), .str (Txt.replace v y z)]) | _=> .no
def Lx(f:FD)(fs:aq->R (List D)):aq->R (List D):=fun δ=>(f δ).bind fun d=>(fs δ).bind fun ds=>match d,ds with
 | .str x,[.str y]=>R.aR (decide ((y.length==0)=false/\x.length<=sizeLine/\(Txt.split x y).length<=sizeLine/\(partsBetween x (occurrences x y 0 x.length (x.length+1)) y.length).length<=sizeLine)) (.ok ((Txt.split x y).map .str))
 | _,_=> .no
end
end L2
end
section
namespace L2
open PySem PySem.Spec PyProof.Rows
def B7(led:Bool)(p:List Nat):SetTable:={mask:=7,place:=p.toArray,dummies:=#[],finger:=0,led:=led,moves:=0,plain:=true}
def zH(m:Nat):List Nat:=(List.range 8).filter fun i=>m.testBit i
def MY(led:Bool)(p:List Nat)(h:Nat):Nat:=match (B7 led p).freeSlot (h:Int) with
 | some (slot,false)=>slot
 | _=>99
def Kg(k:Nat):List Nat:=(List.range 256).filter fun m=>decide ((zH m).length<=k)
def OU(p:List Nat):Nat->Nat
 | 0=>0
 | j+1=>p.getD j 0+1
end L2
end
section
namespace L2
open PySem PySem.Spec PyProof.Rows
structure SI (h:Heap) (a:Addr) (led:Bool) (σ:List Nat) (es:Array (Int × Value)) (ep m:Nat):Prop where
 get:h.get? a=some {cls:= .type "set",dict:=none,data:= .set es ep (B7 led (zH m)),slots:=#[]}
 m256:m < 256
 len:(zH m).length=es.size
 prm:(es.toList.map (·.1)).Perm (σ.map fun n:Nat=>(n:Int))
 el:∀e∈es.toList,∃(n:Nat) (t:Tok),n < 32/\e=((n:Int),Value.int n t)
section
variable {prog:Program} {w:World} {A:Around} {E:Ti} {s:Shared} {a:Addr} {led:Bool} {σ:List Nat} {es:Array (Int × Value)} {ep m:Nat}
end
end L2
end
section
set_option maxHeartbeats 3200000
namespace L2
open PySem PySem.Spec PyProof.Rows
abbrev N5(w:World):Bool:=w.params.followText "set-order"
abbrev Pm(led:Bool):Obj:={cls:= .type "set",dict:=none,data:= .set #[] 0 (.fresh 0 0 led)}
section
variable {prog:Program} {w:World} {A:Around} {E:Ti} {s:Shared}
end
section
variable {prog:Program} {w:World} {A:Around} {R:Result->Shared->Prop} {I:Addr} {fp wr:List Addr} {G:Array GenState->Array GenState->Prop} {P:Nat->Value->Prop} {St:Nat->Shared->Prop}
end
end L2
end
section
namespace L2
open PySem PySem.Spec PyProof.Rows
section
variable {prog:Program} {w:World} {A:Around} {E:Ti} {s:Shared}
end
end L2
end
section
set_option maxHeartbeats 1000000
namespace L2
open PySem PySem.Spec PyProof.Rows
def QS(w:World)(a:Addr)(ep:Nat)(es:Array (Int × Value)):Array (Int × Value):=if N5 w then pickOrder (w.params.setOrder a ep) es else es
def SN(h:Heap)(I d:Addr)(f i n ep:Nat):Prop:=h.get? I=some {cls:= .type "set_iterator",dict:=none,data:= .fields #[.int f 0, .int i 0, .ref d, .int n 0, .int ep 0],slots:=#[]}
def fz(w:World)(p:List Nat)(i:Nat):Nat:=if N5 w then 0 else OU p i
section
variable {prog:Program} {w:World} {A:Around} {E:Ti} {s:Shared} {a I:Addr} {ns:List Nat} {es:Array (Int × Value)} {ep m:Nat}
end
end L2
end
section
namespace L2
open PySem PySem.Spec PyProof.Rows
section
variable {prog:Program} {w:World} {A:Around} {E:Ti} {s:Shared} {a I:Addr} {ns:List Nat} {es:Array (Int × Value)} {ep m:Nat}
end
end L2
end
section
namespace L2
open PySem PySem.Spec PyProof.Rows
section
variable {X:Cx}
def QK(ns:List Nat):List Int:=ns.map fun n:Nat=>(n:Int)
def Fp(zs:List Int):Bool:=decide (zs.Nodup) && (decide (zs.length<=4) && zs.all fun z=>decide (0<=z/\z < 32))
def Si(f:FD):FD:=fun δ=>(f δ).bind fun d=>match d with
 | .tup ds=>(match ints? ds with | some zs=>R.aR (Fp zs) (.ok (.lst ((wU zs).map .int))) | none=> .no)
 | _=> .no
def Ls(g g':D->D->R D)(fa fb fc:FD):aq->R Bool:=fun δ=>(GI g g' fa fb fc δ).bind fun d=>match d with | .bl b=> .ok b | _=> .no
end
end L2
end
section
namespace L2
open PySem PySem.Spec PyProof.Rows
section
variable {X:Cx}
def mS(zs:List Int):List Int:=zs.foldl step_dedup []
def Ji(f:FD):FD:=fun δ=>(f δ).bind fun d=>match d with
 | .lst ds=>(match ints? ds with | some zs=>R.aR (decide (zs.length < 1000)) (.ok (.int ((mS zs).length:Nat))) | none=> .no)
 | _=> .no
theorem range_getD(zs:List Int):(List.range zs.length).map (fun i=>zs.getD i 0)=zs:=by
 refine List.ext_getElem? fun i=>?_
 rw[List.getElem?_map];by_cases h:i < zs.length
 .rw [List.getElem?_range h];simp [List.getD_eq_getElem?_getD,List.getElem?_eq_getElem h]
 .rw [List.getElem?_eq_none (by simpa using h),List.getElem?_eq_none (by omega)];rfl
theorem vL{e:Expr}{f:FD}{p1 p2 q1 q2:Pos}(Rn:X.mg "len"=none)(RE:X.mg "set"=none)(h:QD X e f)(hc:X.calm=true:=by rfl)(MG:Gl X "len":=by rfl)(Ei:Gl X "set":=by rfl)
 (Og:starEach [.Call (.Name "set" p2) [e] [] q2] X.env=(false,eval (.Call (.Name "set" p2) [e] [] q2) X.env) ::starEach [] X.env:=by rfl)
 (OD:starEach [e] X.env=(false,eval e X.env) ::starEach [] X.env:=by rfl) (n1:(backTo q1 (starEach [] X.env)).any (·.1)=false:=by rfl) (n2:(backTo q2 (starEach [] X.env)).any (·.1)=false:=by rfl) :
 QD X (.Call (.Name "len" p1) [.Call (.Name "set" p2) [e] [] q2] [] q1) (Ji f):=by
 refine⟨?_⟩;intro pins s σ H Q I ⟨Z,B,δ,d,En,hf,q⟩;unfold Ji at hf;obtain⟨d1,h1,h2⟩:=R.ak hf;cases d1 with
 | lst ds=>
   simp only at h2;cases hi:ints? ds with
   | none=>rw [hi] at h2;cases h2
   | some zs=>
     rw[hi] at h2;obtain⟨hsm,h3⟩:=R.aW h2;cases h3;have hsm:=of_decide_eq_true hsm;refine wpAny_Call_Name_kw (fQ I MG Rn boot_len ?_);refine PyProof.Rows.callWith_builtin1 ?_ Og n1;rw[Og];show wpAny _ _ (spliced ((false,eval (.Call (.Name "set" p2) [e] [] q2) X.env) ::[])) _ _ s;refine Calls.spliced_cons (wpAny_Call_Name_kw (fQ I Ei RE PyProof.Rows.boot_set ?_));refine PyProof.Rows.callWith_type1 ?_ OD n2;rw[OD];show wpAny _ _ (spliced ((false,eval e X.env) ::[])) _ _ s;refine Calls.spliced_cons (dc (h.1 pins s σ H _ I ⟨Z,B,δ, .lst ds,En,h1,fun v H1 s1 r1=>(⟨s1,r1⟩:aP H H1/\Rep X.K B H1 (.lst ds) v)⟩) fun u s1 ⟨v,H1,I1,ru,sm,rp⟩=>?_)
     refine Calls.spliced_nil ?_;obtain⟨a,xs,rfl,l,rs⟩:=Rep.lst.mp rp;cases ru;obtain⟨its,n,rv,e1,hz⟩:=I1.zr l;rw[dI rs hi] at rv;have hl:s1.heap.IsList a its.toArray:=⟨_,e1,rfl,n,rfl⟩;have hlen:its.length=zs.length:=by have:=rv.length;simpa using this.symm
     have hsb:its.toArray.size+1 < scanBound:=by
      have:its.toArray.size=its.length:=by simp
      rw[this,hlen];have:1001<=scanBound:=by decide
      omega
     refine call_set_list (ns:=zs) (I1.ok.hd hc) hl (uK rv) hsb fun h' tk hS hk=>?_
     refine Calls.spliced_nil ?_;obtain⟨o,es,ep,t,g1,g2,g3,g4,g5,g6,g7,g8⟩:=hS;have mE:(es.size:Int) < 2 ^ 63:=by
      have hb:scanBound<=1000000000:=by decide
      omega
     refine call_len_set (s:={s1 with heap:=h',toks:=tk}) g1 g2 g3 g7 mE ?_
     have hes:es.size=(mS zs).length:=by
      rw[g8];unfold firstMet mS;have:its.toArray.size=zs.length:=by simp [hlen]
      rw[this,range_getD]
     rw[hes];exact⟨.int ((mS zs).length:Nat),H1,I1.kept fun b u e=>hk b u (Heap.lt_size e) e,⟨_,rfl⟩,q _ _ sm (Rep.int.mpr rfl)⟩
 | _=>cases h2
end
end L2
end
section
namespace L2
open PySem PySem.Spec PyProof.Rows
section
variable {X:Cx}
theorem AQ{pins:Th}{s:Shared}{B:List Addr}(I:Inv X pins σ H s){a:D}:∀{ds:List D} {xs:List V} {us:List Value},ds.all zt=true->aC X.K B H ds xs->Vals xs us->
 ∀(m:Nat) (d:D) (u:Value),ds[m]? =some d->us[m]? =some u->GP s.heap a u=wZ d a
 | [],xs,us,_,r,rv,m,d,u,h,_=>by simp at h
 | d0 ::ds,xs,us,hk,r,rv,m,d,u,h,h2=>by
   rw[List.all_cons,Bool.and_eq_true] at hk;obtain⟨x,Oy,rfl,r1,r2⟩:=r.bX;cases rv with
   | cons u0 rv=>
     cases m with
     | zero=>
       simp only[List.getElem?_cons_zero,Option.some.injEq] at h h2;subst h h2;obtain⟨p1,p2,p3⟩:=km hk.1;obtain⟨as,ra⟩:=r1.reads I p1 u0;exact zQ ra p2
     | succ m=>
       rw[List.getElem?_cons_succ] at h h2;exact AQ I hk.2 r2 rv m d u h h2
def iM(d:D)(ds:List D):R D:=match d,ds with
 | .lst es,[k]=>R.aR (zt k && es.all zt) (match es.findIdx? (fun d=>wZ d k) with | some j=>R.aR (decide (j < 1000000)) (.ok (.int (j:Nat))) | none=> .no)
 | _,_=> .no
theorem Au(hu:X.A.units+64 < cLine):Kj X "list.index" iM:=by
 intro pins s σ H B da d ds x xs v us I hb rx rxs ra rs hg;unfold iM at hg;split at hg
 .rename_i es k;obtain⟨hk,hg⟩:=R.aW hg;obtain⟨Rr,Oo⟩:=Bool.and_eq_true_iff.mp hk;split at hg
  .rename_i j hj;obtain⟨h1,h2⟩:=R.aW hg;cases h2;have hsm:=of_decide_eq_true h1;obtain⟨a,ys,rfl,l,rys⟩:=Rep.lst.mp ra;cases rx;obtain⟨y,rfl,r⟩:=rs.one;obtain⟨u,rfl,ru⟩:=vals1 rxs;obtain⟨p1,p2,p3⟩:=km Rr;obtain⟨as,rda⟩:=r.reads I p1 ru;obtain⟨its,rv,pl,hz⟩:=I.list l.sq;obtain⟨⟨cls,dd,data,sl⟩,ho,hc,n,hd⟩:=pl.isList;simp only at hc hd;subst hc hd;have hlen:its.length=es.length:=by rw[<-rv.length];exact rys.length.symm
   obtain⟨hjl,hit,hno⟩:=List.findIdx?_eq_some_iff_getElem.mp hj;have ev:∀(m:Nat) (hm:m < es.length) (EZ:m < its.length),GP s.heap k its[m]=wZ es[m] k:=fun m hm EZ=>
    AQ I Oo rys rv m _ _ (List.getElem?_eq_getElem hm) (List.getElem?_eq_getElem EZ)
   obtain⟨q1,q2⟩:=xh I (a:=k) Oo rys rv;refine call_meets PySem.F.slot_list_index ⟨_,ho,rfl⟩ PySem.F.entry_list_index (PySem.F.args_list_index_2 _ _) (PySem.SeqAt.list_indexAt a its.toArray n dd sl u (GP s.heap k) j (by rw[List.size_toArray];omega) (by omega) (by rw[List.getElem_toArray,ev j hjl (by omega)];exact hit) (fun m hm mE=>by rw[List.getElem_toArray,ev m (by omega) (by omega)];exact Bool.not_eq_true _▸hno m mE)) ⟨ho,fun z hz=>?_,?_⟩
   .obtain⟨d',Ov,o1,o2,o3⟩:=q2 z (by simpa using hz)
    rw[o3];obtain⟨z1,z2,z3⟩:=km o1;refine SeqAt.eqAt_reads _ _ _ _ _ _ _ _ o2 rda z2 p2 ?_;show X.A.units+1+_ < cLine;omega
   .exact⟨.int _,H,I.tok _,⟨_,rfl⟩,aP.refl H,Rep.int.mpr rfl⟩
  .cases hg
 .cases hg
theorem oO{o e:Expr}{f:FD}{fs:aq->R (List D)}{apos bL:Pos}(hu:X.A.units+64 < cLine)(ho:QD X o f)(ha:CL X [e] fs)
 (gA:attributeBase o "index" X.env (eval o X.env)=eval o X.env:=by rfl)
 (lK:((backTo bL (starEach [e] X.env)).all (fun x=>!x.1) && (backToKw bL (keywordEach [] X.env)).all (fun x=>x.1.isSome)
   && decide (([e]:List Expr).length+([]:List Keyword).length+(if([]:List Keyword).isEmpty then 0 else 1) < 30))=true:=by rfl)
 (gz:(apos.endLine==bL.line)=true:=by rfl) (hs:starEach [e] X.env=(false,eval e X.env) ::starEach [] X.env:=by rfl) :
 QD X (.Call (.Attribute o "index" apos) [e] [] bL) (Gg "list" iM f fs):=⟨Iz F.plainAttrs_list F.slot_list_index F.type_list_index (Au hu) ho.1 ha.1 (.inr (.inr rfl)) gA lK gz hs⟩
end
end L2
end
section
namespace L3
open PySem PySem.Spec PyProof.Rows L2
section
variable {X:Cx} {cl:Tr}
def keyV?:D->Option Key
 | .int n=>some (.inl n)
 | .str x=>some (.inr x)
 | _=>none
def keysV?:List D->Option (List Key)
 | []=>some []
 | d ::ds=>match keyV? d,keysV? ds with | some k,some ks=>some (k ::ks) | _,_=>none
theorem Bt{K:W.Frag}{B:List Addr}{d:D}{k:Key}{v:V}(h:keyV? d=some k)(r:Rep K B H d v):v=kV k:=by
 cases d with
 | int n=>cases h;exact Rep.int.mp r
 | str x=>cases h;exact Rep.str.mp r
 | _=>cases h
theorem lB{K:W.Frag}{B:List Addr}:∀{ds:List D} {ks:List Key} {xs:List V},keysV? ds=some ks->aC K B H ds xs->xs=ks.map kV
 | [],ks,xs,h,r=>by cases h;subst r;rfl
 | d ::ds,ks,xs,h,r=>by
   obtain⟨x,Oy,rfl,r1,r2⟩:=r.bX;unfold keysV? at h;split at h
   .rename_i k ks' h1 h2;cases h;rw[Bt h1 r1,lB h2 r2];rfl
   .cases h
def ur(S:bc)(k:Nat):Option (List (List Key × D)):=match S[k]? with | some (.dcT kvs)=>some kvs | _=>none
theorem mL{S:bc}{k:Nat}{kvs:List (List Key × D)}(h:ur S k=some kvs):S[k]? =some (.dcT kvs):=by
 unfold ur at h;split at h
 .rename_i e;cases h;exact e
 .cases h
def nD{κ α:Type} [DecidableEq κ](kvs:List (κ × α))(k:κ)(d:α):List (κ × α):=if(kvs.any fun kv=>decide (kv.1=k))=true then kvs.map (fun kv=>if kv.1=k then(kv.1,d) else kv) else kvs++[(k,d)]
theorem uW{κ α β:Type} [DecidableEq κ](k:κ):∀{a:List (κ × α)} {b:List (κ × β)},a.map (·.1)=b.map (·.1)->(a.any fun kv=>decide (kv.1=k))=b.any fun kv=>decide (kv.1=k)
 | [],[],_=>rfl
 | [],_ ::_,h=>by simp at h
 | _ ::_,[],h=>by simp at h
 | x ::a,y ::b,h=>by
   rw[List.map_cons,List.map_cons] at h;obtain⟨h1,h2⟩:=List.cons.inj h;rw[List.any_cons,List.any_cons,uW k h2,h1]
theorem tJ{κ:Type} [DecidableEq κ]{K:W.Frag}{B:List Addr}{k:κ}{d:D}{v:V}(rv:Rep K B H d v):∀{kvs:List (κ × D)} {ys:List (κ × V)},ys.map (·.1)=kvs.map (·.1)->aC K B H (kvs.map (·.2)) (ys.map (·.2))->
 (ys.map fun kv=>if kv.1=k then(kv.1,v) else kv).map (·.1)=(kvs.map fun kv=>if kv.1=k then(kv.1,d) else kv).map (·.1)/\aC K B H ((kvs.map fun kv=>if kv.1=k then(kv.1,d) else kv).map (·.2)) ((ys.map fun kv=>if kv.1=k then(kv.1,v) else kv).map (·.2))
 | [],[],_,_=>⟨rfl,aC.nil⟩
 | [],_ ::_,h,_=>by simp at h
 | _ ::_,[],h,_=>by simp at h
 | (k1,d1) ::kvs,(k2,v2) ::ys,h,r=>by
   obtain⟨h1,h2⟩:=List.cons.inj h;have h1:k2=k1:=h1;subst h1;obtain⟨x,r',e,q1,q2⟩:=aC.bX r;cases e;obtain⟨i1,i2⟩:=tJ rv h2 q2;simp only[List.map_cons];by_cases hk:k2=k
   .rw [if_pos hk,if_pos hk];exact⟨by rw[i1],aC.cons rv i2⟩
   .rw [if_neg hk,if_neg hk];exact⟨by rw[i1],aC.cons q1 i2⟩
theorem GD{κ:Type} [DecidableEq κ]{K:W.Frag}{B:List Addr}{k:κ}{d:D}{v:V}(rv:Rep K B H d v){kvs:List (κ × D)}{ys:List (κ × V)}(h:ys.map (·.1)=kvs.map (·.1))(r:aC K B H (kvs.map (·.2)) (ys.map (·.2))) :
 (putK ys k v).map (·.1)=(nD kvs k d).map (·.1)/\aC K B H ((nD kvs k d).map (·.2)) ((putK ys k v).map (·.2)):=by
 unfold putK nD;rw[uW k h];split
 .exact tJ rv h r
 .rw [List.map_append,List.map_append,List.map_append,List.map_append,h];exact⟨rfl,r.append (aC.cons rv aC.nil)⟩
def mN{κ:Type} [DecidableEq κ](kvs:List (κ × D))(k:κ):Option D:=(kvs.find? fun kv=>decide (kv.1=k)).map (·.2)
theorem AI{κ:Type} [DecidableEq κ]{K:W.Frag}{B:List Addr}{k:κ}:∀{kvs:List (κ × D)} {ys:List (κ × V)},ys.map (·.1)=kvs.map (·.1)->aC K B H (kvs.map (·.2)) (ys.map (·.2))->
 (mN kvs k=none/\eY ys k=none)\/∃d v,mN kvs k=some d/\eY ys k=some v/\Rep K B H d v
 | [],[],_,_=> .inl ⟨rfl,rfl⟩
 | [],_ ::_,h,_=>by simp at h
 | _ ::_,[],h,_=>by simp at h
 | (k1,d1) ::kvs,(k2,v2) ::ys,h,r=>by
   obtain⟨h1,h2⟩:=List.cons.inj h;have h1:k2=k1:=h1;subst h1;obtain⟨x,r',e,q1,q2⟩:=aC.bX r;cases e;by_cases hk:k2=k
   .refine .inr ⟨d1,v2,?_,?_,q1⟩
    .unfold mN;rw [List.find?_cons,decide_eq_true hk];rfl
    .unfold eY;simp [hk]
   .have ih:=AI (k:=k) h2 q2;have a1:mN ((k2,d1) ::kvs) k=mN kvs k:=by unfold mN;rw [List.find?_cons,decide_eq_false hk]
    have a2:eY ((k2,v2) ::ys) k=eY ys k:=by unfold eY;simp [hk]
    rw[a1,a2];exact ih
def v8:FX:=fun δ S=> .ok (.loc S.length) (S++[.dcT []])
theorem Aj:PX X cl (.Dict [] [] pos) v8:=⟨AA.imp fun σ H Q ⟨ρ,S,δ,v,S',E,hf,q⟩=>by
 cases hf;intro p hp;obtain⟨w,pr⟩:=E.sw.new (a:=p) (o:= .dcT []) (aT (o:= .dT []) hp) hp ⟨[],aU,rfl,aC.nil⟩;exact q _ _ _ pr w (by unfold bf;exact⟨p,by show(ρ.r++[p])[_]? =_;rw [<-E.sw.len,List.getElem?_append_right (by omega),Nat.sub_self];rfl,rfl⟩)⟩
theorem FK{pins:Th}{σ:L2.St}{s:Shared}{a:Addr}{ks:List Key}(I:Inv X pins σ H s)(e:l6 X.K H a (ks.map kV)):(tupleKind (cj X.prog X.w)).is s.heap ks a:=by
 obtain⟨its,r,⟨o,h1,h2,n,h3⟩,_⟩:=I.tuple e;exact⟨o,its.toArray,n,h1,h2,h3,by simpa using m4 r⟩
def Ht(td ty tx:TE)(K:W.Frag):TE:=fun σ H Q=>td σ H fun x H1=>∃a,x= .ref a/\HY H1 a/\ty σ H1 fun y H2=>tx σ H2 fun z H3=>∃kvs k b,Rd H3 a (.dT kvs)/\y= .ref b/\l6 K H3 b (k.map kV)/\Q ((eY kvs k).getD z) H3
theorem Bf{td ty tx:TE}(hu:X.A.units+1 < cLine)(ho:PE X o td)(he:PE X e ty)(hf:PE X f tx)(m:M2 X o "get" apos e f bL):PE X (.Call (.Attribute o "get" apos) [e,f] [] bL) (Ht td ty tx X.K):=by
 intro pins s σ H Q I h;refine wpAny_Call_method m.base m.Kg m.line PySem.F.plainAttrs_dict PySem.F.slot_dict_get PySem.F.type_dict_get (dc (ho pins s σ H _ I h) fun u s1 ⟨x,H1,I1,rx,a,ex,d,q1⟩=>?_)
 subst ex;obtain rfl:u=Value.ref a:=rx;obtain⟨t1,t2,_⟩:=zB I1 d;refine⟨t1,t2,?_⟩;rw[m.trees];refine Calls.callWith_builtin rfl (Calls.evalArgs_plain (Calls.spliced_cons (dc (he pins s1 σ H1 _ I1 q1) fun iv s2 ⟨y,H2,I2,ry,q2⟩=>
  Calls.spliced_cons (dc (hf pins s2 σ H2 _ I2 q2) fun fv s3 ⟨z,H3,I3,rz,kvs,k,b,e1,e2,e3,q3⟩=>Calls.spliced_nil ?_))))
 subst e2;cases(show iv=Value.ref b from ry)
 obtain⟨z1,hd,xs,rel,dd⟩:=nq I3.hok e1;refine call_meetsIn PySem.F.slot_dict_get dd.typeIs PySem.F.entry_dict_get (PySem.F.args_dict_get_3 _ _ _) (meetsH_dict_get_default (tupleKind (cj X.prog X.w)) a b hd fv) ⟨tupleKind_room_in1 hu,k,xs,FK I3 e3,dd,?_⟩;exact⟨_,H3,I3.tok _,(rel.val k).getD rz,q3⟩
def lh(i:Nat)(f g:FD):FX:=fun δ S=>match e_ δ i with
 | none=> .no
 | some k=>match ur S k with
   | none=> .no
   | some kvs=>(R3.of (f (down δ)) S).bind fun kd S=>(R3.of (g (down δ)) S).bind fun d S=>match kd with
     | .tup ds=>(match keysV? ds with | some ks=> .ok (.d ((mN kvs ks).getD d)) S | none=> .no)
     | _=> .no
theorem uX{i:Nat}{x:Str}{e e':Expr}{f g:FD}{eZ apos bL:Pos}(hu:X.A.units+1 < cLine)(hN:X.N[i]? =some x)(hv:B4 X.env.scope x)(he:QD X e f)(Mo:QD X e' g)
 (hd:(x==("__debug__":Str))=false:=by decide) (nR:(x==("__classdict__":Str))=false:=by decide)
 (gA:attributeBase (.Name x eZ) "get" X.env (eval (.Name x eZ) X.env)=eval (.Name x eZ) X.env:=by rfl)
 (lK:((backTo bL (starEach [e,e'] X.env)).all (fun x=>!x.1) && (backToKw bL (keywordEach [] X.env)).all (fun x=>x.1.isSome)
   && decide (([e,e']:List Expr).length+([]:List Keyword).length+(if([]:List Keyword).isEmpty then 0 else 1) < 30))=true:=by rfl)
 (gz:(apos.endLine==bL.line)=true:=by rfl) (RT:backTo bL (starEach [e,e'] X.env)=[(false,eval e X.env),(false,eval e' X.env)]:=by rfl) :
 PX X cl (.Call (.Attribute (.Name x eZ) "get" apos) [e,e'] [] bL) (lh i f g):=by
 refine⟨(Bf hu (m3 hN hv hd nR) he.1 Mo.1 ⟨gA,lK,gz,RT⟩).imp fun σ H Q ⟨ρ,S,δ,v,S',E,hf,q⟩=>?_⟩
 unfold lh at hf;split at hf
 .cases hf
 .rename_i k hk;split at hf
  .cases hf
  .rename_i kvs My;obtain⟨kd,S1,e1,e2⟩:=R3.ak hf;obtain⟨e3,rfl⟩:=R3.of_ok e1;obtain⟨dd,S2,e4,e5⟩:=R3.ak e2;obtain⟨e6,rfl⟩:=R3.of_ok e4;split at e5
   .rename_i ds;split at e5
    .rename_i ks J1;cases e5;obtain⟨u,u1,u2⟩:=E.val i _ (iI hk);unfold bf at u2;obtain⟨a,a1,rfl⟩:=u2;obtain⟨ys,y1,y2,y3⟩:=E.sw.ob k a _ a1 (mL My);refine⟨.ref a,u1,a,rfl, .inr ⟨_, .inl y1⟩,[],ρ.b,down δ, .tup ds,E.down,e3,fun v1 H1 s1 r1=>⟨[],ρ.b,down δ,dd,E.down.same s1,e6,fun v2 H2 s2 r2=>?_⟩⟩
     have sA:aP H H2:=s1.trans s2;obtain⟨b,xs,rfl,l,rs⟩:=Rep.tup.mp (r1.same s2);rw[lB J1 rs] at l;refine⟨ys,ks,b, .inl (sA a _ y1),rfl,l.sq,q _ ρ H2 (Pre.same sA) (E.sw.same sA) ?_⟩;unfold bf;rcases AI (k:=ks) y2 y3 with⟨b1,b2⟩ | ⟨d,v',b1,b2,b3⟩
     .rw [b1,b2];exact r2
     .rw [b1,b2];exact b3.same sA
    .cases e5
   .cases e5
theorem CZ{i k:Nat}{f g:FD}{ds:List D}{ks:List Key}{d:D}{kvs:List (List Key × D)}{δ:DE}{S:bc}{QV:V3->bc->Prop}(hk:δ[i]? =some (some (.loc k)))(hS:S[k]? =some (.dcT kvs))(e1:f (down δ)= .ok (.tup ds))(J1:keysV? ds=some ks)(e2:g (down δ)= .ok d)(h:QV (.d ((mN kvs ks).getD d)) S):W3 (lh i f g δ S) QV:=by
 unfold lh;have l1:e_ δ i=some k:=by unfold e_;rw [hk]
 have l2:ur S k=some kvs:=by unfold ur;simp only[hS]
 simp only[l1,l2];exact W3.bind (W3.of e1 (W3.bind (W3.of e2 (by simp only[J1];exact W3.ok h))))
def vM(fo:FX)(g:FA)(fe:FX):FZ:=fun δ S=>(fe δ S).bind fun v S1=>(fo δ S1).bind fun o S2=>(g δ S2).bind fun js S3=>match v,o,my js with
 | .d d, .loc k,some ds=>(match keysV? ds,ur S3 k with | some ks,some kvs=>R3.aR (decide (kvs.length < sizeLine/\js.length<=sizeLine)) (.ok (.nx δ) (S3.set k (.dcT (nD kvs ks d)))) | _,_=> .no)
 | _,_,_=> .no
theorem Bi{x1}{tp pos pos':Pos}(hu:X.A.units+1 < cLine)(hv:PX X cl value fe)(ho:PX X cl o fo)(hi:Hh X cl es g)(hs:swapsWith value (some (.Subscript o (.Tuple es x1 tp) pos')) pos.line X.env=pure false:=by rfl):PZ X cl (.Assign [.Subscript o (.Tuple es x1 tp) pos'] value pos) (vM fo g fe):=
 ⟨(xE hu ho.1 (vv hi.1) hv.1 hs).imp fun D σ H ⟨ρ,S,δ,ou,S',E,hf,q⟩=>by
   obtain⟨v,S1,h1,h2⟩:=R3.ak hf;obtain⟨o,S2,h3,h4⟩:=R3.ak h2;obtain⟨js,S3,h5,h6⟩:=R3.ak h4;refine⟨ρ,S,δ,v,S1,E,h1,fun u1 cD H1 p1 w1 r1=>⟨cD,S1,δ,o,S2,E.to p1 w1,h3,fun u2 sY H2 p2 w2 r2=>⟨sY,S2,δ,js,S3,(E.to p1 w1).to p2 w2,h5,fun xs E6 H3 p3 w3 r3=>?_⟩⟩⟩
   split at h6
   .rename_i d k ds ha;split at h6
    .rename_i ks kvs J1 hd;obtain⟨hl,h7⟩:=R3.aW h6;cases h7;obtain⟨Ea,HN⟩:=of_decide_eq_true hl;refine⟨by rw[<-r3.length];exact HN,fun p hp=>?_⟩
     have np:=sE (ρ:=E6) (o:=HO.tup xs) hp;have w3':=w3.same (aT (o:=HO.tup xs) hp);have r2':=(r2.pre p3).pre np;unfold bf at r2';obtain⟨a,a1,rfl⟩:=r2';rw[ky ha] at r3;have hx:=lB J1 r3.to;obtain⟨ys,y1,y2,y3⟩:=w3'.ob k a _ a1 (mL hd);have vi:=((r1.pre p2).pre p3).pre np;unfold bf at vi;obtain⟨e1,iG⟩:=GD (k:=ks) vi y2 y3;have hll:ys.length=kvs.length:=by have:=congrArg List.length y2;simpa using this
     refine⟨a,_,rfl,rX.t (k:=ks) y1 (by rw[aU,hx]) (by rw[hll];exact Ea),?_⟩
     obtain⟨w4,p4⟩:=w3'.put (o:= .dcT (nD kvs ks d)) (u:= .dT (putK ys ks u1)) a1 (w3'.fz k a a1 (by rw[mL hd];intro h;cases h)) ⟨_,rfl,e1,iG⟩
     exact q σ E6 _ (p1.trans (p2.trans (p3.trans (np.trans p4)))) (E.to (p1.trans (p2.trans (p3.trans (np.trans p4)))) w4)
    .cases h6
   .cases h6⟩
end
end L3
end
section
namespace L3
open PySem PySem.Spec PyProof.Rows L2
section
variable {X:Cx} {cl:Tr}
def Ki(S:bc):V3->Option D
 | .d x=>some x
 | .loc k=>(match S[k]? with | some (.lst ds)=>some (.lst ds) | _=>none)
 | _=>none
def zr(S:bc):List V3->Option (List D)
 | []=>some []
 | v ::vs=>match Ki S v,zr S vs with | some d,some ds=>some (d ::ds) | _,_=>none
def EK(S:bc):V3->Option D
 | .tup vs=>(match zr S vs with | some ds=>some (.tup ds) | none=>none)
 | v=>Ki S v
theorem Rep.AO{K:W.Frag}{B:List Addr}{d:D}{v:V}(r:Rep K B H d v):Rep K [] H d v:=r.aY (fun b o e _=>⟨e,by simp⟩)
theorem aC.AO{K:W.Frag}{B:List Addr}{ds:List D}{vs:List V}(r:aC K B H ds vs):aC K [] H ds vs:=r.aY (fun b o e _=>⟨e,by simp⟩)
theorem lR{K:W.Frag}{S:bc}(w:SW K cl ρ H S){v:V3}{u:V}{d:D}(r:bf K ρ H v u)(h:Ki S v=some d):Rep K [] H d u:=by
 cases v with
 | d x=>cases h;unfold bf at r;exact Rep.AO r
 | loc k=>
   unfold bf at r;obtain⟨a,a1,rfl⟩:=r;unfold Ki at h;simp only at h;split at h
   .rename_i ds hs;cases h;obtain⟨xs,e,rs⟩:=w.ob k a _ a1 hs;exact Rep.lst.mpr ⟨a,xs,rfl, .inl ⟨by simp, .inl e⟩,aC.AO rs⟩
   .cases h
 | lst vs=>cases h
 | tup vs=>cases h
 | fn x=>cases h
theorem xI{K:W.Frag}{S:bc}(w:SW K cl ρ H S):∀{vs:List V3} {us:List V} {ds:List D},aI K ρ H vs us->zr S vs=some ds->aC K [] H ds us
 | [],us,ds,r,h=>by cases h;unfold aI at r;subst r;exact aC.nil
 | v ::vs,us,ds,r,h=>by
   unfold aI at r;obtain⟨x,r',rfl,r1,r2⟩:=r;unfold zr at h;split at h
   .rename_i d ds' h1 h2;cases h;exact aC.cons (lR w r1 h1) (xI w r2 h2)
   .cases h
theorem Cd{K:W.Frag}{S:bc}(w:SW K cl ρ H S){v:V3}{u:V}{d:D}(r:bf K ρ H v u)(h:EK S v=some d):Rep K [] H d u:=by
 cases v with
 | tup vs=>
   unfold EK at h;simp only at h;split at h
   .rename_i ds hs;cases h;unfold bf at r;obtain⟨a,xs,rfl,l,rs⟩:=r;refine Rep.tup.mpr ⟨a,xs,rfl,?_,xI w rs hs⟩;rcases l with⟨_,l⟩ | l
    .exact .inl ⟨by simp,l⟩
    .exact .inr l
   .cases h
 | d x=>exact lR w r h
 | loc k=>exact lR w r h
 | lst vs=>exact lR w r h
 | fn x=>exact lR w r h
def Sn(g:D->D->R D)(fa fb:FX):FB:=fun δ S=>(fa δ S).bind fun a S1=>(fb δ S1).bind fun b S2=>match EK S2 a,EK S2 b with
 | some x,some y=>(match g x y with | .ok (.bl k)=> .ok k S2 | _=> .no)
 | _,_=> .no
end
end L3
end
section
namespace L3
open PySem PySem.Spec PyProof.Rows L2
section
variable {X:Cx} {cl:Tr}
def u9:D->Bool
 | .cu=>true
 | .bl _=>true
 | .int _=>true
 | .str _=>true
 | _=>false
theorem zX{K:W.Frag}{B B':List Addr}{d:D}{v:V}(h:u9 d=true)(r:Rep K B H d v):Rep K B' H' d v:=by
 cases d with
 | cu=>unfold Rep at r ⊢;exact r
 | bl b=>unfold Rep at r ⊢;exact r
 | int n=>unfold Rep at r ⊢;exact r
 | str x=>unfold Rep at r ⊢;exact r
 | _=>cases h
def vJ(S:bc):List V3->Option (List D)
 | []=>some []
 | v ::vs=>match EK S v,vJ S vs with | some d,some ds=>some (d ::ds) | _,_=>none
def EM:P3:=⟨[],[],[]⟩
theorem ID:EM.b=[]:=rfl
theorem Pw{K:W.Frag}:SW K cl EM H [] where
 len:=rfl
 nd:=fun i j a h=>by simp [EM] at h
 ob:=fun k a o h=>by simp [EM] at h
 zb:=fun b h=>by cases h
 fz:=fun k a h=>by simp [EM] at h
 ff:=fun a h=>by cases h
 fi:=fun k a h=>by simp [EM] at h
theorem tM{K:W.Frag}{S:bc}(w:SW K cl ρ H S):∀{vs:List V3} {us:List V} {ds:List D},aI K ρ H vs us->vJ S vs=some ds->aI K EM H (ds.map .d) us
 | [],us,ds,r,h=>by cases h;exact r
 | v ::vs,us,ds,r,h=>by
   unfold aI at r;obtain⟨x,r',rfl,r1,r2⟩:=r;unfold vJ at h;split at h
   .rename_i d ds' h1 h2;cases h;have:=tM w r2 h2;rw[List.map_cons];unfold aI;exact⟨x,r',rfl,by unfold bf;exact Cd w r1 h1,this⟩
   .cases h
def sM(g:List V3->bc->R3 V3)(fs:FA):FX:=fun δ S=>(fs δ S).bind fun vs S1=>match vJ S1 vs with
 | some ds=>(match g (ds.map .d) [] with | .ok (.d d) _=>R3.aR (u9 d) (.ok (.d d) S1) | _=> .no)
 | none=> .no
theorem uC{g:List V3->bc->R3 V3}{k j n:Nat}{p pos:Pos}(C:dr X.prog X.w X.K X.mg X.base cl k x n g)(ha:Hh X cl (e ::es) fs)(pY:(x==("__debug__":Str))=false:=by decide)(he:starEach (e ::es) X.env=(false,eval e X.env) ::starEach es X.env:=by rfl)(j5:(backTo pos (starEach es X.env)).any (·.1)=false:=by rfl)(hr:et j X.A:=by assumption)(Ej:k<=j:=by decide)(hg:Gl X x:=by rfl)(hn:∀δ S ds S',fs δ S= .ok ds S'->ds.length=n:=by(repeat apply rh);exact uZ) :
 PX X cl (.Call (.Name x p) (e ::es) [] pos) (sM g fs):=by
 obtain⟨f,fd,ps,F,hm,hk,hb⟩:=C;refine⟨(rQ F (hr.mono Ej) hg hm hk hb .nil Bp ha.1 pY he j5).imp fun σ H Q ⟨ρ,S,δ,v,S',E,hf,q⟩=>?_⟩
 obtain⟨vs,S1,h1,h2⟩:=R3.ak hf;refine⟨ρ,S,δ,vs,S1,E,h1,fun us cD H1 p1 w1 r1=>?_⟩
 show BZ X.K cl n g (us++[]) H1 Q E0;rw[List.append_nil];split at h2
 .rename_i ds hds;split at h2
  .rename_i d S2 Ei;obtain⟨hfl,h3⟩:=R3.aW h2;cases h3;refine⟨by rw[<-r1.length];exact hn δ S vs _ h1,EM,[],ds.map .d, .d d,S2,Pw,tM w1 r1 hds,Ei,fun z sY H2 p2 w2 r2=>?_⟩
   have sm:aP H1 H2:=fun b o e=>(p2.aY b o e (by rw[ID];simp)).1
   refine q z cD H2 (p1.trans (Pre.same sm)) (w1.same sm) ?_;unfold bf at r2 ⊢;exact zX hfl r2
  .cases h2
 .cases h2
end
end L3
end
section
set_option maxHeartbeats 4000000
namespace NT
def mx(f:Nat->Nat)(w:List Nat):Nat:=(w.map f).foldl max 0
structure BA (f:Nat->Nat) (M:Nat) (bs:List Int):Prop where
 a:∀(z:Nat) (v:Int),bs[z]? =some v->v= -1\/(0<=v/\v+f z<=M)
def BB(f:Nat->Nat)(M:Nat)(bs:List Int)(n:Nat):Prop:=∃(z:Nat) (v:Int),z < n/\bs[z]? =some v/\0<=v/\(M:Int)<=v+f z
def Up(bs Om:List Int):Prop:=Om.length=bs.length/\∀(z:Nat) (v:Int),bs[z]? =some v->∃v',Om[z]? =some v'/\v<=v'
end NT
namespace NT
open PySem PySem.Spec PyProof.Rows L2 L3
structure Gt where
 k:Str
 w:List Nat
 s:Bool
def nN(z:Nat):D:= .int z
def wN(w:List Nat):D:= .tup (w.map nN)
def gN(g:Gt):D:= .tup [.str g.k,wN g.w, .bl g.s]
def iN(x:Str × Nat):D:= .tup [.str x.1, .int x.2]
def oN(x:Str × List Nat):D:= .tup [.str x.1,wN x.2]
structure Net where
 i:Tj
 g:List Gt
 o:Tn
def Net.d(n:Net):D:= .tup [.lst (n.i.map iN), .lst (n.g.map gN), .lst (n.o.map oN)]
def Net.first(n:Net):Nat:=(n.i.map (·.2)).sum
structure M0 (n:Nat) (w:List Nat):Prop where
 ne:w≠[]
 le:w.length<=3
 lt:∀z∈w,z < n
structure Net.Ok (n:Net):Prop where
 i1:1<=n.i.length
 i6:n.i.length<=6
 iw:∀x∈n.i,1<=x.2/\x.2<=3
 is:∀x∈n.i,dt 0 (.str x.1)
 g60:n.g.length<=60
 gw:∀(p:Nat) (g:Gt),n.g[p]? =some g->M0 (n.first+p) g.w
 gs:∀g∈n.g,dt 0 (.str g.k)
 o1:1<=n.o.length
 o6:n.o.length<=6
 ow:∀x∈n.o,M0 (n.first+n.g.length) x.2
 os:∀x∈n.o,dt 0 (.str x.1)
theorem ne_self{n:Nat}{ds:List D}(h:dt n (.tup ds))(hn:n<=64):n0 (.tup ds) (.tup ds)= .ok (.bl false):=by unfold n0;rw [h.eqT hn];rfl
inductive Sm:Nat->D->Prop where
 | int (n:Nat) (i:Int):Sm n (.int i)
 | bl (n:Nat) (b:Bool):Sm n (.bl b)
 | str (n:Nat) (s:Str):Sm n (.str s)
 | lst {n:Nat} {ds:List D} (h:∀d∈ds,Sm n d) (hl:ds.length<=1000000):Sm (n+1) (.lst ds)
 | tup {n:Nat} {ds:List D} (h:∀d∈ds,Sm n d) (hl:ds.length<=1000000):Sm (n+1) (.tup ds)
theorem j9{F G:FS}{δ:aq}{d:D}(h:F δ= .ok (.rt d)):cU F G δ= .ok (.rt d):=by unfold cU;rw [h];rfl
theorem dn{α:Type}{l:List α}{f:α->D}{i:Nat}{v:V3}(h:((l.map f).map V3.d)[i]? =some v):∃x,l[i]? =some x/\v= .d (f x):=by
 rw[List.getElem?_map,List.getElem?_map] at h;cases q:l[i]? with
 | none=>rw [q] at h;cases h
 | some x=>rw [q] at h;cases h;exact⟨x,rfl,rfl⟩
theorem r9{α:Type}{l:List α}{f:α->D}{i:Nat}{v:D}(h:(l.map f)[i]? =some v):∃x,l[i]? =some x/\v=f x:=by
 rw[List.getElem?_map] at h;cases q:l[i]? with
 | none=>rw [q] at h;cases h
 | some x=>rw [q] at h;cases h;exact⟨x,rfl,rfl⟩
theorem bw{α:Type}{t:FT}{c:aq->R Bool}{f:FD}{δ:aq}(a b:α->D):∀{xs:List α},(∀x∈xs,∃δ1,t (a x) δ= .ok δ1/\c δ1= .ok true/\f δ1= .ok (b x))->l8 t c f δ (xs.map a)= .ok (xs.map b)
 | [],_=>rfl
 | x ::xs,h=>by
   obtain⟨δ1,h1,h2,h3⟩:=h x List.mem_cons_self;have ih:=bw (δ:=δ) a b fun y hy=>h y (List.mem_cons_of_mem _ hy)
   rw[List.map_cons];unfold l8;rw[h1,R.aM,h2,R.aM,if_pos rfl,h3,R.aM,ih];rfl
theorem fq{α:Type}{t:FT}{c:aq->R Bool}{f:FD}{δ:aq}(p:α->Bool)(a b:α->D):∀{xs:List α},(∀x∈xs,∃δ1,t (a x) δ= .ok δ1/\c δ1= .ok (p x)/\(p x=true->f δ1= .ok (b x)))->l8 t c f δ (xs.map a)= .ok ((xs.filter p).map b)
 | [],_=>rfl
 | x ::xs,h=>by
   obtain⟨δ1,h1,h2,h3⟩:=h x List.mem_cons_self;have ih:=fq (δ:=δ) p a b fun y hy=>h y (List.mem_cons_of_mem _ hy)
   rw[List.map_cons];unfold l8;rw[h1,R.aM,h2,R.aM];cases e:p x with
   | true=>rw [if_pos rfl,h3 e,R.aM,ih,List.filter_cons,if_pos e];rfl
   | false=>rw [if_neg (by decide),ih,List.filter_cons,if_neg (by rw[e];decide)]
theorem Ct{n z:Nat}(h:z < n):BY n (z:Int)=some z:=by
 unfold BY;rw[if_pos (by omega),if_pos (by omega)]
 simp
theorem zx{α:Type}{xs:List α}{z:Nat}{x:α}(h:xs[z]? =some x):uy xs (z:Int)=some x:=by
 have hl:=(List.getElem?_eq_some_iff.mp h).1;unfold uy;rw[Ct hl];exact h
theorem d6{ds:List D}{z:Nat}{x:D}(h:ds[z]? =some x):bJ (.lst ds) (.int z)= .ok x:=GO (zx h)
end NT
end
section
namespace MT
open PySem PySem.Spec PyProof.Rows L2 L3
abbrev M:=Nat->Bool
theorem K2{N:List Str}{F:FZ}{vs:List V3}{δ:DE}{S:bc}{QV:V3->bc->Prop}(e:eE N vs=δ)(h:W3 (F δ S) fun o S1=>∃df,o= .nx df/\QV (.d .cu) S1):W3 (sV N F vs S) QV:=by
 subst e;exact W3.bind (h.mono fun _ _ ⟨_,e,q⟩=>by subst e;exact W3.ok q)
def Nj:Nat->M->Nat
 | 0,_=>0
 | N+1,f=>(if f 0 then 1 else 0)+2*Nj N (fun i=>f (i+1))
def mI(N:Nat)(f:M):D:= .int (Nj N f:Nat)
def one:M:=fun _=>true
def bI(b:Bool):D:= .int (if b then 1 else 0)
def OY:List Bool->Nat
 | []=>0
 | b ::bs=>(if b then 1 else 0)+2*OY bs
def nI(n:Nat):D:= .int (n:Int)
def kS:Nat->Str | 0=>"not" | 1=>"and" | 2=>"or" | 3=>"xor" | _=>"vote"
def ar:Nat->Nat | 0=>1 | 4=>3 | _=>2
theorem qP(k:Nat):ar k<=3:=by unfold ar;split <;> omega
def gv:Nat->List Bool->Bool
 | 0,[a]=>!a
 | 1,[a,b]=>a && b
 | 2,[a,b]=>a || b
 | 3,[a,b]=>a !=b
 | 4,[a,b,c]=>(a && b) || (a && c) || (b && c)
 | _,_=>false
def Nh(ws:List M)(n:Nat):M:=ws.getD n fun _=>false
abbrev Gt:=Nat × List Nat × Bool
def c9(g:Gt):D:= .tup [.str (kS g.1), .tup (g.2.1.map nI), .bl g.2.2]
def Cs(n:Nat)(g:Gt):Prop:=g.1<=4/\g.2.1.length=ar g.1/\∀w∈g.2.1,w < n
def inD(x:Str × Nat):D:= .tup [.str x.1,nI x.2]
def dq(x:Str × List Nat):D:= .tup [.str x.1, .tup (x.2.map nI)]
def au(ins:Tj)(gs:List Gt)(os:Tn):D:= .tup [.lst (ins.map inD), .lst (gs.map c9), .lst (os.map dq)]
def bW(ins:Tj):Nat:=(ins.map (·.2)).sum
def gF(g:Gt)(ws:List M):M:=fun p=>gv g.1 (g.2.1.map fun n=>Nh ws n p)
def A3(bad:List Int)(b:M):Nat->List M->List M
 | 0,ws=>ws
 | n+1,ws=>A3 bad b n ws++[fun p=>b p !=bad.contains ((A3 bad b n ws).length:Int)]
def G8(ins:Tj)(bits:List M)(bad:List Int):Nat->List M
 | 0=>[]
 | i+1=>match ins[i]?,bits[i]? with | some x,some b=>A3 bad b x.2 (G8 ins bits bad i) | _,_=>G8 ins bits bad i
def Kr(gs:List Gt)(turned:List Int)(w0:List M):Nat->List M
 | 0=>w0
 | i+1=>match gs[i]? with | some g=>Kr gs turned w0 i++[fun p=>gF g (Kr gs turned w0 i) p !=turned.contains (i:Int)] | none=>Kr gs turned w0 i
structure dm (ins:Tj) (gs:List Gt) (os:Tn):Prop where
 hi:ins.length < 100
 hw:∀x∈ins,x.2 < 100
 hg:gs.length < 1000
 g:∀(i:Nat) (x:Gt),gs[i]? =some x->Cs (bW ins+i) x
 ho:os.length < 1000
 o:∀x∈os,x.2.length < 1000/\∀w∈x.2,w < bW ins+gs.length
def Rb(ins:Tj)(gs:List Gt)(bits:List M)(turned bad:List Int):List M:=Kr gs turned (G8 ins bits bad ins.length) gs.length
theorem jr:∀{l:Tj},(∀x∈l,x.2 < 100)->bW l<=100*l.length
 | [],_=>by simp [bW]
 | x ::l,h=>by
   have ih:=jr fun y hy=>h y (List.mem_cons_of_mem _ hy)
   have:=h x List.mem_cons_self;unfold bW at ih ⊢;rw[List.map_cons,List.sum_cons,List.length_cons];omega
def tell(ws:List M)(x:Str × List Nat):List M:=x.2.map (Nh ws)
def SK:List Bool->Bool × Bool
 | [a]=>(!a,a)
 | [a,b]=>(!(a || b),a && b)
 | [a,b,c]=>let v:=(a && b) || (a && c) || (b && c);(!v,v)
 | _=>(false,false)
def brk(safe:Bool)(x y:Bool × Bool):Bool:=if safe then(x.1 && y.2) || (x.2 && y.1) else(x.1 !=y.1) || (x.2 !=y.2)
theorem Du{ds:List D}{i:Nat}{v:V3}(h:((eD ds).map V3.d)[i]? =some v):∃d,ds[i]? =some d/\v= .d (.tup [.int i,d]):=by
 rw[List.getElem?_map,eD,List.getElem?_map,List.getElem?_zipIdx] at h;cases q:ds[i]? with
 | none=>rw [q] at h;cases h
 | some d=>
   rw[q] at h;simp at h;exact⟨d,rfl,h.symm⟩
theorem eB(S:bc)(x y:SO):(S++[x]).set S.length y=S++[y]:=by
 rw[List.set_append_right _ _ (Nat.le_refl _),Nat.sub_self];rfl
theorem cC(S:bc)(x:SO):(S++[x])[S.length]? =some x:=by rw[List.getElem?_append_right (Nat.le_refl _),Nat.sub_self];rfl
def Ph:List Nat->Nat->To
 | _,0=>[[]]
 | ps,s+1=>(List.range ps.length).flatMap fun a=>(Ph (ps.drop (a+1)) s).map (ps.getD a 0 ::·)
end MT
end
section
set_option maxHeartbeats 1000000
namespace JT
open PySem PySem.Spec PyProof.Rows L2 L3 MT
def gB(g:Gt)(ws:List Bool):Bool:=gv g.1 (g.2.1.map fun n=>ws.getD n false)
def sH:List Gt->(Nat->Bool)->List Bool->List Bool
 | [],_,ws=>ws
 | g ::gs,T,ws=>sH gs (fun i=>T (i+1)) (ws++[gB g ws !=T 0])
def eA(f:Nat->Nat)(g:Gt):Gt:=(g.1,g.2.1.map f,g.2.2)
def dO(f:Nat->Nat)(x:Str × List Nat):Str × List Nat:=(x.1,x.2.map f)
def Sh(f:Nat->Nat)(v ws:List Bool):Prop:=∀w,w < v.length->f w < ws.length/\ws.getD (f w) false=v.getD w false
def RV(p:Nat)(ws:List M):List Bool:=ws.map (· p)
def NH:List (Str × Nat)->List Bool->List Bool
 | x ::ins,b ::bits=>List.replicate x.2 b++NH ins bits
 | _,_=>[]
def Bl(k:Nat)(bad:Nat->Bool):List Bool->List Bool
 | []=>[]
 | b ::bs=>(b !=bad k) ::Bl (k+1) bad bs
def Mi(ins:Tj)(gs:List Gt)(bits:List Bool)(T bad:Nat->Bool):List Bool:=sH gs T (Bl 0 bad (NH ins bits))
end JT
end
section
namespace JT
open PySem PySem.Spec PyProof.Rows L2 L3 MT
def tZ(ws:List Bool)(ns:List Nat):List Bool:=ns.map fun n=>ws.getD n false
def zG(f:Nat->List Bool):List (Option Nat × Nat)->List Bool->List Bool
 | [],_=>[]
 | (some o,_) ::r,l=>f o++zG f r l
 | (none,w) ::r,l=>l.take w++zG f r (l.drop w)
def dk(f1:Nat->Nat)(os:Nat->List Nat):List (Option Nat × Nat)->Nat->List Nat
 | [],_=>[]
 | (some o,_) ::r,free=>(os o).map f1++dk f1 os r free
 | (none,w) ::r,free=>List.range' free w++dk f1 os r (free+w)
def bt:List (Option Nat × Nat)->Nat
 | []=>0
 | (some _,_) ::r=>bt r
 | (none,w) ::r=>w+bt r
theorem j0{f1:Nat->Nat}{os:Nat->List Nat}:∀(φ:List (Option Nat × Nat)) (free:Nat),(∀o w,(some o,w)∈φ->(os o).length=w)->(dk f1 os φ free).length=(φ.map (·.2)).sum
 | [],_,_=>rfl
 | (some o,w) ::r,free,h=>by
   unfold dk;rw[List.length_append,List.length_map,h o w List.mem_cons_self,j0 r free fun o w hh=>h o w (List.mem_cons_of_mem _ hh),List.map_cons,List.sum_cons]
 | (none,w) ::r,free,h=>by
   unfold dk;rw[List.length_append,List.length_range',j0 r (free+w) fun o w hh=>h o w (List.mem_cons_of_mem _ hh),List.map_cons,List.sum_cons]
def DS(n1 l w:Nat):Nat:=if w < n1 then w else w+l
def GB(L:List Nat)(top w:Nat):Nat:=if w < L.length then L.getD w 0 else top+(w - L.length)
section
variable {gs1 gs2:List Gt} {φ:List (Option Nat × Nat)} {os:Nat->List Nat} {n1:Nat} {r1 rl:List Bool} {T:Nat->Bool}
def gJ(gs1 gs2:List Gt)(φ:List (Option Nat × Nat))(os:Nat->List Nat)(n1:Nat):List Gt:=
 gs1.map (eA (DS n1 (bt φ)))++gs2.map (eA (GB (dk (DS n1 (bt φ)) os φ n1) (n1+bt φ+gs1.length)))
end
def HX(bits:List Bool):List Bool:=bits.flatMap (List.replicate 3)
def MS:List Bool->Bool
 | [a,b,c]=>(a && b) || (a && c) || (b && c)
 | _=>false
def NF:List Bool->Bool
 | [a,b,c]=>(a !=b) || (a !=c)
 | _=>false
def O5(xs ys:List Bool):List Bool:=List.zipWith (· !=·) xs ys
def lst(xs ys:List Bool):Bool:=MS (O5 xs ys)
def Jb:List Bool->List Bool->Prop
 | [],r=>r=[]
 | b ::bs,r=>∃x y z r',r=x ::y ::z ::r'/\MS [b !=x,b !=y,b !=z]=false/\Jb bs r'
def no:Nat->Bool:=fun _=>false
structure OK (c:Nat) (gs:List Gt) (os:Tn):Prop where
 a:∀bits:List Bool,bits.length=c->∀x∈os,NF (tZ (sH gs no (HX bits)) x.2)=false
 b:∀bits:List Bool,bits.length=c->∀i g,gs[i]? =some g->g.2.2=false->∀x∈os,lst (tZ (sH gs no (HX bits)) x.2) (tZ (sH gs (fun j=>j==i) (HX bits)) x.2)=false
 c:∀bits row:List Bool,bits.length=c->Jb bits row->∀x∈os,lst (tZ (sH gs no (HX bits)) x.2) (tZ (sH gs no row) x.2)=false
def xF(v:Nat->Bool):List (Option Nat × Nat)->List Bool->List Bool
 | [],_=>[]
 | (some o,_) ::r,l=>v o ::xF v r l
 | (none,_) ::r,l=>l.headD false ::xF v r l.tail
def many:List (Option Nat × Nat)->Nat
 | []=>0
 | (some _,_) ::r=>many r
 | (none,_) ::r=>many r+1
end JT
end
section
namespace JT
open PySem PySem.Spec PyProof.Rows L2 L3 MT
structure Sx (c1:Nat) (gs1 gs2:List Gt) (aF os2:Tn) (φ:List (Option Nat × Nat)) (os:Nat->List Nat):Prop where
 h3:∀x∈φ,x.2=3
 g1:∀i g,gs1[i]? =some g->∀w∈g.2.1,w < 3*c1+i
 g2:∀i g,gs2[i]? =some g->∀w∈g.2.1,w < 3*φ.length+i
 o1:∀x∈aF,x.2.length=3/\∀n∈x.2,n < 3*c1+gs1.length
 o2:∀x∈os2,x.2.length=3/\∀n∈x.2,n < 3*φ.length+gs2.length
 ho:∀o w,(some o,w)∈φ->∃x∈aF,x.2=os o
section
variable {c1:Nat} {gs1 gs2:List Gt} {aF os2 Ox:Tn} {φ:List (Option Nat × Nat)} {os:Nat->List Nat}
abbrev Nu(c1:Nat)(φ:List (Option Nat × Nat)):Nat->Nat:=DS (3*c1) (bt φ)
abbrev O3(c1:Nat)(gs1:List Gt)(φ:List (Option Nat × Nat))(os:Nat->List Nat):Nat->Nat:=GB (dk (Nu c1 φ) os φ (3*c1)) (3*c1+bt φ+gs1.length)
def M8(c1:Nat)(gs1:List Gt)(aF os2 Ox:Tn)(φ:List (Option Nat × Nat))(os:Nat->List Nat):Prop:=
 ∀x∈Ox,(∃y∈aF,x.2=y.2.map (Nu c1 φ))\/∃y∈os2,x.2=y.2.map (O3 c1 gs1 φ os)
end
end JT
end
section
namespace JT
open PySem PySem.Spec PyProof.Rows L2 L3 MT
def zZ:Nat->List (List Bool)
 | 0=>[[]]
 | c+1=>(zZ c).flatMap fun b=>[b++[false],b++[true]]
def Pn(c j:Nat):M:=fun p=>((zZ c).getD p []).getD j false
def Qe(c:Nat):List M:=(List.range c).map (Pn c)
def EB(c p:Nat):List Bool:=(zZ c).getD p []
def NS(f e:Nat):Nat->To
 | 0=>[[]]
 | m+1=>(List.range' f (e - f)).flatMap fun w=>(NS ((w / 3+1)*3) e m).map (w ::·)
def QQ(f e:Nat):List Nat->Prop
 | []=>True
 | w ::B=>f<=w/\w < e/\QQ ((w / 3+1)*3) e B
def KW(c:Nat)(gs:List Gt):List (List Nat × List Nat):=
 (gs.zipIdx.filter (fun x=>!x.1.2.2)).map (fun x=>(([]:List Nat),[x.2]))++(List.range' 1 c).flatMap fun m=>(NS 0 (3*c) m).map fun B=>(B,([]:List Nat))
def Ah(c:Nat)(gs:List Gt)(p:Nat):List Bool:=sH gs no (HX (EB c p))
def Hu(c:Nat)(gs:List Gt)(f:List Nat × List Nat)(p:Nat):List Bool:=sH gs (fun i=>f.2.contains i) (Bl 0 (fun n=>f.1.contains n) (HX (EB c p)))
def Ma(c:Nat)(gs:List Gt)(os:Tn)(p:Nat):Bool:=os.any fun x=>NF (tZ (Ah c gs p) x.2)
def IL(c:Nat)(gs:List Gt)(os:Tn)(f:List Nat × List Nat)(p:Nat):Bool:=os.any fun x=>lst (tZ (Ah c gs p) x.2) (tZ (Hu c gs f p) x.2)
def KQ(c:Nat)(gs:List Gt)(os:Tn):Option (List Nat × List Nat × Nat):=
 match (List.range (2 ^ c)).find? (Ma c gs os) with
 | some p=>some ([],[],p)
 | none=>(KW c gs).findSome? fun f=>((List.range (2 ^ c)).find? (IL c gs os f)).map fun p=>(f.1,f.2,p)
end JT
end
section
namespace JT
open PySem PySem.Spec PyProof.Rows L2 L3 MT
theorem gh{a b:Nat}(h:0 < b):eu (nI a) (nI b)= .ok (nI (a % b)):=by
 show eu (.int a) (.int b)=_;rw[pO (by omega)];rfl
theorem w9{a b:Nat}(h:0 < b)(h2:b < 1073741824):kL (nI a) (nI b)= .ok (nI (a / b)):=by
 show kL (.int a) (.int b)=_;rw[xZ (by omega) (by omega)];rfl
theorem cT(a b:Nat):bU (nI a) (nI b)= .ok (nI (a+b)):=rfl
theorem oj{a b:Nat}(h:b<=a):kI (nI a) (nI b)= .ok (nI (a - b)):=by
 show R.ok (D.int ((a:Int) - b))=R.ok (D.int ((a - b:Nat):Int));rw[Int.ofNat_sub h]
theorem qU{a b:Nat}(h:b < 1000000\/a < 1000000):jm (nI a) (nI b)= .ok (nI (a*b)):=by
 show R.aR (decide _) (R.ok (D.int ((a:Int)*b)))=_;have hc:(-(2 ^ 64) < (a:Int)/\(a:Int) < 2 ^ 64)\/(-(2 ^ 64) < (b:Int)/\(b:Int) < 2 ^ 64):=by
  rcases h with h | h
  .exact .inr ⟨by omega,by omega⟩
  .exact .inl ⟨by omega,by omega⟩
 rw[bS _ hc];rfl
theorem BL(a b:Nat):t7 (nI a) (nI b)= .ok (.bl (decide (a=b))):=by
 show R.ok (D.bl ((a:Int)==(b:Int)))=_;congr 2;by_cases h:a=b
 .rw [decide_eq_true h];exact beq_iff_eq.mpr (by omega)
 .rw [decide_eq_false h];exact beq_eq_false_iff_ne.mpr (by omega)
theorem Gj(a b:Nat):xj (nI a) (nI b)= .ok (.bl (decide (b < a))):=by
 show R.ok (D.bl (decide ((a:Int) > (b:Int))))=_;congr 2;by_cases h:b < a
 .rw [decide_eq_true h,decide_eq_true (by omega)]
 .rw [decide_eq_false h,decide_eq_false (by omega)]
theorem Mb(a b:Nat):Iv (nI a) (nI b)= .ok (.bl (decide (b<=a))):=by
 show R.ok (D.bl (decide ((a:Int)>=(b:Int))))=_;congr 2;by_cases h:b<=a
 .rw [decide_eq_true h,decide_eq_true (by omega)]
 .rw [decide_eq_false h,decide_eq_false (by omega)]
theorem LG(a b:Nat):Kp (nI a) (nI b)= .ok (.bl (decide (a<=b))):=by
 show R.ok (D.bl (decide ((a:Int)<=(b:Int))))=_;congr 2;by_cases h:a<=b
 .rw [decide_eq_true h,decide_eq_true (by omega)]
 .rw [decide_eq_false h,decide_eq_false (by omega)]
theorem Eu{a b:Nat}:tw [nI a,nI b]= .ok (nI (min a b)):=by
 show Cv [.int a, .int b]=_;show R.ok (D.int (if(b:Int) < a then b else a))=_
 congr 2;split <;> omega
theorem dv{ds:List D}:cz [.lst ds]= .ok (nI ds.length):=rfl
theorem FP{ds:List D}:cz [.tup ds]= .ok (nI ds.length):=rfl
theorem jk{f:FD}{δ:aq}{n:Nat}(h:f δ= .ok (nI n))(hn:n < 1000000):de f δ= .ok ((List.range n).map nI):=by
 rw[wO h hn];congr 1;refine List.map_congr_left fun i _=>?_
 show D.int (0+(i:Int))=D.int (i:Int);rw[Int.zero_add]
def R5(T:List Nat):D:= .tup (T.map nI)
def kdN(r:Nat):Nat:=[1,2,3,4,0].getD (r % 5) 0
theorem Ga(r:Nat):kdN r<=4:=by
 have:r % 5 < 5:=Nat.mod_lt _ (by omega)
 unfold kdN;generalize r % 5=m at this
 match m,this with
 | 0,_=>decide
 | 1,_=>decide
 | 2,_=>decide
 | 3,_=>decide
 | 4,_=>decide
theorem Jf{f:FD}{δ:aq}{r:Nat}(h:f δ= .ok (nI r)):e2 bJ (eNew (dP (ag (eC (.str "and")) (ag (eC (.str "or")) (ag (eC (.str "xor")) (ag (eC (.str "vote")) (ag (eC (.str "not")) aD))))))) (e2 eu f (eC (.int 5))) δ= .ok (.str (kS (kdN r))):=by
 have h5:r % 5 < 5:=Nat.mod_lt _ (by omega)
 refine aw rfl (aw (b:=nI 5) h rfl (gh (by omega))) (NT.d6 ?_)
 unfold kdN;generalize r % 5=m at h5
 match m,h5 with
 | 0,_=>rfl
 | 1,_=>rfl
 | 2,_=>rfl
 | 3,_=>rfl
 | 4,_=>rfl
theorem Jw{f:FD}{δ:aq}{k:Nat}(hk:k<=4)(h:f δ= .ok (.str (kS k))):zP [((Sum.inr "not":Key),V.int 1),((Sum.inr "vote":Key),V.int 3)] f (eC (.int 2)) δ= .ok (nI (ar k)):=by
 unfold zP;rw[h,R.aM]
 match k,hk with
 | 0,_=>rfl
 | 1,_=>rfl
 | 2,_=>rfl
 | 3,_=>rfl
 | 4,_=>rfl
end JT
end
section
namespace JT
open PySem PySem.Spec PyProof.Rows L2 L3 MT
end JT
end
section
namespace JT
open PySem PySem.Spec PyProof.Rows L2 L3 MT
theorem mB{S:bc}{q:Nat}{ds:List D}(e:S[q]? =some (.lst ds)):res S (.loc q)=some (.lst ds):=by unfold res;rw [e]
theorem qD{δ:DE}{S:bc}{i:Nat}{v:V3}{d:D}(h:δ[i]? =some (some v))(hr:res S v=some d):af i (dW S δ)= .ok d:=by
 unfold af dW;rw[List.getElem?_map,h];show(match (some (match res S v with | some d=>Sl.val d | none=> .un)) with | some (.val d)=>R.ok d | _=> .no)=_
 rw[hr]
theorem LB(S X:bc)(x:SO):(S++x ::X)[S.length]? =some x:=by rw[List.getElem?_append_right (Nat.le_refl _),Nat.sub_self];rfl
theorem Ek{f:aq->R (List D)}{g:FD}{δ:aq}{ds:List D}{n:Nat}(h1:f δ= .ok ds)(h2:g δ= .ok (nI n))(hn:n < 1000000)(hl:ds.length*n<=sizeLine):BK f g δ= .ok (List.replicate n ds).flatten:=by
 unfold BK;rw[h1,R.aM,h2,R.aM];show R.aR (decide (0<=(n:Int)/\(n:Int) < 1000000/\ds.length*(n:Int).toNat<=sizeLine)) _=_;rw[bS _ ⟨by omega,by omega,by rw[Int.toNat_natCast];exact hl⟩,Int.toNat_natCast]
theorem A8(d:D)(n:Nat):(List.replicate n [d]).flatten=List.replicate n d:=by
 induction n with
 | zero=>rfl
 | succ n ih=>rw [List.replicate_succ,List.flatten_cons,ih,List.replicate_succ];rfl
theorem Lm{ms:List Nat}{n x:Nat}(h:ms[n]? =some x):bJ (.lst (ms.map nI)) (nI n)= .ok (nI x):=NT.d6 (by rw[List.getElem?_map,h];rfl)
end JT
end
section
set_option maxHeartbeats 4000000
namespace K34
open PySem PySem.Spec PyProof.Rows L2 L3
def Cu:Tr:=fun _=>0
variable {P:Program} {w:World} {K:W.Frag} {mg:Tq} {base:Heap} {cl:Tr}
def top(i:Nat):Stmt:=PySem.Challenge.pw_bearfaults_k34_nets_joined.main.body.getD i (.Pass ⟨0,0,0,0⟩)
def fw:D:=(.int 6)
def dC:D:=(.int 60)
def eh:D:=(.int 6)
structure Tp (K:W.Frag) (mg:Tq):Prop where
 z_len:mg "len"=none
 z_sum:mg "sum"=none
 z_tuple:mg "tuple"=none
 z_list:mg "list"=none
 z_range:mg "range"=none
 z_enumerate:mg "enumerate"=none
 z_int:mg "int"=none
 z_min:mg "min"=none
 z_set:mg "set"=none
 z_isinstance:mg "isinstance"=none
 z_bool:mg "bool"=none
 fw:Glob K mg "MOST_INS" fw
 dC:Glob K mg "MOST_GATES" dC
 eh:Glob K mg "MOST_OUTS" eh
abbrev eS:Stmt:=top 9
noncomputable abbrev mh:List Str:=["one","other","pairs","out_place","in_place"]
noncomputable def qb:{b:List Stmt // bp eS=b}:=⟨_,by conv=>lhs;whnf⟩
noncomputable def lg:{b:Scope // aK eS=b}:=⟨_,by conv=>lhs;whnf⟩
theorem rJ:bB mh ["one","other","pairs"] lg.1:=⟨rfl,rfl,rfl,by decide+kernel,rfl,by decide+kernel,by decide+kernel⟩
def f_:FS:=(wL (b2 n0 (aG cz (ag (e2 bJ (e2 bJ (e2 bJ (af 0) (eC (.int 2))) (af 3)) (eC (.int 1))) aD)) (e2 bJ (e2 bJ (e2 bJ (af 1) (eC (.int 0))) (af 4)) (eC (.int 1)))) LQ sd)
def ml:FS:=(vq (bV (af 2)) (c7 2 (aX (aJ 3) (aX (aJ 4) cY))) f_)
def eV:List D->R D:=p6 mh ml
theorem rq{K:W.Frag}{mg:Tq}(T:Tp K mg)(h:Def K mg "check_fits" eS):Callee P w K mg base 1 "check_fits" 3 eV:=
 yQ h qb.2 lg.2 rJ fun _ _ _ _ _ _ _ hr nd=>(bA (oW (bh (aa 2)) (cJ (aL aH (aL aH cm))) (bA (gS (bC (uN hr.units) (aQ cQ rfl T.z_len PySem.boot_len (ab (az (az (az (aa 0) aj) (aa 3)) aj) ah)) (az (az (az (aa 1) aj) (aa 4)) aj)) (bA wR) gf))))
abbrev dQ:Stmt:=top 10
noncomputable abbrev fD:List Str:=["pairs","found","out_place","in_place"]
noncomputable def pM:{b:List Stmt // bp dQ=b}:=⟨_,by conv=>lhs;whnf⟩
noncomputable def jq:{b:Scope // aK dQ=b}:=⟨_,by conv=>lhs;whnf⟩
theorem qj:bB fD ["pairs"] jq.1:=⟨rfl,rfl,rfl,by decide+kernel,rfl,by decide+kernel,by decide+kernel⟩
def jc:FZ:=(bD (xG (bT (b2 vH (af 3) (af 1))) L1 lV) (rE (lr 1) (xP (af 3)) (xP (af 2))))
def gY:FZ:=(bD (b9 1 xy) (bD (jT (iP (bV (af 0))) (vh 2 (lu (gG 2) (lu (gG 3) vz))) jc) (mC (lr 1))))
def oV:List V3->bc->R3 V3:=sV fD gY
def eL:List V3->bc->R3 V3:=xJ fD gY
theorem qr{K:W.Frag}{mg:Tq}(T:Tp K mg)(h:Def K mg "outs_of_ins" dQ):dr P w K mg base Cu 1 "outs_of_ins" 1 oV:=
 Ia h pM.2 jq.2 qj fun _ _ _ _ _ _ _ hr nd=>(ay (bu w_) (ay (fu (bR (bh (aa 0))) (dF (a9 aN (a9 aN cP))) (ay (ma (l4 (bC (zC (jF hr)) (aa 3) (aa 1))) (bF Ez) fZ) (bF (uf (jF hr) (ax (aa 2)) (gZ 1) (ax (aa 3)))))) (bF (iV (gZ 1)))))
abbrev dU:Stmt:=top 11
noncomputable abbrev fB:List Str:=["told","names","name","rest"]
noncomputable def pB:{b:List Stmt // bp dU=b}:=⟨_,by conv=>lhs;whnf⟩
noncomputable def jK:{b:Scope // aK dU=b}:=⟨_,by conv=>lhs;whnf⟩
theorem qu:bB fB ["told"] jK.1:=⟨rfl,rfl,rfl,by decide+kernel,rfl,by decide+kernel,by decide+kernel⟩
def jj:FZ:=(bD (xG (bT (b2 vH (af 2) (af 1))) L1 lV) (rE (lr 1) (xP (af 2)) (xP (eC (.bl true)))))
def gU:FZ:=(bD (b9 1 xy) (jT (iP (bV (af 0))) (vh 2 (lu (gG 2) (lu (gG 3) vz))) jj))
def pF:List V3->bc->R3 V3:=sV fB gU
def cA:List V3->bc->R3 V3:=xJ fB gU
theorem qh{K:W.Frag}{mg:Tq}(T:Tp K mg)(h:Def K mg "check_names" dU):dr P w K mg base Cu 1 "check_names" 1 pF:=
 Ia h pB.2 jK.2 qu fun _ _ _ _ _ _ _ hr nd=>(ay (bu w_) (bF (fu (bR (bh (aa 0))) (dF (a9 aN (a9 aN cP))) (ay (ma (l4 (bC (zC (jF hr)) (aa 2) (aa 1))) (bF Ez) fZ) (bF (uf (jF hr) (ax jZ) (gZ 1) (ax (aa 2))))))))
abbrev eG:Stmt:=top 12
noncomputable abbrev dE:List Str:=["net"]
noncomputable def qm:{b:List Stmt // bp eG=b}:=⟨_,by conv=>lhs;whnf⟩
noncomputable def kY:{b:Scope // aK eG=b}:=⟨_,by conv=>lhs;whnf⟩
theorem rG:bB dE ["net"] kY.1:=⟨rfl,rfl,rfl,by decide+kernel,rfl,by decide+kernel,by decide+kernel⟩
def lT:FS:=(wL (t5 (b2 xj (aG cz (ag (e2 bJ (af 0) (eC (.int 0))) aD)) (eC fw)) (t5 (b2 xj (aG cz (ag (e2 bJ (af 0) (eC (.int 1))) aD)) (eC dC)) (b2 xj (aG cz (ag (e2 bJ (af 0) (eC (.int 2))) aD)) (eC eh)))) LQ sd)
def eN:List D->R D:=p6 dE lT
theorem rL{K:W.Frag}{mg:Tq}(T:Tp K mg)(h:Def K mg "check_room" eG):Callee P w K mg base 1 "check_room" 1 eN:=
 yQ h qm.2 kY.2 rG fun _ _ _ _ _ _ _ hr nd=>(bA (gS (mn (kz (bC yX (aQ cQ rfl T.z_len PySem.boot_len (ab (az (aa 0) aj) ah)) (oI T.fw rfl)) (kz (bC yX (aQ cQ rfl T.z_len PySem.boot_len (ab (az (aa 0) aj) ah)) (oI T.dC rfl)) (pJ (bC yX (aQ cQ rfl T.z_len PySem.boot_len (ab (az (aa 0) aj) ah)) (oI T.eh rfl)))))) (bA wR) gf))
abbrev eJ:Stmt:=top 13
noncomputable abbrev md:List Str:=["ins"]
noncomputable def qg:{b:List Stmt // bp eJ=b}:=⟨_,by conv=>lhs;whnf⟩
noncomputable def kZ:{b:Scope // aK eJ=b}:=⟨_,by conv=>lhs;whnf⟩
theorem rB:bB md ["ins"] kZ.1:=⟨rfl,rfl,rfl,by decide+kernel,rfl,by decide+kernel,by decide+kernel⟩
def mj:FS:=(iF (aG qM (ag (eNew (cb (bV (af 0)) (c7 2 (aX (aJ 0) (aX (aJ 1) cY))) fS (af 1) ["name","width"] [])) aD)))
def cw:List D->R D:=p6 md mj
theorem sC{K:W.Frag}{mg:Tq}(T:Tp K mg)(h:Def K mg "many_wires" eJ):Callee P w K mg base 1 "many_wires" 1 cw:=
 yQ h qg.2 kZ.2 rB fun _ _ _ _ _ _ _ hr nd=>(bA (cq (aQ (vU rfl) rfl T.z_sum PyProof.Rows.boot_sum (ab (a_ (bQ (bh (aa 0)) (fun _ _ _=>(cJ (aL aH (aL aH cm)))) (fun _ _ _=>bN) (fun _ _ _=>(aa 1)))) ah))))
abbrev iE:Stmt:=top 14
noncomputable abbrev qL:List Str:=["told","numbers"]
noncomputable def vA:{b:List Stmt // bp iE=b}:=⟨_,by conv=>lhs;whnf⟩
noncomputable def oG:{b:Scope // aK iE=b}:=⟨_,by conv=>lhs;whnf⟩
theorem yR:bB qL ["told","numbers"] oG.1:=⟨rfl,rfl,rfl,by decide+kernel,rfl,by decide+kernel,by decide+kernel⟩
def q9:FS:=(iF (aG iR (ag (eNew (cb (bV (af 0)) (aJ 0) fS (e2 bJ (af 1) (af 0)) ["wire"] [1])) aD)))
def dD:List D->R D:=p6 qL q9
theorem yJ{K:W.Frag}{mg:Tq}(T:Tp K mg)(h:Def K mg "rewired" iE):Callee P w K mg base 1 "rewired" 2 dD:=
 yQ h vA.2 oG.2 yR fun _ _ _ _ _ _ _ hr nd=>(bA (cq (cf kh rfl T.z_tuple PyProof.Rows.boot_tuple (ab (a_ (bQ (bh (aa 0)) (fun _ _ _=>aH) (fun _ _ _=>bN) (fun _ _ _=>(az (aa 1) (aa 0))))) ah))))
abbrev dg:Stmt:=top 15
noncomputable abbrev ja:List Str:=["gates","numbers"]
noncomputable def mY:{b:List Stmt // bp dg=b}:=⟨_,by conv=>lhs;whnf⟩
noncomputable def iA:{b:Scope // aK dg=b}:=⟨_,by conv=>lhs;whnf⟩
theorem nL:bB ja ["gates","numbers"] iA.1:=⟨rfl,rfl,rfl,by decide+kernel,rfl,by decide+kernel,by decide+kernel⟩
def je:FS:=(iF (eNew (cb (bV (af 0)) (c7 3 (aX (aJ 0) (aX (aJ 1) (aX (aJ 2) cY)))) fS (cN (ag (af 0) (ag (aG dD (ag (af 1) (ag (af 3) aD))) (ag (af 2) aD)))) ["kind","wires","sure"] [1])))
def cH:List D->R D:=p6 ja je
theorem nA{K:W.Frag}{mg:Tq}(T:Tp K mg)(h:Def K mg "rewired_gates" dg)(dJ:Callee P w K mg base 1 "rewired" 2 dD):Callee P w K mg base 2 "rewired_gates" 2 cH:=
 yQ h mY.2 iA.2 nL fun _ _ _ _ _ _ _ hr nd=>(bA (cq (a_ (bQ (bh (aa 0)) (fun _ _ _=>(cJ (aL aH (aL aH (aL aH cm))))) (fun _ _ _=>bN) (fun _ _ _=>(bj (ab (aa 0) (ab (aO dJ (ab (aa 1) (ab (aa 3) ah))) (ab (aa 2) ah)))))))))
abbrev dz:Stmt:=top 16
noncomputable abbrev jS:List Str:=["outs","numbers"]
noncomputable def nQ:{b:List Stmt // bp dz=b}:=⟨_,by conv=>lhs;whnf⟩
noncomputable def ji:{b:Scope // aK dz=b}:=⟨_,by conv=>lhs;whnf⟩
theorem oC:bB jS ["outs","numbers"] ji.1:=⟨rfl,rfl,rfl,by decide+kernel,rfl,by decide+kernel,by decide+kernel⟩
def jA:FS:=(iF (eNew (cb (bV (af 0)) (c7 2 (aX (aJ 0) (aX (aJ 1) cY))) fS (cN (ag (af 0) (ag (aG dD (ag (af 1) (ag (af 2) aD))) aD))) ["name","wires"] [1])))
def cV:List D->R D:=p6 jS jA
theorem pR{K:W.Frag}{mg:Tq}(T:Tp K mg)(h:Def K mg "rewired_outs" dz)(dJ:Callee P w K mg base 1 "rewired" 2 dD):Callee P w K mg base 2 "rewired_outs" 2 cV:=
 yQ h nQ.2 ji.2 oC fun _ _ _ _ _ _ _ hr nd=>(bA (cq (a_ (bQ (bh (aa 0)) (fun _ _ _=>(cJ (aL aH (aL aH cm)))) (fun _ _ _=>bN) (fun _ _ _=>(bj (ab (aa 0) (ab (aO dJ (ab (aa 1) (ab (aa 2) ah))) ah))))))))
abbrev dY:Stmt:=top 17
noncomputable abbrev fF:List Str:=["one","left_wires","many","numbers"]
noncomputable def oB:{b:List Stmt // bp dY=b}:=⟨_,by conv=>lhs;whnf⟩
noncomputable def jY:{b:Scope // aK dY=b}:=⟨_,by conv=>lhs;whnf⟩
theorem qi:bB fF ["one","left_wires"] jY.1:=⟨rfl,rfl,rfl,by decide+kernel,rfl,by decide+kernel,by decide+kernel⟩
def kO:FS:=(cU (eU 2 (aG cw (ag (e2 bJ (af 0) (eC (.int 0))) aD))) (cU (vG 3 (Df (af 2))) (cU (Cn 3 (cb (de (aG cz (ag (e2 bJ (af 0) (eC (.int 1))) aD))) (aJ 0) fS (e2 bU (e2 bU (af 2) (af 1)) (af 0)) ["place"] [1,2])) (zM 3 (iF (af 3))))))
def dS:List D->R D:=p6 fF kO
theorem qq{K:W.Frag}{mg:Tq}(T:Tp K mg)(h:Def K mg "one_numbers" dY)(cx:Callee P w K mg base 1 "many_wires" 1 cw):Callee P w K mg base 2 "one_numbers" 2 dS:=
 yQ h oB.2 jY.2 qi fun _ _ _ _ _ _ _ hr nd=>(aS (b_ (aO cx (ab (az (aa 0) aj) ah))) (aS (uL (D_ rfl (aa 2) rfl T.z_list rfl T.z_range)) (aS (Bn (bQ (b5 (aQ cQ rfl T.z_len PySem.boot_len (ab (az (aa 0) aj) ah)) rfl T.z_range) (fun _ _ _=>aH) (fun _ _ _=>bN) (fun _ _ _=>(aA bH (aA bH (aa 2) (aa 1)) (aa 0))))) (uP 3 (bA (cq (aa 3)))))))
abbrev dj:Stmt:=top 18
noncomputable abbrev d7:List Str:=["other","one","numbers","named","found","free","place","told","top"]
noncomputable def mH:{b:List Stmt // bp dj=b}:=⟨_,by conv=>lhs;whnf⟩
noncomputable def iB:{b:Scope // aK dj=b}:=⟨_,by conv=>lhs;whnf⟩
theorem nH:bB d7 ["other","one","numbers","named"] iB.1:=⟨rfl,rfl,rfl,by decide+kernel,rfl,by decide+kernel,by decide+kernel⟩
def eP:FS:=(wL (b2 vH (af 6) (af 3)) (q_ 4 (aG dD (ag (e2 bJ (e2 bJ (e2 bJ (af 1) (eC (.int 2))) (e2 xr (af 3) (af 6))) (eC (.int 1))) (ag (af 2) aD)))) (cU (q_ 4 (eNew (ux (af 5) (e2 bU (af 5) (e2 bJ (af 7) (eC (.int 1))))))) (eU 5 (e2 bU (af 5) (e2 bJ (af 7) (eC (.int 1)))))))
def jf:FS:=(cU (vG 4 (dP aD)) (cU (eU 5 (aG cw (ag (e2 bJ (af 1) (eC (.int 0))) aD))) (cU (vq (gW (e2 bJ (af 0) (eC (.int 0)))) (c7 2 (aX (aJ 6) (aX (aJ 7) cY))) eP) (cU (eU 8 (e2 bU (af 5) (aG cz (ag (e2 bJ (af 1) (eC (.int 1))) aD)))) (cU (q_ 4 (eNew (ux (af 8) (e2 bU (af 8) (aG cz (ag (e2 bJ (af 0) (eC (.int 1))) aD)))))) (zM 4 (iF (af 4))))))))
def dh:List D->R D:=p6 d7 jf
theorem nC{K:W.Frag}{mg:Tq}(T:Tp K mg)(h:Def K mg "other_numbers" dj)(cx:Callee P w K mg base 1 "many_wires" 1 cw)(dJ:Callee P w K mg base 1 "rewired" 2 dD):Callee P w K mg base 2 "other_numbers" 4 dh:=
 yQ h mH.2 iB.2 nH fun _ _ _ _ _ _ _ hr nd=>(aS (uL (cg ah)) (aS (b_ (aO cx (ab (az (aa 1) aj) ah))) (aS (oW (kq (az (aa 0) aj) rfl T.z_enumerate) (cJ (aL aH (aL aH cm))) (bA (gS (bC (zC (jF hr)) (aa 6) (aa 3)) (bA (mM (aO dJ (ab (az (az (az (aa 1) aj) (zh (jF hr) (aa 3) (aa 6) (fun _ _=>rfl))) aj) (ab (aa 2) ah))))) (aS (mM (a_ (uA rfl (aa 5) (aA bH (aa 5) (az (aa 7) aj)) rfl T.z_list rfl T.z_range))) (bA (b_ (aA bH (aa 5) (az (aa 7) aj)))))))) (aS (b_ (aA bH (aa 5) (aQ cQ rfl T.z_len PySem.boot_len (ab (az (aa 1) aj) ah)))) (aS (mM (a_ (uA rfl (aa 8) (aA bH (aa 8) (aQ cQ rfl T.z_len PySem.boot_len (ab (az (aa 0) aj) ah))) rfl T.z_list rfl T.z_range))) (uP 4 (bA (cq (aa 4)))))))))
abbrev jz:Stmt:=top 19
noncomputable abbrev l5:List Str:=["one","other","pairs","named","fed_by","left_ins","left_outs","numbers","others","ins","gates","outs"]
noncomputable def yB:{b:List Stmt // bp jz=b}:=⟨_,by conv=>lhs;whnf⟩
noncomputable def qE:{b:Scope // aK jz=b}:=⟨_,by conv=>lhs;whnf⟩
theorem Bz:bB l5 ["one","other","pairs"] qE.1:=⟨rfl,rfl,rfl,by decide+kernel,rfl,by decide+kernel,by decide+kernel⟩
def oe:FZ:=(bD (qY (xP (aG eV (ag (af 0) (ag (af 1) (ag (af 2) aD)))))) (bD (b9 3 (jh eL (bO (xP (af 2)) iJ))) (bD (b9 4 (xP (eNew (cb (bV (af 2)) (c7 2 (aX (aJ 0) (aX (aJ 1) cY))) fS (af 0) ["out_place","in_place"] [])))) (bD (b9 5 (fX (iP (gW (e2 bJ (af 1) (eC (.int 0))))) (vh 2 (lu (gG 0) (lu (gG 1) vz))) (bP (b2 D8 (af 0) (af 2))) (xP (af 1)) ["place","told"] [3])) (bD (b9 6 (fX (iP (gW (e2 bJ (af 0) (eC (.int 2))))) (vh 2 (lu (gG 0) (lu (gG 1) vz))) (bP (b2 mF (af 0) (af 2))) (xP (af 1)) ["place","told"] [4])) (bD (b9 7 (xP (aG dS (ag (af 0) (ag (aG cw (ag (af 5) aD)) aD))))) (bD (b9 8 (xP (aG dh (ag (af 1) (ag (af 0) (ag (af 7) (ag (af 3) aD))))))) (bD (b9 9 (zK (xP (e2 bJ (af 0) (eC (.int 0)))) (xP (af 5)))) (bD (b9 10 (zK (xP (aG cH (ag (e2 bJ (af 0) (eC (.int 1))) (ag (af 7) aD)))) (xP (aG cH (ag (e2 bJ (af 1) (eC (.int 1))) (ag (af 8) aD)))))) (bD (b9 11 (zK (xP (aG cV (ag (af 6) (ag (af 7) aD)))) (xP (aG cV (ag (e2 bJ (af 1) (eC (.int 2))) (ag (af 8) aD)))))) (bD (qY (sM cA (bO (lr 9) iJ))) (bD (qY (sM cA (bO (lr 11) iJ))) (bD (qY (xT (aG eN (ag (cN (ag (af 9) (ag (af 10) (ag (af 11) aD)))) aD)))) (mC (Gn (bO (lr 9) (bO (lr 10) (bO (lr 11) iJ))))))))))))))))))
def f7:List V3->bc->R3 V3:=sV l5 oe
def kr:List V3->bc->R3 V3:=xJ l5 oe
theorem Ba{K:W.Frag}{mg:Tq}(T:Tp K mg)(h:Def K mg "joined" jz)(i7:Callee P w K mg base 1 "check_fits" 3 eV)(cx:Callee P w K mg base 1 "many_wires" 1 cw)(ia:Callee P w K mg base 2 "one_numbers" 2 dS)(fT:Callee P w K mg base 2 "other_numbers" 4 dh)(d8:Callee P w K mg base 2 "rewired_gates" 2 cH)(eW:Callee P w K mg base 2 "rewired_outs" 2 cV)(i5:Callee P w K mg base 1 "check_room" 1 eN)(gC:dr P w K mg base Cu 1 "outs_of_ins" 1 eL)(eX:dr P w K mg base Cu 1 "check_names" 1 cA):dr P w K mg base Cu 3 "joined" 3 f7:=
 Ia h yB.2 qE.2 Bz fun _ _ _ _ _ _ _ hr nd=>(ay (nW (ax (aO i7 (ab (aa 0) (ab (aa 1) (ab (aa 2) ah)))))) (ay (bu (iQ gC (bg (ax (aa 2)) eM))) (ay (bu (ax (a_ (bQ (bh (aa 2)) (fun _ _ _=>(cJ (aL aH (aL aH cm)))) (fun _ _ _=>bN) (fun _ _ _=>(aa 0)))))) (ay (cM (bR (kq (az (aa 1) aj) rfl T.z_enumerate)) (fun _ _ _=>(dF (a9 aN (a9 aN cP)))) (fun _ _ _=>(ot (fJ (bC (JK (jF hr)) (aa 0) (aa 2))))) (fun _ _ _=>(ax (aa 1)))) (ay (cM (bR (kq (az (aa 0) aj) rfl T.z_enumerate)) (fun _ _ _=>(dF (a9 aN (a9 aN cP)))) (fun _ _ _=>(ot (fJ (bC nU (aa 0) (aa 2))))) (fun _ _ _=>(ax (aa 1)))) (ay (bu (ax (aO ia (ab (aa 0) (ab (aO cx (ab (aa 5) ah)) ah))))) (ay (bu (ax (aO fT (ab (aa 1) (ab (aa 0) (ab (aa 7) (ab (aa 3) ah))))))) (ay (bu (vm (ax (az (aa 0) aj)) (ax (aa 5)))) (ay (bu (vm (ax (aO d8 (ab (az (aa 0) aj) (ab (aa 7) ah)))) (ax (aO d8 (ab (az (aa 1) aj) (ab (aa 8) ah)))))) (ay (bu (vm (ax (aO eW (ab (aa 6) (ab (aa 7) ah)))) (ax (aO eW (ab (az (aa 1) aj) (ab (aa 8) ah)))))) (ay (nW (uC eX (bg (gZ 9) eM))) (ay (nW (uC eX (bg (gZ 11) eM))) (ay (nW (CG (aO i5 (ab (bj (ab (aa 9) (ab (aa 10) (ab (aa 11) ah)))) ah)))) (bF (iV (G4 (bg (gZ 9) (bg (gZ 10) (bg (gZ 11) eM)))))))))))))))))))
abbrev gb:Stmt:=top 21
noncomputable abbrev iL:List Str:=["cell","k","number"]
noncomputable def uw:{b:List Stmt // bp gb=b}:=⟨_,by conv=>lhs;whnf⟩
noncomputable def nj:{b:Scope // aK gb=b}:=⟨_,by conv=>lhs;whnf⟩
theorem vB:bB iL ["cell","k"] nj.1:=⟨rfl,rfl,rfl,by decide+kernel,rfl,by decide+kernel,by decide+kernel⟩
def o8:FS:=(cU (wL (b2 Iv (af 0) (e2 yE (eC (.int 10)) (eC (.int 18)))) (iF (e2 eu (e2 JL (e2 kI (af 0) (e2 yE (eC (.int 10)) (eC (.int 18)))) (e2 jm (eC (.int 28)) (af 1))) (e2 yE (eC (.int 2)) (eC (.int 28))))) sd) (cU (eU 2 (e2 eu (e2 jm (e2 bU (e2 bU (af 0) (e2 jm (eC (.int 1013)) (af 1))) (eC (.int 1))) (eC (.int 16807))) (eC (.int 2147483647)))) (cU (eU 2 (e2 eu (e2 jm (af 2) (af 2)) (eC (.int 2147483629)))) (iF (e2 kL (e2 eu (e2 jm (af 2) (eC (.int 39373))) (eC (.int 2147483587))) (eC (.int 8)))))))
def aV:List D->R D:=p6 iL o8
theorem vN{K:W.Frag}{mg:Tq}(T:Tp K mg)(h:Def K mg "_law_stir" gb):Callee P w K mg base 1 "_law_stir" 2 aV:=
 yQ h uw.2 nj.2 vB fun _ _ _ _ _ _ _ hr nd=>(aS (gS (bC JN (aa 0) (aA AD aj aj)) (bA (cq (aA eT (aA IS (aA mw (aa 0) (aA AD aj aj)) (aA jo aj (aa 1))) (aA AD aj aj)))) gf) (aS (b_ (aA eT (aA jo (aA bH (aA bH (aa 0) (aA jo aj (aa 1))) aj) aj) aj)) (aS (b_ (aA eT (aA jo (aa 2) (aa 2)) aj)) (bA (cq (aA pI (aA eT (aA jo (aa 2) aj) aj) aj))))))
abbrev dR:Stmt:=top 22
noncomputable abbrev fE:List Str:=["cell","first","letters","widths","many","ins","count","gates","place","number","kind","some","outs","called","width"]
noncomputable def oP:{b:List Stmt // bp dR=b}:=⟨_,by conv=>lhs;whnf⟩
noncomputable def jE:{b:Scope // aK dR=b}:=⟨_,by conv=>lhs;whnf⟩
theorem qa:bB fE ["cell","first","letters","widths"] jE.1:=⟨rfl,rfl,rfl,by decide+kernel,rfl,by decide+kernel,by decide+kernel⟩
def fP:FZ:=(bD (b9 9 (xP (aG aV (ag (af 0) (ag (e2 bU (e2 bU (af 1) (eC (.int 10))) (e2 jm (eC (.int 5)) (af 8))) aD))))) (bD (b9 10 (xP (e2 bJ (eNew (dP (ag (eC (.str "and")) (ag (eC (.str "or")) (ag (eC (.str "xor")) (ag (eC (.str "vote")) (ag (eC (.str "not")) aD))))))) (e2 eu (af 9) (eC (.int 5)))))) (bD (b9 4 (xP (zP [((Sum.inr "not":Key),V.int 1),((Sum.inr "vote":Key),V.int 3)] (af 10) (eC (.int 2))))) (bD (b9 11 (fX (iP (de (af 4))) (gG 0) oU (xP (e2 eu (aG aV (ag (af 1) (ag (e2 bU (e2 bU (e2 bU (af 2) (eC (.int 11))) (e2 jm (eC (.int 5)) (af 4))) (af 0)) aD))) (e2 bU (af 3) (af 4)))) ["k"] [0,1,6,8])) (qc 7 (xP (cN (ag (af 10) (ag (aG iR (ag (af 11) aD)) (ag (e2 t7 (e2 eu (e2 kL (af 9) (eC (.int 5))) (eC (.int 3))) (eC (.int 0))) aD))))))))))
def fR:FZ:=(bD (b9 14 (xP (e2 bJ (af 3) (e2 eu (aG aV (ag (af 0) (ag (e2 bU (e2 bU (af 1) (eC (.int 60))) (e2 jm (eC (.int 5)) (af 8))) aD))) (aG cz (ag (af 3) aD)))))) (bD (b9 11 (fX (iP (de (af 14))) (gG 0) oU (xP (e2 eu (aG aV (ag (af 1) (ag (e2 bU (e2 bU (e2 bU (af 2) (eC (.int 61))) (e2 jm (eC (.int 5)) (af 5))) (af 0)) aD))) (e2 bU (af 3) (aG cz (ag (af 4) aD))))) ["k"] [0,1,6,7,8])) (qc 12 (xP (cN (ag (e2 bJ (af 13) (af 8)) (ag (aG iR (ag (af 11) aD)) aD)))))))
def g_:FZ:=(bD (b9 4 (xP (e2 bU (eC (.int 1)) (e2 eu (aG aV (ag (af 0) (ag (af 1) aD))) (eC (.int 3)))))) (bD (b9 5 (fX (iP (de (af 4))) (gG 0) oU (xP (cN (ag (e2 bJ (af 3) (af 0)) (ag (e2 bJ (af 4) (e2 eu (aG aV (ag (af 1) (ag (e2 bU (e2 bU (af 2) (eC (.int 1))) (af 0)) aD))) (aG cz (ag (af 4) aD)))) aD)))) ["k"] [0,1,2,3])) (bD (b9 6 (xP (aG qM (ag (eNew (cb (bV (af 5)) (c7 2 (aX (aJ 0) (aX (aJ 1) cY))) fS (af 1) ["name","width"] [])) aD)))) (bD (b9 7 (vD (dP aD))) (bD (jT (iP (de (e2 eu (aG aV (ag (af 0) (ag (e2 bU (af 1) (eC (.int 5))) aD))) (eC (.int 8))))) (gG 8) fP) (sL 7 (bD (b9 12 (vD (dP aD))) (bD (b9 13 (xP (Ib (af 2) (pH (e2 kI (eC (.int 4)) (e2 jm (eC (.int 4)) (aG tF (ag (e2 t7 (e2 eu (aG aV (ag (af 0) (ag (e2 bU (af 1) (eC (.int 7))) aD))) (eC (.int 3))) (eC (.int 0))) aD))))) xH))) (bD (jT (iP (de (e2 bU (eC (.int 1)) (e2 eu (aG aV (ag (af 0) (ag (e2 bU (af 1) (eC (.int 6))) aD))) (eC (.int 3)))))) (gG 8) fR) (sL 12 (mC (xP (cN (ag (af 5) (ag (af 7) (ag (af 12) aD))))))))))))))))
def ox:List V3->bc->R3 V3:=sV fE g_
def eK:List V3->bc->R3 V3:=xJ fE g_
theorem p_{K:W.Frag}{mg:Tq}(T:Tp K mg)(h:Def K mg "_law_any_net" dR)(bz:Callee P w K mg base 1 "_law_stir" 2 aV):dr P w K mg base Cu 2 "_law_any_net" 4 ox:=
 Ia h oP.2 jE.2 qa fun _ _ _ _ _ _ _ hr nd=>(ay (bu (ax (aA bH aj (aA eT (aO bz (ab (aa 0) (ab (aa 1) ah))) aj)))) (ay (cM (bR (b5 (aa 4) rfl T.z_range)) (fun _ _ _=>aN) (fun _ _ _=>fj) (fun _ _ _=>(ax (bj (ab (az (aa 3) (aa 0)) (ab (az (aa 4) (aA eT (aO bz (ab (aa 1) (ab (aA bH (aA bH (aa 2) aj) (aa 0)) ah))) (aQ cQ rfl T.z_len PySem.boot_len (ab (aa 4) ah)))) ah)))))) (ay (bu (ax (aQ (vU rfl) rfl T.z_sum PyProof.Rows.boot_sum (ab (a_ (bQ (bh (aa 5)) (fun _ _ _=>(cJ (aL aH (aL aH cm)))) (fun _ _ _=>bN) (fun _ _ _=>(aa 1)))) ah)))) (ay (bu (oA (cg ah))) (ay (fu (bR (b5 (aA eT (aO bz (ab (aa 0) (ab (aA bH (aa 1) aj) ah))) aj) rfl T.z_range)) aN (ay (bu (ax (aO bz (ab (aa 0) (ab (aA bH (aA bH (aa 1) aj) (aA jo aj (aa 8))) ah))))) (ay (bu (ax (az (a_ (cg (ab b8 (ab b8 (ab b8 (ab b8 (ab b8 ah))))))) (aA eT (aa 9) aj)))) (ay (bu (ax (DK (jF hr) (mq pQ pC (mq pQ pC xK)) rfl rfl (by simp) (fun _ _ _ h=>h) (by decide) (aa 10) aj ⟨rfl,rfl,rfl,rfl⟩ (DZ (mq pQ pC (mq pQ pC xK)) rfl rfl (by simp) (by decide))))) (ay (cM (bR (b5 (aa 4) rfl T.z_range)) (fun _ _ _=>aN) (fun _ _ _=>fj) (fun _ _ _=>(ax (aA eT (aO bz (ab (aa 1) (ab (aA bH (aA bH (aA bH (aa 2) aj) (aA jo aj (aa 4))) (aa 0)) ah))) (aA bH (aa 3) (aa 4)))))) (bF (mK (ax (bj (ab (aa 10) (ab (cf kh rfl T.z_tuple PyProof.Rows.boot_tuple (ab (aa 11) ah)) (ab (n5 (qo hr.units) (aA eT (aA pI (aa 9) aj) aj) aj) ah)))))))))))) (l7 7 (ay (bu (oA (cg ah))) (ay (bu (ax (AF (aa 2) (oF (aA mw aj (aA jo aj (cf Ap rfl T.z_int PyProof.Rows.boot_int (ab (n5 (qo hr.units) (aA eT (aO bz (ab (aa 0) (ab (aA bH (aa 1) aj) ah))) aj) aj) ah))))) u7))) (ay (fu (bR (b5 (aA bH aj (aA eT (aO bz (ab (aa 0) (ab (aA bH (aa 1) aj) ah))) aj)) rfl T.z_range)) aN (ay (bu (ax (az (aa 3) (aA eT (aO bz (ab (aa 0) (ab (aA bH (aA bH (aa 1) aj) (aA jo aj (aa 8))) ah))) (aQ cQ rfl T.z_len PySem.boot_len (ab (aa 3) ah)))))) (ay (cM (bR (b5 (aa 14) rfl T.z_range)) (fun _ _ _=>aN) (fun _ _ _=>fj) (fun _ _ _=>(ax (aA eT (aO bz (ab (aa 1) (ab (aA bH (aA bH (aA bH (aa 2) aj) (aA jo aj (aa 5))) (aa 0)) ah))) (aA bH (aa 3) (aQ cQ rfl T.z_len PySem.boot_len (ab (aa 4) ah))))))) (bF (mK (ax (bj (ab (az (aa 13) (aa 8)) (ab (cf kh rfl T.z_tuple PyProof.Rows.boot_tuple (ab (aa 11) ah)) ah))))))))) (l7 12 (bF (iV (ax (bj (ab (aa 5) (ab (aa 7) (ab (aa 12) ah)))))))))))))))))
abbrev fL:Stmt:=top 23
noncomputable abbrev gQ:List Str:=["cell","one","other","found","place","fits","number"]
noncomputable def sN:{b:List Stmt // bp fL=b}:=⟨_,by conv=>lhs;whnf⟩
noncomputable def lY:{b:Scope // aK fL=b}:=⟨_,by conv=>lhs;whnf⟩
theorem tT:bB gQ ["cell","one","other"] lY.1:=⟨rfl,rfl,rfl,by decide+kernel,rfl,by decide+kernel,by decide+kernel⟩
def g9:FZ:=(bD (b9 5 (fX (iP (de (aG cz (ag (e2 bJ (af 1) (eC (.int 2))) aD)))) (gG 0) (bP (b2 t7 (aG cz (ag (e2 bJ (e2 bJ (e2 bJ (af 1) (eC (.int 2))) (af 0)) (eC (.int 1))) aD)) (e2 bJ (e2 bJ (e2 bJ (af 2) (eC (.int 0))) (af 3)) (eC (.int 1))))) (xP (af 0)) ["out"] [1,2,4])) (bD (b9 6 (xP (aG aV (ag (af 0) (ag (e2 bU (eC (.int 80)) (af 4)) aD))))) (xG (bP (yK (b2 n0 (af 5) (eNew (dP aD))) (b2 xj (e2 eu (af 6) (eC (.int 4))) (eC (.int 0))))) (qc 3 (xP (cN (ag (e2 bJ (af 5) (e2 eu (e2 kL (af 6) (eC (.int 4))) (aG cz (ag (af 5) aD)))) (ag (af 4) aD))))) lV)))
def jQ:FZ:=(bD (b9 3 (vD (dP aD))) (bD (jT (iP (de (aG cz (ag (e2 bJ (af 2) (eC (.int 0))) aD)))) (gG 4) g9) (sL 3 (bD (xG (bP (b2 t7 (e2 eu (aG aV (ag (af 0) (ag (eC (.int 84)) aD))) (eC (.int 2))) (eC (.int 0)))) (b9 3 (xP (Js (af 3)))) lV) (mC (xP (af 3)))))))
def so:List V3->bc->R3 V3:=sV gQ jQ
def iO:List V3->bc->R3 V3:=xJ gQ jQ
theorem tI{K:W.Frag}{mg:Tq}(T:Tp K mg)(h:Def K mg "_law_pairs" fL)(bz:Callee P w K mg base 1 "_law_stir" 2 aV):dr P w K mg base Cu 2 "_law_pairs" 3 so:=
 Ia h sN.2 lY.2 tT fun _ _ _ _ _ _ _ hr nd=>(ay (bu (oA (cg ah))) (ay (fu (bR (b5 (aQ cQ rfl T.z_len PySem.boot_len (ab (az (aa 2) aj) ah)) rfl T.z_range)) aN (ay (cM (bR (b5 (aQ cQ rfl T.z_len PySem.boot_len (ab (az (aa 1) aj) ah)) rfl T.z_range)) (fun _ _ _=>aN) (fun _ _ _=>(ot (fJ (bC (qo hr.units) (aQ cQ rfl T.z_len PySem.boot_len (ab (az (az (az (aa 1) aj) (aa 0)) aj) ah)) (az (az (az (aa 2) aj) (aa 3)) aj))))) (fun _ _ _=>(ax (aa 0)))) (ay (bu (ax (aO bz (ab (aa 0) (ab (aA bH aj (aa 4)) ah))))) (bF (ma (fJ (mn (uk (bC (uN hr.units) (aa 5) (a_ (cg ah))) (qR (bC yX (aA eT (aa 6) aj) aj))))) (bF (mK (ax (bj (ab (az (aa 5) (aA eT (aA pI (aa 6) aj) (aQ cQ rfl T.z_len PySem.boot_len (ab (aa 5) ah)))) (ab (aa 4) ah)))))) fZ))))) (l7 3 (ay (ma (fJ (bC (qo hr.units) (aA eT (aO bz (ab (aa 0) (ab aj ah))) aj) aj)) (bF (bu (ax (Di (aa 3) (oF (CV aj)))))) fZ) (bF (iV (ax (aa 3))))))))
abbrev eQ:Stmt:=top 24
noncomputable abbrev iT:List Str:=["net","side","found","place","name","width"]
noncomputable def qv:{b:List Stmt // bp eQ=b}:=⟨_,by conv=>lhs;whnf⟩
noncomputable def kW:{b:Scope // aK eQ=b}:=⟨_,by conv=>lhs;whnf⟩
theorem sx:bB iT ["net","side"] kW.1:=⟨rfl,rfl,rfl,by decide+kernel,rfl,by decide+kernel,by decide+kernel⟩
def gm:FS:=(eU 2 (e2 bU (af 2) (eNew (cb (de (af 5)) (aJ 0) fS (cN (ag (af 1) (ag (eC (.str "in")) (ag (af 2) (ag (af 0) aD))))) ["k"] [1,3]))))
def lX:FS:=(cU (eU 2 (eNew (dP aD))) (cU (vq (gW (e2 bJ (af 0) (eC (.int 0)))) (c7 2 (aX (aJ 3) (aX (c7 2 (aX (aJ 4) (aX (aJ 5) cY))) cY))) gm) (iF (e2 bU (af 2) (eNew (cb (de (aG cz (ag (e2 bJ (af 0) (eC (.int 1))) aD))) (aJ 0) fS (cN (ag (af 1) (ag (eC (.str "gate")) (ag (af 0) (ag (eC (.int 0)) aD))))) ["place"] [1]))))))
def dA:List D->R D:=p6 iT lX
theorem sG{K:W.Frag}{mg:Tq}(T:Tp K mg)(h:Def K mg "_law_labels" eQ):Callee P w K mg base 1 "_law_labels" 2 dA:=
 yQ h qv.2 kW.2 sx fun _ _ _ _ _ _ _ hr nd=>(aS (b_ (a_ (cg ah))) (aS (oW (kq (az (aa 0) aj) rfl T.z_enumerate) (cJ (aL aH (aL (cJ (aL aH (aL aH cm))) cm))) (bA (b_ (aA bH (aa 2) (a_ (bQ (b5 (aa 5) rfl T.z_range) (fun _ _ _=>aH) (fun _ _ _=>bN) (fun _ _ _=>(bj (ab (aa 1) (ab b8 (ab (aa 2) (ab (aa 0) ah)))))))))))) (bA (cq (aA bH (aa 2) (a_ (bQ (b5 (aQ cQ rfl T.z_len PySem.boot_len (ab (az (aa 0) aj) ah)) rfl T.z_range) (fun _ _ _=>aH) (fun _ _ _=>bN) (fun _ _ _=>(bj (ab (aa 1) (ab b8 (ab (aa 0) (ab aj ah)))))))))))))
abbrev iq:Stmt:=top 25
noncomputable abbrev kj:List Str:=["one","other","pairs","mine","yours","fed","out","place","k","wire","places","used","ins","labels","gates","net","own","kind","wires","sure","some","outs","gone","name"]
noncomputable def wa:{b:List Stmt // bp iq=b}:=⟨_,by conv=>lhs;whnf⟩
noncomputable def pN:{b:Scope // aK iq=b}:=⟨_,by conv=>lhs;whnf⟩
theorem yT:bB kj ["one","other","pairs"] pN.1:=⟨rfl,rfl,rfl,by decide+kernel,rfl,by decide+kernel,by decide+kernel⟩
def jB:FZ:=(vM (lr 5) (bO (xP (eC (.str "other"))) (bO (xP (eC (.str "in"))) (bO (xP (af 7)) (bO (xP (af 8)) iJ)))) (xP (e2 bJ (af 3) (af 9))))
def gP:FZ:=(jT (iP (rY (e2 bJ (e2 bJ (e2 bJ (af 0) (eC (.int 2))) (af 6)) (eC (.int 1))))) (vh 2 (lu (gG 8) (lu (gG 9) vz))) jB)
def ju:FZ:=(bD (b9 20 (fX (iP (bV (af 18))) (gG 0) oU (lh 1 (e2 bJ (af 2) (af 0)) (e2 bJ (af 2) (af 0))) ["wire"] [5,16])) (qc 14 (xP (cN (ag (af 17) (ag (aG iR (ag (eNew (cb (bV (af 20)) (aJ 0) fS (Gg "list" iM (af 1) (ag (af 0) aD)) ["label"] [13])) aD)) (ag (af 19) aD)))))))
def jC:FZ:=(jT (iP (bV (e2 bJ (af 15) (eC (.int 1))))) (vh 3 (lu (gG 17) (lu (gG 18) (lu (gG 19) vz)))) ju)
def jR:FZ:=(bD (b9 20 (fX (iP (bV (af 18))) (gG 0) oU (lh 1 (e2 bJ (af 2) (af 0)) (e2 bJ (af 2) (af 0))) ["wire"] [5,16])) (xG (bP (b2 mF (af 7) (af 22))) (qc 21 (xP (cN (ag (af 23) (ag (aG iR (ag (eNew (cb (bV (af 20)) (aJ 0) fS (Gg "list" iM (af 1) (ag (af 0) aD)) ["label"] [13])) aD)) aD))))) lV))
def jy:FZ:=(jT (iP (rY (e2 bJ (af 15) (eC (.int 2))))) (vh 2 (lu (gG 7) (lu (vh 2 (lu (gG 23) (lu (gG 18) vz))) vz))) jR)
def mT:FZ:=(bD (b9 3 (xP (aG dA (ag (af 0) (ag (eC (.str "one")) aD))))) (bD (b9 4 (xP (aG dA (ag (af 1) (ag (eC (.str "other")) aD))))) (bD (b9 5 v8) (bD (jT (iP (bV (af 2))) (vh 2 (lu (gG 6) (lu (gG 7) vz))) gP) (bD (b9 10 (xP (eNew (cb (bV (af 2)) (c7 2 (aX (aJ 0) (aX (aJ 1) cY))) fS (af 1) ["out","place"] [])))) (bD (b9 11 (fX (iP (bV (af 2))) (vh 2 (lu (gG 0) (lu (gG 1) vz))) oU (xP (af 0)) ["out","place"] [])) (bD (b9 12 (xP (aG jH (ag (e2 bJ (af 0) (eC (.int 0))) aD)))) (bD (b9 13 (xP (eNew (cb (bV (af 3)) (aJ 0) (b2 t7 (e2 bJ (af 0) (eC (.int 1))) (eC (.str "in"))) (af 0) ["label"] [])))) (bD (b9 13 (xP (e2 bU (af 13) (eNew (cb (bV (af 4)) (aJ 0) (yK (b2 t7 (e2 bJ (af 0) (eC (.int 1))) (eC (.str "in"))) (b2 mF (e2 bJ (af 0) (eC (.int 2))) (af 1))) (af 0) ["label"] [10]))))) (bD (b9 12 (xP (e2 bU (af 12) (eNew (cb (de (aG cz (ag (e2 bJ (af 1) (eC (.int 0))) aD))) (aJ 0) (b2 mF (af 0) (af 2)) (e2 bJ (e2 bJ (af 1) (eC (.int 0))) (af 0)) ["place"] [1,10]))))) (bD (b9 13 (xP (e2 bU (af 13) (eNew (cb (bV (e2 bU (af 3) (af 4))) (aJ 0) (b2 t7 (e2 bJ (af 0) (eC (.int 1))) (eC (.str "gate"))) (af 0) ["label"] []))))) (bD (b9 14 (vD (dP aD))) (bD (jT (iP (bV (eNew (dP (ag (cN (ag (af 0) (ag (af 3) aD))) (ag (cN (ag (af 1) (ag (af 4) aD))) aD)))))) (vh 2 (lu (gG 15) (lu (gG 16) vz))) jC) (sL 14 (bD (b9 21 (vD (dP aD))) (bD (jT (iP (bV (eNew (dP (ag (cN (ag (af 0) (ag (af 3) (ag (af 11) aD)))) (ag (cN (ag (af 1) (ag (af 4) (ag (eNew (dP aD)) aD)))) aD)))))) (vh 3 (lu (gG 15) (lu (gG 16) (lu (gG 22) vz)))) jy) (sL 21 (mC (xP (cN (ag (af 12) (ag (af 14) (ag (af 21) aD)))))))))))))))))))))))
def vI:List V3->bc->R3 V3:=sV kj mT
def iU:List V3->bc->R3 V3:=xJ kj mT
theorem y_{K:W.Frag}{mg:Tq}(T:Tp K mg)(h:Def K mg "_law_due" iq)(f6:Callee P w K mg base 1 "_law_labels" 2 dA):dr P w K mg base Cu 2 "_law_due" 3 vI:=
 Ia h wa.2 pN.2 yT fun _ _ _ _ _ _ _ hr nd=>(ay (bu (ax (aO f6 (ab (aa 0) (ab b8 ah))))) (ay (bu (ax (aO f6 (ab (aa 1) (ab b8 ah))))) (ay (bu Aj) (ay (fu (bR (bh (aa 2))) (dF (a9 aN (a9 aN cP))) (bF (fu (bR (oT (az (az (az (aa 0) aj) (aa 6)) aj) rfl T.z_enumerate)) (dF (a9 aN (a9 aN cP))) (bF (Bi (jF hr) (ax (az (aa 3) (aa 9))) (gZ 5) (bg (ax b8) (bg (ax b8) (bg (ax (aa 7)) (bg (ax (aa 8)) eM))))))))) (ay (bu (ax (a_ (bQ (bh (aa 2)) (fun _ _ _=>(cJ (aL aH (aL aH cm)))) (fun _ _ _=>bN) (fun _ _ _=>(aa 1)))))) (ay (cM (bR (bh (aa 2))) (fun _ _ _=>(dF (a9 aN (a9 aN cP)))) (fun _ _ _=>fj) (fun _ _ _=>(ax (aa 0)))) (ay (bu (ax (cf pE rfl T.z_list PyProof.Rows.boot_list (ab (az (aa 0) aj) ah)))) (ay (bu (ax (a_ (bQ (bh (aa 3)) (fun _ _ _=>aH) (fun _ _ _=>(jW (bC (qo hr.units) (az (aa 0) aj) b8))) (fun _ _ _=>(aa 0)))))) (ay (bu (ax (aA bH (aa 13) (a_ (bQ (bh (aa 4)) (fun _ _ _=>aH) (fun _ _ _=>(jW (mn (uk (bC (qo hr.units) (az (aa 0) aj) b8) (qR (bC nU (az (aa 0) aj) (aa 1))))))) (fun _ _ _=>(aa 0))))))) (ay (bu (ax (aA bH (aa 12) (a_ (bQ (b5 (aQ cQ rfl T.z_len PySem.boot_len (ab (az (aa 1) aj) ah)) rfl T.z_range) (fun _ _ _=>aH) (fun _ _ _=>(jW (bC nU (aa 0) (aa 2)))) (fun _ _ _=>(az (az (aa 1) aj) (aa 0)))))))) (ay (bu (ax (aA bH (aa 13) (a_ (bQ (bh (aA bH (aa 3) (aa 4))) (fun _ _ _=>aH) (fun _ _ _=>(jW (bC (qo hr.units) (az (aa 0) aj) b8))) (fun _ _ _=>(aa 0))))))) (ay (bu (oA (cg ah))) (ay (fu (bR (bh (a_ (cg (ab (bj (ab (aa 0) (ab (aa 3) ah))) (ab (bj (ab (aa 1) (ab (aa 4) ah))) ah)))))) (dF (a9 aN (a9 aN cP))) (bF (fu (bR (bh (az (aa 15) aj))) (dF (a9 aN (a9 aN (a9 aN cP)))) (ay (cM (bR (bh (aa 18))) (fun _ _ _=>aN) (fun _ _ _=>fj) (fun _ _ _=>(uX (jF hr) rfl (Or.inr (Or.inl rfl)) (az (aa 2) (aa 0)) (az (aa 2) (aa 0))))) (bF (mK (ax (bj (ab (aa 17) (ab (cf kh rfl T.z_tuple PyProof.Rows.boot_tuple (ab (a_ (bQ (bh (aa 20)) (fun _ _ _=>aH) (fun _ _ _=>bN) (fun _ _ _=>(oO hr.units (aa 1) (ab (aa 0) ah))))) ah)) (ab (aa 19) ah))))))))))) (l7 14 (ay (bu (oA (cg ah))) (ay (fu (bR (bh (a_ (cg (ab (bj (ab (aa 0) (ab (aa 3) (ab (aa 11) ah)))) (ab (bj (ab (aa 1) (ab (aa 4) (ab (a_ (cg ah)) ah)))) ah)))))) (dF (a9 aN (a9 aN (a9 aN cP)))) (bF (fu (bR (oT (az (aa 15) aj) rfl T.z_enumerate)) (dF (a9 aN (a9 (dF (a9 aN (a9 aN cP))) cP))) (ay (cM (bR (bh (aa 18))) (fun _ _ _=>aN) (fun _ _ _=>fj) (fun _ _ _=>(uX (jF hr) rfl (Or.inr (Or.inl rfl)) (az (aa 2) (aa 0)) (az (aa 2) (aa 0))))) (bF (ma (fJ (bC nU (aa 7) (aa 22))) (bF (mK (ax (bj (ab (aa 23) (ab (cf kh rfl T.z_tuple PyProof.Rows.boot_tuple (ab (a_ (bQ (bh (aa 20)) (fun _ _ _=>aH) (fun _ _ _=>bN) (fun _ _ _=>(oO hr.units (aa 1) (ab (aa 0) ah))))) ah)) ah)))))) fZ)))))) (l7 21 (bF (iV (ax (bj (ab (aa 12) (ab (aa 14) (ab (aa 21) ah))))))))))))))))))))))))
abbrev fI:Stmt:=top 26
noncomputable abbrev m7:List Str:=["wires","first","many"]
noncomputable def rZ:{b:List Stmt // bp fI=b}:=⟨_,by conv=>lhs;whnf⟩
noncomputable def mr:{b:Scope // aK fI=b}:=⟨_,by conv=>lhs;whnf⟩
theorem uS:bB m7 ["wires","first","many"] mr.1:=⟨rfl,rfl,rfl,by decide+kernel,rfl,by decide+kernel,by decide+kernel⟩
def nv:FS:=(iF (aG iR (ag (eNew (cb (bV (af 0)) (aJ 0) fS (e2 bU (af 0) (e2 jm (af 2) (aG tF (ag (e2 Iv (af 0) (af 1)) aD)))) ["wire"] [1,2])) aD)))
def ei:List D->R D:=p6 m7 nv
theorem uv{K:W.Frag}{mg:Tq}(T:Tp K mg)(h:Def K mg "_law_moved" fI):Callee P w K mg base 1 "_law_moved" 3 ei:=
 yQ h rZ.2 mr.2 uS fun _ _ _ _ _ _ _ hr nd=>(bA (cq (cf kh rfl T.z_tuple PyProof.Rows.boot_tuple (ab (a_ (bQ (bh (aa 0)) (fun _ _ _=>aH) (fun _ _ _=>bN) (fun _ _ _=>(aA bH (aa 0) (aA jo (aa 2) (cf Ap rfl T.z_int PyProof.Rows.boot_int (ab (n5 JN (aa 0) (aa 1)) ah))))))) ah))))
abbrev fK:Stmt:=top 27
noncomputable abbrev fH:List Str:=["cell","one","other","kind","many","need","more","rest","first","ins","gates","outs"]
noncomputable def rn:{b:List Stmt // bp fK=b}:=⟨_,by conv=>lhs;whnf⟩
noncomputable def l9:{b:Scope // aK fK=b}:=⟨_,by conv=>lhs;whnf⟩
theorem ua:bB fH ["cell","one","other"] l9.1:=⟨rfl,rfl,rfl,by decide+kernel,rfl,by decide+kernel,by decide+kernel⟩
def m_:FS:=(cU (eU 3 (e2 eu (aG aV (ag (af 0) (ag (eC (.int 90)) aD))) (eC (.int 4)))) (cU (eU 4 (e2 eu (aG aV (ag (af 0) (ag (eC (.int 91)) aD))) (eC (.int 3)))) (cU (wL (b2 t7 (af 3) (eC (.int 0))) (cU (eU 5 (e2 kI (e2 kI (e2 bU (eC (.int 59)) (af 4)) (aG cz (ag (e2 bJ (af 1) (eC (.int 1))) aD))) (aG cz (ag (e2 bJ (af 2) (eC (.int 1))) aD)))) (cU (eU 6 (eNew (BK (dP (ag (cN (ag (eC (.str "not")) (ag (cN (ag (eC (.int 0)) aD)) (ag (eC (.bl false)) aD)))) aD)) (e2 kL (af 5) (eC (.int 2)))))) (cU (eU 7 (eNew (BK (dP (ag (cN (ag (eC (.str "not")) (ag (cN (ag (eC (.int 0)) aD)) (ag (eC (.bl false)) aD)))) aD)) (e2 kI (af 5) (e2 kL (af 5) (eC (.int 2))))))) (iF (cN (ag (cN (ag (e2 bJ (af 1) (eC (.int 0))) (ag (e2 bU (e2 bJ (af 1) (eC (.int 1))) (af 6)) (ag (e2 bJ (af 1) (eC (.int 2))) aD)))) (ag (cN (ag (e2 bJ (af 2) (eC (.int 0))) (ag (e2 bU (e2 bJ (af 2) (eC (.int 1))) (af 7)) (ag (e2 bJ (af 2) (eC (.int 2))) aD)))) aD))))))) sd) (cU (wL (b2 t7 (af 3) (eC (.int 1))) (cU (eU 8 (aG qM (ag (eNew (cb (bV (e2 bJ (af 1) (eC (.int 0)))) (c7 2 (aX (aJ 0) (aX (aJ 1) cY))) fS (af 1) ["name","width"] [])) aD))) (cU (eU 4 (aG tw (ag (e2 bU (eC (.int 2)) (af 4)) (ag (e2 kI (eC (.int 6)) (aG cz (ag (e2 bJ (af 1) (eC (.int 0))) aD))) aD)))) (cU (eU 9 (e2 bU (e2 bJ (af 1) (eC (.int 0))) (eNew (cb (de (af 4)) (aJ 0) fS (cN (ag (e2 bU (eC (.str "k")) (e2 bJ (eC (.str "abcd")) (af 0))) (ag (eC (.int 1)) aD))) ["k"] [])))) (cU (eU 10 (eNew (cb (bV (e2 bJ (af 1) (eC (.int 1)))) (c7 3 (aX (aJ 0) (aX (aJ 1) (aX (aJ 2) cY)))) fS (cN (ag (af 0) (ag (aG ei (ag (af 1) (ag (af 4) (ag (af 3) aD)))) (ag (af 2) aD)))) ["word","wires","sure"] [4,8]))) (cU (eU 11 (eNew (cb (bV (e2 bJ (af 1) (eC (.int 2)))) (c7 2 (aX (aJ 0) (aX (aJ 1) cY))) fS (cN (ag (af 0) (ag (aG ei (ag (af 1) (ag (af 3) (ag (af 2) aD)))) aD))) ["name","wires"] [4,8]))) (iF (cN (ag (cN (ag (af 9) (ag (af 10) (ag (af 11) aD)))) (ag (af 2) aD))))))))) sd) (cU (wL (b2 t7 (af 3) (eC (.int 2))) (cU (eU 4 (aG tw (ag (e2 bU (eC (.int 2)) (af 4)) (ag (e2 kI (eC (.int 6)) (aG cz (ag (e2 bJ (af 1) (eC (.int 2))) aD))) aD)))) (iF (cN (ag (cN (ag (e2 bJ (af 1) (eC (.int 0))) (ag (e2 bJ (af 1) (eC (.int 1))) (ag (e2 bU (e2 bJ (af 1) (eC (.int 2))) (eNew (cb (de (af 4)) (aJ 0) fS (cN (ag (e2 bU (eC (.str "k")) (e2 bJ (eC (.str "abcd")) (af 0))) (ag (cN (ag (eC (.int 0)) aD)) aD))) ["k"] []))) aD)))) (ag (af 2) aD))))) sd) (iF (cN (ag (af 1) (ag (af 2) aD)))))))))
def gM:List D->R D:=p6 fH m_
theorem tj{K:W.Frag}{mg:Tq}(T:Tp K mg)(h:Def K mg "_law_grown" fK)(bz:Callee P w K mg base 1 "_law_stir" 2 aV)(gT:Callee P w K mg base 1 "_law_moved" 3 ei):Callee P w K mg base 2 "_law_grown" 3 gM:=
 yQ h rn.2 l9.2 ua fun _ _ _ _ _ _ _ hr nd=>(aS (b_ (aA eT (aO bz (ab (aa 0) (ab aj ah))) aj)) (aS (b_ (aA eT (aO bz (ab (aa 0) (ab aj ah))) aj)) (aS (gS (bC (qo hr.units) (aa 3) aj) (aS (b_ (aA mw (aA mw (aA bH aj (aa 4)) (aQ cQ rfl T.z_len PySem.boot_len (ab (az (aa 1) aj) ah))) (aQ cQ rfl T.z_len PySem.boot_len (ab (az (aa 2) aj) ah)))) (aS (b_ (a_ (xc (cg (ab (bj (ab b8 (ab (bj (ab aj ah)) (ab jZ ah)))) ah)) (aA pI (aa 5) aj)))) (aS (b_ (a_ (xc (cg (ab (bj (ab b8 (ab (bj (ab aj ah)) (ab jZ ah)))) ah)) (aA mw (aa 5) (aA pI (aa 5) aj))))) (bA (cq (bj (ab (bj (ab (az (aa 1) aj) (ab (aA bH (az (aa 1) aj) (aa 6)) (ab (az (aa 1) aj) ah)))) (ab (bj (ab (az (aa 2) aj) (ab (aA bH (az (aa 2) aj) (aa 7)) (ab (az (aa 2) aj) ah)))) ah)))))))) gf) (aS (gS (bC (qo hr.units) (aa 3) aj) (aS (b_ (aQ (vU rfl) rfl T.z_sum PyProof.Rows.boot_sum (ab (a_ (bQ (bh (az (aa 1) aj)) (fun _ _ _=>(cJ (aL aH (aL aH cm)))) (fun _ _ _=>bN) (fun _ _ _=>(aa 1)))) ah))) (aS (b_ (aQ (Bh rfl) rfl T.z_min PyProof.Rows.boot_min (ab (aA bH aj (aa 4)) (ab (aA mw aj (aQ cQ rfl T.z_len PySem.boot_len (ab (az (aa 1) aj) ah))) ah)))) (aS (b_ (aA bH (az (aa 1) aj) (a_ (bQ (b5 (aa 4) rfl T.z_range) (fun _ _ _=>aH) (fun _ _ _=>bN) (fun _ _ _=>(bj (ab (aA bH b8 (az b8 (aa 0))) (ab aj ah)))))))) (aS (mf (bh (az (aa 1) aj)) (fun _ _ _=>(cJ (aL aH (aL aH (aL aH cm))))) (fun _ _ _=>bN) (fun _ _ _=>(bj (ab (aa 0) (ab (aO gT (ab (aa 1) (ab (aa 4) (ab (aa 3) ah)))) (ab (aa 2) ah)))))) (aS (mf (bh (az (aa 1) aj)) (fun _ _ _=>(cJ (aL aH (aL aH cm)))) (fun _ _ _=>bN) (fun _ _ _=>(bj (ab (aa 0) (ab (aO gT (ab (aa 1) (ab (aa 3) (ab (aa 2) ah)))) ah))))) (bA (cq (bj (ab (bj (ab (aa 9) (ab (aa 10) (ab (aa 11) ah)))) (ab (aa 2) ah)))))))))) gf) (aS (gS (bC (qo hr.units) (aa 3) aj) (aS (b_ (aQ (Bh rfl) rfl T.z_min PyProof.Rows.boot_min (ab (aA bH aj (aa 4)) (ab (aA mw aj (aQ cQ rfl T.z_len PySem.boot_len (ab (az (aa 1) aj) ah))) ah)))) (bA (cq (bj (ab (bj (ab (az (aa 1) aj) (ab (az (aa 1) aj) (ab (aA bH (az (aa 1) aj) (a_ (bQ (b5 (aa 4) rfl T.z_range) (fun _ _ _=>aH) (fun _ _ _=>bN) (fun _ _ _=>(bj (ab (aA bH b8 (az b8 (aa 0))) (ab (bj (ab aj ah)) ah))))))) ah)))) (ab (aa 2) ah)))))) gf) (bA (cq (bj (ab (aa 1) (ab (aa 2) ah))))))))))
abbrev gq:Stmt:=top 28
noncomputable abbrev gg:List Str:=["one","other","pairs","used"]
noncomputable def uo:{b:List Stmt // bp gq=b}:=⟨_,by conv=>lhs;whnf⟩
noncomputable def nk:{b:Scope // aK gq=b}:=⟨_,by conv=>lhs;whnf⟩
theorem wm:bB gg ["one","other","pairs"] nk.1:=⟨rfl,rfl,rfl,by decide+kernel,rfl,by decide+kernel,by decide+kernel⟩
def pe:FS:=(cU (eU 3 (Ji (eNew (cb (bV (af 2)) (c7 2 (aX (aJ 0) (aX (aJ 1) cY))) fS (af 0) ["out","place"] [])))) (cU (wL (t5 (b2 xj (e2 kI (e2 bU (aG cz (ag (e2 bJ (af 0) (eC (.int 0))) aD)) (aG cz (ag (e2 bJ (af 1) (eC (.int 0))) aD))) (aG cz (ag (af 2) aD))) (eC (.int 6))) (b2 xj (e2 bU (aG cz (ag (e2 bJ (af 0) (eC (.int 1))) aD)) (aG cz (ag (e2 bJ (af 1) (eC (.int 1))) aD))) (eC (.int 60)))) (iF (eC (.bl false))) sd) (iF (e2 Kp (e2 kI (e2 bU (aG cz (ag (e2 bJ (af 0) (eC (.int 2))) aD)) (aG cz (ag (e2 bJ (af 1) (eC (.int 2))) aD))) (af 3)) (eC (.int 6))))))
def i0:List D->R D:=p6 gg pe
theorem we{K:W.Frag}{mg:Tq}(T:Tp K mg)(h:Def K mg "_law_fits" gq):Callee P w K mg base 1 "_law_fits" 3 i0:=
 yQ h uo.2 nk.2 wm fun _ _ _ _ _ _ _ hr nd=>(aS (b_ (vL T.z_len T.z_set (a_ (bQ (bh (aa 2)) (fun _ _ _=>(cJ (aL aH (aL aH cm)))) (fun _ _ _=>bN) (fun _ _ _=>(aa 0)))))) (aS (gS (mn (kz (bC yX (aA mw (aA bH (aQ cQ rfl T.z_len PySem.boot_len (ab (az (aa 0) aj) ah)) (aQ cQ rfl T.z_len PySem.boot_len (ab (az (aa 1) aj) ah))) (aQ cQ rfl T.z_len PySem.boot_len (ab (aa 2) ah))) aj) (pJ (bC yX (aA bH (aQ cQ rfl T.z_len PySem.boot_len (ab (az (aa 0) aj) ah)) (aQ cQ rfl T.z_len PySem.boot_len (ab (az (aa 1) aj) ah))) aj)))) (bA (cq jZ)) gf) (bA (cq (n5 LR (aA mw (aA bH (aQ cQ rfl T.z_len PySem.boot_len (ab (az (aa 0) aj) ah)) (aQ cQ rfl T.z_len PySem.boot_len (ab (az (aa 1) aj) ah))) (aa 3)) aj)))))
abbrev wA:Stmt:=top 29
noncomputable abbrev nu:List Str:=["script","cell","one","other","pairs","wider","due","handed","some","found","part"]
noncomputable def He:{b:List Stmt // bp wA=b}:=⟨_,by conv=>lhs;whnf⟩
noncomputable def Bq:{b:Scope // aK wA=b}:=⟨_,by conv=>lhs;whnf⟩
theorem Ex:bB nu ["script"] Bq.1:=⟨rfl,rfl,rfl,by decide+kernel,rfl,by decide+kernel,by decide+kernel⟩
def nY:FZ:=(qc 10 (xP (cN (ag (eC (.str "zebra")) (ag (eC (.int 1)) aD)))))
def rS:FZ:=(bD (b9 2 (jh eK (bO (xP (af 1)) (bO (xP (eC (.int 0))) (bO (xP (eC (.str "abcdefg"))) (bO (xP (eNew (dP (ag (eC (.int 1)) (ag (eC (.int 2)) (ag (eC (.int 3)) aD)))))) iJ)))))) (bD (b9 3 (jh eK (bO (xP (af 1)) (bO (xP (eC (.int 150))) (bO (xP (eC (.str "nopqrst"))) (bO (xP (eNew (dP (ag (eC (.int 1)) (ag (eC (.int 2)) (ag (eC (.int 3)) aD)))))) iJ)))))) (bD (b9 4 (jh iO (bO (xP (af 1)) (bO (xP (af 2)) (bO (xP (af 3)) iJ))))) (bD (b9 5 (xP (aG gM (ag (af 1) (ag (af 2) (ag (af 3) aD)))))) (bD (xG (bP (qe (aG i0 (ag (e2 bJ (af 5) (eC (.int 0))) (ag (e2 bJ (af 5) (eC (.int 1))) (ag (af 4) aD)))))) (G2 (xP (af 5)) (vh 2 (lu (gG 2) (lu (gG 3) vz)))) lV) (bD (b9 6 (jh iU (bO (xP (af 2)) (bO (xP (af 3)) (bO (xP (af 4)) iJ))))) (bD (b9 7 (fX (iP (bV (eNew (dP (ag (af 2) (ag (af 3) aD)))))) (gG 0) oU (xP (cN (ag (aG jH (ag (e2 bJ (af 0) (eC (.int 0))) aD)) (ag (aG jH (ag (e2 bJ (af 0) (eC (.int 1))) aD)) (ag (aG jH (ag (e2 bJ (af 0) (eC (.int 2))) aD)) aD))))) ["net"] [])) (bD (b9 8 (xP (aG jH (ag (af 4) aD)))) (bD (b9 9 (jh f7 (bO (xP (e2 bJ (af 7) (eC (.int 0)))) (bO (xP (e2 bJ (af 7) (eC (.int 1)))) (bO (xP (af 8)) iJ))))) (bD (xG (bT (t5 (yx (qe (v7 "tuple" (af 9)))) (t5 (b2 n0 (af 9) (af 6)) (t5 (b2 n0 (af 7) (eNew (dP (ag (af 2) (ag (af 3) aD))))) (b2 n0 (af 8) (af 4)))))) (mC (xP (eC (.bl false)))) lV) (bD (xG (bT (b2 n0 (eNew (cb (bV (e2 bJ (af 9) (eC (.int 1)))) (aJ 0) (yx (qe (v7 "bool" (e2 bJ (af 0) (eC (.int 2)))))) (af 0) ["gate"] [])) (eNew (dP aD)))) (mC (xP (eC (.bl false)))) lV) (bD (jT (BD (lr 9)) (gG 10) nY) (xG (Km (Kd n0 (jh kr (bO (xP (e2 bJ (af 7) (eC (.int 0)))) (bO (xP (e2 bJ (af 7) (eC (.int 1)))) (bO (xP (af 8)) iJ)))) (xP (af 6))) (bP (b2 n0 (af 7) (eNew (dP (ag (af 2) (ag (af 3) aD))))))) (mC (xP (eC (.bl false)))) lV)))))))))))))
def pP:FZ:=(bD (jT (iP (bV (e2 bU (eNew (dP (ag (eC (.int 0)) aD))) (Ib (af 0) xH (pH (eC (.int 12))))))) (gG 1) rS) (mC (xP (eC (.bl true)))))
def K7:List V3->bc->R3 V3:=sV nu pP
def Ll:List V3->bc->R3 V3:=xJ nu pP
def x_:List D->R D:=Ku nu pP
theorem Hz{K:W.Frag}{mg:Tq}{f:Addr}{fd:FuncData}(T:Tp K mg)(i9:Def K mg "check_fits" eS)(ig:Def K mg "outs_of_ins" dQ)(h_:Def K mg "check_names" dU)(i4:Def K mg "check_room" eG)(i_:Def K mg "many_wires" eJ)(m5:Def K mg "rewired" iE)(fV:Def K mg "rewired_gates" dg)(gu:Def K mg "rewired_outs" dz)(hW:Def K mg "one_numbers" dY)(fU:Def K mg "other_numbers" dj)(pV:Def K mg "joined" jz)(lM:Def K mg "_law_stir" gb)(ie:Def K mg "_law_any_net" dR)(j6:Def K mg "_law_pairs" fL)(i8:Def K mg "_law_labels" eQ)(m6:Def K mg "_law_due" iq)(j7:Def K mg "_law_moved" fI)(j4:Def K mg "_law_grown" fK)(lL:Def K mg "_law_fits" gq)(F:yd K "law" "law" wA f fd):gH P w K mg base pZ 4 f fd ["script"] (Dj K 1 x_):=by
 have i7:=rq (P:=P) (w:=w) (base:=base) T i9;have XK_outs_of_ins:=qr (P:=P) (w:=w) (base:=base) T ig;have gC:=XK_outs_of_ins.p;have XK_check_names:=qh (P:=P) (w:=w) (base:=base) T h_;have eX:=XK_check_names.p;have i5:=rL (P:=P) (w:=w) (base:=base) T i4;have cx:=sC (P:=P) (w:=w) (base:=base) T i_;have dJ:=yJ (P:=P) (w:=w) (base:=base) T m5;have d8:=nA (P:=P) (w:=w) (base:=base) T fV dJ;have eW:=pR (P:=P) (w:=w) (base:=base) T gu dJ;have ia:=qq (P:=P) (w:=w) (base:=base) T hW cx;have fT:=nC (P:=P) (w:=w) (base:=base) T fU cx dJ;have XK_joined:=Ba (P:=P) (w:=w) (base:=base) T pV i7 cx ia fT d8 eW i5 gC eX;have XP_joined:=XK_joined.p;have bz:=vN (P:=P) (w:=w) (base:=base) T lM;have XK_law_any_net:=p_ (P:=P) (w:=w) (base:=base) T ie bz;have XP_law_any_net:=XK_law_any_net.p;have XK_law_pairs:=tI (P:=P) (w:=w) (base:=base) T j6 bz;have XP_law_pairs:=XK_law_pairs.p;have f6:=sG (P:=P) (w:=w) (base:=base) T i8;have XK_law_due:=y_ (P:=P) (w:=w) (base:=base) T m6 f6;have XP_law_due:=XK_law_due.p;have gT:=uv (P:=P) (w:=w) (base:=base) T j7;have C_law_grown:=tj (P:=P) (w:=w) (base:=base) T j4 bz gT;have C_law_fits:=we (P:=P) (w:=w) (base:=base) T lL;exact(t8 (cl:=Cu) (N:=nu) (F:=pP) (k:=3) He.2 Bq.2 F Ex (fun _ _ _ _ _ _ hr=>(have nd:=Ex.nd;(ay (fu (bR (bh (aA bH (a_ (cg (ab aj ah))) (AF (aa 0) u7 (oF aj))))) aN (ay (bu (iQ XP_law_any_net (bg (ax (aa 1)) (bg (ax aj) (bg (ax b8) (bg (ax (a_ (cg (ab aj (ab aj (ab aj ah)))))) eM)))))) (ay (bu (iQ XP_law_any_net (bg (ax (aa 1)) (bg (ax aj) (bg (ax b8) (bg (ax (a_ (cg (ab aj (ab aj (ab aj ah)))))) eM)))))) (ay (bu (iQ XP_law_pairs (bg (ax (aa 1)) (bg (ax (aa 2)) (bg (ax (aa 3)) eM))))) (ay (bu (ax (aO C_law_grown (ab (aa 1) (ab (aa 2) (ab (aa 3) ah)))))) (ay (ma (fJ (rO (aO C_law_fits (ab (az (aa 5) aj) (ab (az (aa 5) aj) (ab (aa 4) ah)))))) (bF (FE (ax (aa 5)) (dF (a9 aN (a9 aN cP))))) fZ) (ay (bu (iQ XP_law_due (bg (ax (aa 2)) (bg (ax (aa 3)) (bg (ax (aa 4)) eM))))) (ay (cM (bR (bh (a_ (cg (ab (aa 2) (ab (aa 3) ah)))))) (fun _ _ _=>aN) (fun _ _ _=>fj) (fun _ _ _=>(ax (bj (ab (cf pE rfl T.z_list PyProof.Rows.boot_list (ab (az (aa 0) aj) ah)) (ab (cf pE rfl T.z_list PyProof.Rows.boot_list (ab (az (aa 0) aj) ah)) (ab (cf pE rfl T.z_list PyProof.Rows.boot_list (ab (az (aa 0) aj) ah)) ah))))))) (ay (bu (ax (cf pE rfl T.z_list PyProof.Rows.boot_list (ab (aa 4) ah)))) (ay (bu (iQ XK_joined (bg (ax (az (aa 7) aj)) (bg (ax (az (aa 7) aj)) (bg (ax (aa 8)) eM))))) (ay (ma (l4 (mn (kz (xv (rO (xx (aa 9) (by decide) rfl T.z_isinstance rfl T.z_tuple PyProof.Rows.boot_tuple))) (kz (bC (uN hr.units) (aa 9) (aa 6)) (kz (bC (uN hr.units) (aa 7) (a_ (cg (ab (aa 2) (ab (aa 3) ah))))) (pJ (bC (uN hr.units) (aa 8) (aa 4)))))))) (bF (iV (ax jZ))) fZ) (ay (ma (l4 (bC (uN hr.units) (a_ (bQ (bh (az (aa 9) aj)) (fun _ _ _=>aH) (fun _ _ _=>(jW (xv (rO (xx (az (aa 0) aj) (by decide) rfl T.z_isinstance rfl T.z_bool PyProof.Rows.boot_bool))))) (fun _ _ _=>(aa 0)))) (a_ (cg ah)))) (bF (iV (ax jZ))) fZ) (ay (fu (Dn (gZ 9)) aN (bF (mK (ax (bj (ab b8 (ab aj ah))))))) (bF (ma (HV.pb (FQ (Dx (uN hr.units) (iQ XP_joined (bg (ax (az (aa 7) aj)) (bg (ax (az (aa 7) aj)) (bg (ax (aa 8)) eM)))) (ax (aa 6)) (wk _)) (D5 (fJ (bC (uN hr.units) (aa 7) (a_ (cg (ab (aa 2) (ab (aa 3) ah))))))))) (bF (iV (ax jZ))) fZ))))))))))))))) (bF (iV (ax jZ))))))).imp fun _ _ _ _ h=>Fv h
end K34
end
section
set_option maxHeartbeats 1000000
namespace K34
open PySem PySem.Spec PyProof.Rows L2 L3 MT JT
theorem sJ{i:Nat}{f:FD}{δ:aq}{d:D}{ds es:List D}(h:f δ= .ok d)(hs:seqD? d=some es)(hb:δ[i]? =some (.bld ds))(hl:ds.length+es.length<=sizeLine):q_ i f δ= .ok (.nx (δ.set i (.bld (ds++es)))):=by
 unfold q_ ph;rw [h,R.aM,hb];show(match seqD? d with | some es=>_ | none=>_)=_
 rw[hs];show R.aR _ _=_;rw [bS _ hl]
section
variable {ins:Tj} {gs:List Gt} {os:Tn}
theorem sf(hi:ins.length < 1000):cw [.lst (ins.map inD)]= .ok (nI (bW ins)):=by
 have hz:sizeLine=16777216:=sizeLine_eq;unfold cw mj;refine fO (c_ (av (ds:=[.lst (ins.map fun x=>nI x.2)]) (ao (bE (bK (ds:=ins.map inD) rfl (by rw[List.length_map];omega) ?_)) rfl) ?_))
 .exact NT.bw inD _ fun x hx=>⟨[.val (.str x.1), .val (nI x.2)],rfl,rfl,rfl⟩
 .have e:(ins.map fun x=>nI x.2)=(ins.map fun x=>((x.2:Nat):Int)).map D.int:=by rw[List.map_map];rfl
  rw[e];show(match ints? ((ins.map fun x=>((x.2:Nat):Int)).map D.int) with | some ns=>R.ok (D.int ns.sum) | none=> .no)=_
  rw[L2.ints_map];show R.ok (D.int (ins.map fun x=>((x.2:Nat):Int)).sum)=_
  unfold nI bW;congr 2
  induction ins with
  | nil=>rfl
  | cons x l ih=>
    rw[List.map_cons,List.map_cons,List.sum_cons,List.sum_cons,ih (by simp only[List.length_cons] at hi;omega) (by rw[List.map_map];rfl)]
    omega
theorem v3{nums ns:List Nat}(h:∀n∈ns,n < nums.length)(hl:ns.length < 1000):dD [.tup (ns.map nI), .lst (nums.map nI)]= .ok (.tup ((ns.map fun n=>nums.getD n 0).map nI)):=by
 have hz:sizeLine=16777216:=sizeLine_eq;unfold dD q9;refine fO (c_ (av (ds:=[.lst ((ns.map fun n=>nums.getD n 0).map nI)]) (ao (bE (bK (ds:=ns.map nI) (vy rfl) (by rw[List.length_map];omega) ?_)) rfl) rfl))
 rw[List.map_map];refine NT.bw nI _ fun n hn=>⟨[.val (nI n), .val (.lst (nums.map nI))],rfl,rfl,aw (a:= .lst (nums.map nI)) (b:=nI n) rfl rfl ?_⟩
 refine NT.d6 ?_;rw[List.getElem?_map,List.getElem?_eq_getElem (h n hn)];show _=some (nI (nums.getD n 0));rw[List.getD_eq_getElem?_getD,List.getElem?_eq_getElem (h n hn)];rfl
abbrev gd(nums:List Nat):Nat->Nat:=fun n=>nums.getD n 0
theorem tK{nums:List Nat}(h:∀g∈gs,(∀n∈g.2.1,n < nums.length)/\g.2.1.length < 1000)(hl:gs.length < 1000):cH [.lst (gs.map c9), .lst (nums.map nI)]= .ok (.lst ((gs.map (eA (gd nums))).map c9)):=by
 have hz:sizeLine=16777216:=sizeLine_eq;unfold cH je;refine fO (c_ (bE (bK (ds:=gs.map c9) rfl (by rw[List.length_map];omega) ?_)))
 rw[List.map_map];exact NT.bw c9 _ fun g hg=>⟨[.val (.str (kS g.1)), .val (.tup (g.2.1.map nI)), .val (.bl g.2.2), .val (.lst (nums.map nI))],rfl,rfl,bb (ao rfl (ao (av (ds:=[.tup (g.2.1.map nI), .lst (nums.map nI)]) rfl (v3 (h g hg).1 (h g hg).2)) (ao rfl rfl))) (by simp;omega)⟩
theorem tm{nums:List Nat}(h:∀x∈os,(∀n∈x.2,n < nums.length)/\x.2.length < 1000)(hl:os.length < 1000):cV [.lst (os.map dq), .lst (nums.map nI)]= .ok (.lst ((os.map (dO (gd nums))).map dq)):=by
 have hz:sizeLine=16777216:=sizeLine_eq;unfold cV jA;refine fO (c_ (bE (bK (ds:=os.map dq) rfl (by rw[List.length_map];omega) ?_)))
 rw[List.map_map];exact NT.bw dq _ fun x hx=>⟨[.val (.str x.1), .val (.tup (x.2.map nI)), .val (.lst (nums.map nI))],rfl,rfl,bb (ao rfl (ao (av (ds:=[.tup (x.2.map nI), .lst (nums.map nI)]) rfl (v3 (h x hx).1 (h x hx).2)) rfl)) (by simp;omega)⟩
theorem Hk(n:Nat):jl 0 n=(List.range n).map nI:=by
 unfold jl;refine List.map_congr_left fun i _=>?_
 show D.int (0+(i:Int))=D.int (i:Int);rw[Int.zero_add]
theorem CA{f:FD}{δ:aq}{n:Nat}(h:f δ= .ok (nI n))(hn:n < 1000000):Df f δ= .ok ((List.range n).map nI):=by
 unfold Df;rw [h,R.aM];show R.aR _ _=_;rw [bS _ ⟨by omega,by omega⟩,Int.toNat_natCast,Hk]
theorem tf{f g:FD}{δ:aq}{a b:Nat}(h:f δ= .ok (nI a))(h2:g δ= .ok (nI b))(ha:a < 1000000)(hb:b < 1000000):ux f g δ= .ok ((List.range' a (b - a)).map nI):=by
 unfold ux;rw [h,R.aM,h2,R.aM];show R.aR _ _=_;rw[bS _ ⟨by omega,by omega,by omega,by omega,by omega⟩,show((b:Int) - a).toNat=b - a by omega,List.range'_eq_map_range,List.map_map];rfl
def mO(c l n:Nat):List Nat:=List.range c++(List.range n).map fun i=>c+l+i
theorem AX(c l n:Nat):(mO c l n).length=c+n:=by unfold mO;simp
theorem DI{c l n w:Nat}(h:w < c+n):gd (mO c l n) w=DS c l w:=by
 show(mO c l n).getD w 0=_;unfold mO DS;rw[List.getD_eq_getElem?_getD];by_cases q:w < c
 .rw [List.getElem?_append_left (by simpa using q),if_pos q,List.getElem?_range q];rfl
 .rw [List.getElem?_append_right (by simpa using q),if_neg q,List.getElem?_map,List.length_range,List.getElem?_range (by omega)]
  show c+l+(w - c)=w+l;omega
theorem FR{l:Nat}(hi:ins.length < 100)(hw:∀x∈ins,x.2 < 100)(hg:gs.length < 1000)(hl:l < 100000):dS [au ins gs os,nI l]= .ok (.lst ((mO (bW ins) l gs.length).map nI)):=by
 have hz:sizeLine=16777216:=sizeLine_eq;have hwd:=jr hw;have hwd2:bW ins < 10000:=by omega
 unfold dS kO;refine fO (br (ck (d:=nI (bW ins)) (av (ds:=[.lst (ins.map inD)]) rfl (sf (by omega))) (by simp [cn,fF])) (br (xY (ds:=(List.range (bW ins)).map nI) (CA (n:=bW ins) rfl (by omega)) (by simp [cn,fF])) ?_))
 have r2:cb (de (aG cz (ag (e2 bJ (af 0) (eC (.int 1))) aD))) (aJ 0) fS (e2 bU (e2 bU (af 2) (af 1)) (af 0)) [(Str.ofString "place")] [1,2] [.val (au ins gs os), .val (nI l), .val (nI (bW ins)), .bld ((List.range (bW ins)).map nI)]= .ok (((List.range gs.length).map fun i=>bW ins+l+i).map nI):=by
  refine bK (ds:=jl 0 gs.length) (wO (n:=gs.length) (av (ds:=[.lst (gs.map c9)]) rfl (by rw[yl,List.length_map])) (by omega)) (by unfold jl;rw [List.length_map,List.length_range];omega) ?_
  rw[List.map_map];unfold jl;refine NT.bw (fun i:Nat=>D.int (0+(i:Int))) _ fun i hi=>⟨[.val (.int (0+(i:Int))), .val (nI l), .val (nI (bW ins))],rfl,rfl,aw (a:= .int ((bW ins:Int)+l)) (b:= .int (0+(i:Int))) (aw (a:=nI (bW ins)) (b:=nI l) rfl rfl rfl) rfl ?_⟩
  exact congrArg (fun z=>R.ok (D.int z)) (by omega:(bW ins:Int)+l+(0+(i:Int))=((bW ins+l+i:Nat):Int))
 refine br (δ1:=[.val (au ins gs os), .val (nI l), .val (nI (bW ins)), .bld ((mO (bW ins) l gs.length).map nI)]) ?_ (c_ rfl);unfold Cn;show(cb _ _ _ _ _ _ [.val (au ins gs os), .val (nI l), .val (nI (bW ins)), .bld ((List.range (bW ins)).map nI)]).bind _=_;rw[r2,R.aM];show R.aR (decide (((List.range (bW ins)).map nI).length+(((List.range gs.length).map fun i=>bW ins+l+i).map nI).length<=sizeLine)) _=_
 rw[bS _ (by rw[List.length_map,List.length_range,List.length_map,List.length_map,List.length_range];omega)]
 unfold mO;rw[List.map_append];rfl
end
def bq(pairs:List (Nat × Nat))(k:Nat):Option Nat:=(pairs.find? fun q=>decide (q.2=k)).map (·.1)
def dctP(pairs:List (Nat × Nat)):D:= .dct (pairs.map fun q=>Sum.inl ((q.2:Nat):Int)) (pairs.map fun q=>nI q.1)
theorem Aw(a b:Nat):decide ((Sum.inl ((a:Nat):Int):Key)=Sum.inl ((b:Nat):Int))=decide (a=b):=by
 by_cases h:a=b
 .subst h;simp
 .rw [decide_eq_false h];refine decide_eq_false fun z=>h ?_
  injection z with z
  omega
theorem xt(k:Nat):∀pairs:List (Nat × Nat),D1 (pairs.map fun q=>Sum.inl ((q.2:Nat):Int)) (pairs.map fun q=>nI q.1) (Sum.inl ((k:Nat):Int))=(bq pairs k).map nI
 | []=>rfl
 | q ::pairs=>by
   have ih:=xt k pairs;unfold D1 bq at ih ⊢;rw[List.map_cons,List.map_cons,List.zip_cons_cons,List.find?_cons,List.find?_cons];show Option.map _ (match decide ((Sum.inl ((q.2:Nat):Int):Key)=Sum.inl ((k:Nat):Int)) with | true=>some (Sum.inl ((q.2:Nat):Int),nI q.1) | false=>_)=_
   rw[Aw];cases decide (q.2=k) with
   | true=>rfl
   | false=>exact ih
theorem lS(k:Nat):∀pairs:List (Nat × Nat),jx (pairs.map fun q=>Sum.inl ((q.2:Nat):Int)) (Sum.inl ((k:Nat):Int))=(bq pairs k).isSome
 | []=>rfl
 | q ::pairs=>by
   have ih:=lS k pairs;unfold jx bq at ih ⊢;rw[List.map_cons,List.any_cons,List.find?_cons,Aw,ih];cases decide (q.2=k) <;> rfl
theorem su{k:Nat}{pairs:List (Nat × Nat)}:vH (.int k) (dctP pairs)= .ok (.bl (bq pairs k).isSome):=by
 show R.ok (D.bl (jx _ _))=_;rw[lS]
theorem C2{k:Nat}{pairs:List (Nat × Nat)}:D8 (.int k) (dctP pairs)= .ok (.bl (bq pairs k).isNone):=by
 show R.ok (D.bl (!jx _ _))=_;rw[lS,Option.not_isSome]
theorem A4{k o:Nat}{pairs:List (Nat × Nat)}(h:bq pairs k=some o):xr (dctP pairs) (.int k)= .ok (nI o):=by
 show(match D1 (pairs.map fun q=>Sum.inl ((q.2:Nat):Int)) (pairs.map fun q=>nI q.1) (Sum.inl ((k:Nat):Int)) with | some x=>R.ok x | none=> .no)=_
 rw[xt,h];rfl
theorem oM{f:Nat->Nat}{os:Nat->List Nat}:∀(a b:List (Option Nat × Nat)) (free:Nat),dk f os (a++b) free=dk f os a free++dk f os b (free+bt a)
 | [],b,free=>rfl
 | (some o,w) ::a,b,free=>by
   rw[List.cons_append];show _++dk f os (a++b) free=(_++dk f os a free)++dk f os b (free+bt a);rw[oM a b free,List.append_assoc]
 | (none,w) ::a,b,free=>by
   rw[List.cons_append];show _++dk f os (a++b) (free+w)=(_++dk f os a (free+w))++dk f os b (free+(w+bt a));rw[oM a b (free+w),List.append_assoc,show free+w+bt a=free+(w+bt a) by omega]
theorem mX:∀(a b:List (Option Nat × Nat)),bt (a++b)=bt a+bt b
 | [],b=>by show bt b=0+_;omega
 | (some o,w) ::a,b=>mX a b
 | (none,w) ::a,b=>by
   show w+bt (a++b)=(w+bt a)+bt b;rw[mX a b];omega
def dN(pairs:List (Nat × Nat))(ins:Tj):List (Option Nat × Nat):=ins.zipIdx.map fun x=>(bq pairs x.2,x.1.2)
def jt(os:Tn)(o:Nat):List Nat:=(os.getD o (Str.empty,[])).2
theorem AR{pairs:List (Nat × Nat)}{ins:Tj}{i:Nat}{x:Str × Nat}(h:ins[i]? =some x):(dN pairs ins).take (i+1)=(dN pairs ins).take i++[(bq pairs i,x.2)]:=by
 unfold dN;rw[List.take_add_one,List.getElem?_map,List.getElem?_zipIdx,h];simp
theorem lU{pairs:List (Nat × Nat)}{ins:Tj}:(dN pairs ins).length=ins.length:=by unfold dN;simp
theorem Dp{pairs:List (Nat × Nat)}{ins:Tj}{o w:Nat}(h:(some o,w)∈dN pairs ins):∃k x,ins[k]? =some x/\x.2=w/\bq pairs k=some o:=by
 unfold dN at h;obtain⟨⟨x,k⟩,hx,e⟩:=List.mem_map.mp h;rw[List.mem_zipIdx_iff_getElem?] at hx;injection e with e1 e2
 exact⟨k,x,hx,e2,e1⟩
theorem yA{pairs:List (Nat × Nat)}{k o:Nat}(h:bq pairs k=some o):(o,k)∈pairs:=by
 unfold bq at h;obtain⟨⟨a,b⟩,h1,e⟩:=L3.fk h;have:=List.find?_some h1;have hb:b=k:=of_decide_eq_true this;have ha:a=o:=e;subst ha hb;exact List.mem_of_find?_eq_some h1
theorem jD:∀{φ:List (Option Nat × Nat)},(∀x∈φ,x.2 < 100)->bt φ<=100*φ.length
 | [],_=>Nat.le_refl _
 | (some o,w) ::φ,h=>by
   have:=jD (φ:=φ) fun x hx=>h x (List.mem_cons_of_mem _ hx)
   show bt φ<=100*(φ.length+1);omega
 | (none,w) ::φ,h=>by
   have:=jD (φ:=φ) fun x hx=>h x (List.mem_cons_of_mem _ hx)
   have:=h (none,w) List.mem_cons_self;show w+bt φ<=100*(φ.length+1);omega
theorem xR:∀{φ:List (Option Nat × Nat)},(∀x∈φ,x.2 < 100)->(φ.map (·.2)).sum<=100*φ.length
 | [],_=>Nat.le_refl _
 | x ::φ,h=>by
   have:=xR (φ:=φ) fun x hx=>h x (List.mem_cons_of_mem _ hx)
   have:=h x List.mem_cons_self;rw[List.map_cons,List.sum_cons,List.length_cons];omega
section
variable {ai ae:Tj} {gs1 gs2:List Gt} {aF os2:Tn} {pairs:List (Nat × Nat)} {nums:List Nat}
def Fits(aF:Tn)(ae:Tj)(pairs:List (Nat × Nat)):Prop:=∀q∈pairs,∃x y,aF[q.1]? =some x/\ae[q.2]? =some y/\x.2.length=y.2
theorem Fits.at(F:Fits aF ae pairs){o w:Nat}(h:(some o,w)∈dN pairs ae):∃x,aF[o]? =some x/\jt aF o=x.2/\x.2.length=w:=by
 obtain⟨k,y,h1,h2,h3⟩:=Dp h;obtain⟨x,y',a,b,c⟩:=F _ (yA h3);rw[h1] at b;cases b;refine⟨x,a,?_,by rw[c,h2]⟩
 unfold jt;rw[List.getD_eq_getElem?_getD,a];rfl
theorem Br(F:Fits aF ae pairs)(MK:ai.length < 100)(KD:∀x∈ai,x.2 < 100)(Ii:ae.length < 100)(Ky:∀x∈ae,x.2 < 100)(MG:gs1.length < 1000)(Ei:gs2.length < 1000)(ho:∀x∈aF,x.2.length < 1000/\∀n∈x.2,n < nums.length) :
 dh [au ae gs2 os2,au ai gs1 aF, .lst (nums.map nI),dctP pairs]= .ok (.lst ((dk (gd nums) (jt aF) (dN pairs ae) (bW ai)++List.range' (bW ai+bt (dN pairs ae)+gs1.length) gs2.length).map nI)):=by
 have hz:sizeLine=16777216:=sizeLine_eq;have hwd:=jr KD;have hph:∀x∈dN pairs ae,x.2 < 100:=fun x hx=>by
  unfold dN at hx;obtain⟨⟨y,k⟩,hy,rfl⟩:=List.mem_map.mp hx;rw[List.mem_zipIdx_iff_getElem?] at hy;exact Ky y (List.mem_of_getElem? hy)
 have hpt:∀i,∀x∈(dN pairs ae).take i,x.2 < 100:=fun i x hx=>hph x (List.mem_of_mem_take hx)
 have hlw:∀i,bt ((dN pairs ae).take i)<=10000:=fun i=>by
  have:=jD (hpt i);rw[List.length_take,lU] at this;omega
 have yg:∀i,(dk (gd nums) (jt aF) ((dN pairs ae).take i) (bW ai)).length<=10000:=fun i=>by
  rw[j0 _ _ fun o w h=>by obtain⟨x,_,e,e2⟩:=F.at (List.mem_of_mem_take h);rw [e,e2]]
  have:=xR (hpt i);rw[List.length_take,lU] at this;omega
 unfold dh jf;refine fO (br (xY (ds:=[]) rfl (by simp [cn,d7])) (br (ck (d:=nI (bW ai)) (av (ds:=[.lst (ai.map inD)]) rfl (sf (by omega))) (by simp [cn,d7])) ?_))
 let E (i:Nat) (a6 a7:Sl):aq:=[.val (au ae gs2 os2), .val (au ai gs1 aF), .val (.lst (nums.map nI)), .val (dctP pairs), .bld ((dk (gd nums) (jt aF) ((dN pairs ae).take i) (bW ai)).map nI), .val (nI (bW ai+bt ((dN pairs ae).take i))),a6,a7, .un]
 obtain⟨δ1,e1,a6,a7,zi⟩:=mZ (t:=c7 2 (aX (aJ 6) (aX (aJ 7) cY))) (body:=eP) (ds:=eD (ae.map inD))
  (fun i δ=>∃a6 a7,δ=E i a6 a7) (δ:=E 0 .un .un) ⟨.un, .un,rfl⟩ (by
    rintro i d δ hd ⟨a6,a7,rfl⟩;have hv:((eD (ae.map inD)).map V3.d)[i]? =some (.d d):=by rw[List.getElem?_map,hd];rfl
    obtain⟨d0,RM,ed⟩:=Du hv;cases ed;obtain⟨x,hx,rfl⟩:=NT.r9 RM;have hxw:=Ky x (List.mem_of_getElem? hx);refine⟨E (i+1) (.val (.int i)) (.val (inD x)),?_,⟨_,_,rfl⟩⟩;have hE:E (i+1) (.val (.int i)) (.val (inD x))=[.val (au ae gs2 os2), .val (au ai gs1 aF), .val (.lst (nums.map nI)), .val (dctP pairs), .bld ((dk (gd nums) (jt aF) ((dN pairs ae).take i) (bW ai)).map nI++(dk (gd nums) (jt aF) [(bq pairs i,x.2)] (bW ai+bt ((dN pairs ae).take i))).map nI), .val (nI (bW ai+bt ((dN pairs ae).take i)+bt [(bq pairs i,x.2)])), .val (.int i), .val (inD x), .un]:=by
     show [_,_,_,_,Sl.bld ((dk (gd nums) (jt aF) ((dN pairs ae).take (i+1)) (bW ai)).map nI),Sl.val (nI (bW ai+bt ((dN pairs ae).take (i+1)))),_,_,_]=_;rw[AR hx,oM,mX,List.map_append,Nat.add_assoc]
    rw[hE];have Ea:=yg i;have HN:=hlw i;rw[show c7 2 (aX (aJ 6) (aX (aJ 7) cY)) (.tup [.int i,inD x]) (E i a6 a7)= .ok ([.val (au ae gs2 os2), .val (au ai gs1 aF), .val (.lst (nums.map nI)), .val (dctP pairs), .bld ((dk (gd nums) (jt aF) ((dN pairs ae).take i) (bW ai)).map nI), .val (nI (bW ai+bt ((dN pairs ae).take i))), .val (.int i), .val (inD x), .un]:aq) from rfl,R.aM]
    generalize hfr:bW ai+bt ((dN pairs ae).take i)=fr;have hfrl:fr < 30000:=by omega
    generalize dk (gd nums) (jt aF) ((dN pairs ae).take i) (bW ai)=L at Ea;unfold eP;cases hf:bq pairs i with
    | some o=>
      have hm:(some o,x.2)∈dN pairs ae:=by
       unfold dN;exact List.mem_map.mpr ⟨(x,i),List.mem_zipIdx_iff_getElem?.mpr hx,by rw[hf]⟩
      obtain⟨y,y1,y2,y3⟩:=F.at hm;have hyo:=ho y (List.mem_of_getElem? y1);refine om (cE (a:= .int i) (b:=dctP pairs) rfl rfl (by rw[su,hf];rfl)) ?_
      refine(sJ (ds:=L.map nI) (es:=((y.2.map (gd nums)).map nI)) (av (ds:=[.tup (y.2.map nI), .lst (nums.map nI)]) (ao (aw (a:=dq y) (b:= .int 1) (aw (a:= .lst (aF.map dq)) (b:=nI o) (aw (a:=au ai gs1 aF) (b:= .int 2) rfl rfl rfl) (aw (a:=dctP pairs) (b:= .int i) rfl rfl (A4 hf)) (NT.d6 (by rw[List.getElem?_map,y1];rfl))) rfl rfl) rfl) (v3 hyo.2 hyo.1)) rfl rfl ?_).trans ?_
      .rw [List.length_map,List.length_map,List.length_map];omega
      .show R.ok (Out.nx [_,_,_,_,Sl.bld (L.map nI++(y.2.map (gd nums)).map nI),Sl.val (nI fr),_,_,_])=R.ok (Out.nx [_,_,_,_,Sl.bld (L.map nI++(((jt aF o).map (gd nums))++[]).map nI),Sl.val (nI (fr+0)),_,_,_]);rw[y2,List.append_nil,Nat.add_zero]
    | none=>
      refine jU (cE (a:= .int i) (b:=dctP pairs) rfl rfl (by rw[su,hf];rfl)) ?_
      have ev:∀b,e2 bU (af 5) (e2 bJ (af 7) (eC (.int 1))) [.val (au ae gs2 os2), .val (au ai gs1 aF), .val (.lst (nums.map nI)), .val (dctP pairs), .bld b, .val (nI fr), .val (.int i), .val (inD x), .un]= .ok (nI (fr+x.2)):=fun b=>aw (a:=nI fr) (b:=nI x.2) rfl (aw (a:=inD x) (b:= .int 1) rfl rfl rfl) rfl
      refine(br (sJ (d:= .lst ((List.range' fr x.2).map nI)) (ds:=L.map nI) (es:=(List.range' fr x.2).map nI) (bE ((tf (a:=fr) (b:=fr+x.2) rfl (ev (L.map nI)) (by omega) (by omega)).trans (by rw[Nat.add_sub_cancel_left]))) rfl rfl (by rw[List.length_map,List.length_map,List.length_range'];omega)) (ck (ev (L.map nI++(List.range' fr x.2).map nI)) (by simp))).trans ?_
      show R.ok (Out.nx [_,_,_,_,Sl.bld (L.map nI++(List.range' fr x.2).map nI),Sl.val (nI (fr+x.2)),_,_,_])=R.ok (Out.nx [_,_,_,_,Sl.bld (L.map nI++(List.range' fr x.2++[]).map nI),Sl.val (nI (fr+(x.2+0))),_,_,_]);rw[List.append_nil,Nat.add_zero])
 have hlen:(eD (ae.map inD)).length=ae.length:=by simp [eD]
 rw[hlen] at zi;have hta:(dN pairs ae).take ae.length=dN pairs ae:=List.take_of_length_le (by rw[lU];exact Nat.le_refl _)
 have Ea:=yg ae.length;have HN:=hlw ae.length;subst zi;refine br (rR (ds:=eD (ae.map inD)) (rM rfl) e1) ?_;show cU _ _ [.val (au ae gs2 os2), .val (au ai gs1 aF), .val (.lst (nums.map nI)), .val (dctP pairs), .bld ((dk (gd nums) (jt aF) ((dN pairs ae).take ae.length) (bW ai)).map nI), .val (nI (bW ai+bt ((dN pairs ae).take ae.length))),a6,a7, .un]=_;rw[hta] at Ea HN ⊢;generalize dk (gd nums) (jt aF) (dN pairs ae) (bW ai)=L at Ea;generalize hfr:bW ai+bt (dN pairs ae)=fr;refine br (ck (d:=nI (fr+gs1.length)) (aw (a:=nI fr) (b:=nI gs1.length) rfl (av (ds:=[.lst (gs1.map c9)]) rfl (by rw[yl,List.length_map];rfl)) rfl) (by simp)) ?_
 have ev:∀b,e2 bU (af 8) (aG cz (ag (e2 bJ (af 0) (eC (.int 1))) aD)) [.val (au ae gs2 os2), .val (au ai gs1 aF), .val (.lst (nums.map nI)), .val (dctP pairs), .bld b, .val (nI fr),a6,a7, .val (nI (fr+gs1.length))]= .ok (nI (fr+gs1.length+gs2.length)):=fun b=>aw (a:=nI (fr+gs1.length)) (b:=nI gs2.length) rfl (av (ds:=[.lst (gs2.map c9)]) rfl (by rw[yl,List.length_map];rfl)) rfl
 refine br (sJ (d:= .lst ((List.range' (fr+gs1.length) gs2.length).map nI)) (ds:=L.map nI) (es:=(List.range' (fr+gs1.length) gs2.length).map nI) (bE ?_) rfl rfl (by rw[List.length_map,List.length_map,List.length_range'];omega)) (c_ ?_)
 .exact(tf (a:=fr+gs1.length) (b:=fr+gs1.length+gs2.length) rfl (ev (L.map nI)) (by omega) (by omega)).trans (by rw[Nat.add_sub_cancel_left])
 .show R.ok (D.lst (L.map nI++(List.range' (fr+gs1.length) gs2.length).map nI))=_;rw[List.map_append]
end
end K34
end
section
namespace K34
open PySem PySem.Spec PyProof.Rows L2 L3 MT JT
def d5(q:Nat × Nat):D:= .tup [nI q.1,nI q.2]
def xW(pairs:List (Nat × Nat)):List (Key × D):=pairs.map fun q=>(Sum.inl ((q.2:Nat):Int),nI q.1)
theorem Er(pairs:List (Nat × Nat)):D.dct ((xW pairs).map (·.1)) ((xW pairs).map (·.2))=dctP pairs:=by
 unfold xW dctP;rw[List.map_map,List.map_map];rfl
theorem xM{kvs:List (Key × D)}{k:Key}{d:D}(h:jx (kvs.map (·.1)) k=false):o7 kvs k d=kvs++[(k,d)]:=by
 unfold o7;have e:(kvs.any fun kv=>decide (kv.1=k))=jx (kvs.map (·.1)) k:=by unfold jx;rw [List.any_map];rfl
 rw[e,h,if_neg (by decide)]
section
variable {S:bc} {pairs:List (Nat × Nat)}
theorem uz{k:Nat}(h:∀q∈pairs,q.2≠k):bq pairs k=none:=by
 unfold bq;rw[List.find?_eq_none.mpr fun q hq=>by rw[decide_eq_false (h q hq)];decide]
 rfl
theorem lC{α β:Type}{f:α->β}{l:List α}{i:Nat}{x:α}(hn:(l.map f).Nodup)(hx:l[i]? =some x):∀y∈l.take i,f y≠f x:=fun y hy e=>by
 obtain⟨j,hj⟩:=List.getElem?_of_mem hy;rw[List.getElem?_take] at hj;split at hj
 .rename_i hji;have h1:(l.map f)[j]? =some (f y):=by rw[List.getElem?_map,hj];rfl
  have h2:(l.map f)[i]? =some (f x):=by rw[List.getElem?_map,hx];rfl
  obtain⟨a1,a2⟩:=List.getElem?_eq_some_iff.mp h1;obtain⟨b1,b2⟩:=List.getElem?_eq_some_iff.mp h2;have:=(List.nodup_iff_pairwise_ne.mp hn);have:=List.pairwise_iff_getElem.mp this j i a1 b1 hji;exact this (by rw[a2,b2,e])
 .cases hj
theorem FN(hn:(pairs.map (·.2)).Nodup)(hl:pairs.length < 1000)(hS:Hn S){Q:V3->bc->Prop}(h:Q (.d (dctP pairs)) S):W3 (eL [.d (.lst (pairs.map d5))] S) Q:=by
 have hz:sizeLine=16777216:=sizeLine_eq;unfold eL;refine oi hS (HU rfl ?_);simp only[eE,fD,List.map,List.length,List.replicate,List.cons_append,List.nil_append,Nat.reduceAdd,Nat.reduceSub];unfold gY;refine aZ <| bG (by simp) <| AW ⟨_,rfl,?_⟩
 simp only[List.set];refine aZ <| ik <| hV (ds:=pairs.map d5) rfl ?_
 refine(cy (fun i δ S2=>(∃a b,δ=[some (.d (.lst (pairs.map d5))),some (.loc S.length),a,b])/\S2=S++[SO.dct (xW (pairs.take i))])
  ⟨⟨_,_,rfl⟩,rfl⟩ ?_).mono fun o S2 ⟨e8,iG,⟨a,b,hδ⟩,nS⟩=>⟨e8,iG,?_⟩
 .rintro i v δ S2 hv ⟨⟨a,b,rfl⟩,rfl⟩;obtain⟨q,hq,rfl⟩:=NT.dn hv;refine⟨[some (.d (.lst (pairs.map d5))),some (.loc S.length),some (.d (nI q.1)),some (.d (nI q.2))],rfl,?_⟩;unfold jc;have hno:bq (pairs.take i) q.2=none:=uz (lC hn hq);have h1:(dW (S++[.dct (xW (pairs.take i))]) [some (.d (.lst (pairs.map d5))),some (.loc S.length),some (.d (nI q.1)),some (.d (nI q.2))])[1]? =some (.val (dctP (pairs.take i))):=by
   unfold dW;show some (match res (S++[.dct (xW (pairs.take i))]) (.loc S.length) with | some d=>Sl.val d | none=> .un)=_
   unfold res;rw[cC];show some (Sl.val (.dct ((xW (pairs.take i)).map (·.1)) ((xW (pairs.take i)).map (·.2))))=_
   rw[Er]
  refine aZ <| rV <| DC (b:=false) (cE (a:=nI q.2) (b:=dctP (pairs.take i)) rfl (by unfold af;rw [h1]) (by show vH (.int (q.2:Nat)) _=_;rw [su,hno];rfl)) ?_
  rw[if_neg (by decide)]
  refine iY ⟨_,rfl,?_⟩;refine wW <| cX (d:=nI q.1) rfl <| w_var (v:= .loc S.length) rfl <| cX (d:=nI q.2) rfl ⟨_,S.length,_,Sum.inl ((q.2:Nat):Int),xW (pairs.take i),rfl,rfl,rfl,rfl,cC _ _,?_,?_⟩
  .unfold xW;rw [List.length_map,List.length_take];omega
  .refine⟨_,rfl,⟨_,_,rfl⟩,?_⟩;rw[eB,xM (by
    have:=lS q.2 (pairs.take i);rw[hno] at this;unfold xW;rw[List.map_map];exact this),List.take_add_one,hq]
   unfold xW;rw[List.map_append];rfl
 rw[List.length_map,List.length_map,List.take_length] at nS;subst hδ nS;refine q8 (w_var rfl ⟨_,rfl,by unfold gI;exact decide_eq_true (Nat.le_refl _),⟨_,rfl⟩,dctP pairs,?_,h⟩)
 unfold res;rw[cC];show some (D.dct ((xW pairs).map (·.1)) ((xW pairs).map (·.2)))=_
 rw[Er]
def F7(x:Str × D):D:= .tup [.str x.1,x.2]
def zq(xs:List (Str × D)):List (Key × D):=xs.map fun x=>(Sum.inr x.1,D.bl true)
theorem Bw{xs:List (Str × D)}(h:∀x∈xs,x.1≠n):jx ((zq xs).map (·.1)) (Sum.inr n)=false:=by
 unfold jx zq;rw[List.map_map,List.any_map];refine List.any_eq_false.mpr fun x hx=>?_
 show ¬decide ((Sum.inr x.1:Key)=Sum.inr n)=true;rw[decide_eq_false fun z=>h x hx (by injection z)]
 decide
theorem uh{xs:List (Str × D)}(hn:(xs.map (·.1)).Nodup)(hl:xs.length < 1000)(hS:Hn S){Q:V3->bc->Prop}(h:Q (.d .cu) S):W3 (cA [.d (.lst (xs.map F7))] S) Q:=by
 have hz:sizeLine=16777216:=sizeLine_eq;unfold cA;refine oi hS (K2 rfl ?_);simp only[eE,fB,List.map,List.length,List.replicate,List.cons_append,List.nil_append,Nat.reduceAdd,Nat.reduceSub];unfold gU;refine aZ <| bG (by simp) <| AW ⟨_,rfl,?_⟩
 simp only[List.set];refine ik <| hV (ds:=xs.map F7) rfl ?_
 refine(cy (fun i δ S2=>(∃a b,δ=[some (.d (.lst (xs.map F7))),some (.loc S.length),a,b])/\S2=S++[SO.dct (zq (xs.take i))])
  ⟨⟨_,_,rfl⟩,rfl⟩ ?_).mono fun o S2 ⟨e8,iG,⟨a,b,hδ⟩,nS⟩=>⟨e8,iG,by unfold gI;rfl,⟨_,nS⟩, .cu,by unfold res;rfl,h⟩
 rintro i v δ S2 hv ⟨⟨a,b,rfl⟩,rfl⟩;obtain⟨x,hx,rfl⟩:=NT.dn hv;refine⟨[some (.d (.lst (xs.map F7))),some (.loc S.length),some (.d (.str x.1)),some (.d x.2)],rfl,?_⟩;unfold jj;have hno:=Bw (n:=x.1) (xs:=xs.take i) (lC hn hx);have h1:(dW (S++[.dct (zq (xs.take i))]) [some (.d (.lst (xs.map F7))),some (.loc S.length),some (.d (.str x.1)),some (.d x.2)])[1]? =some (.val (.dct ((zq (xs.take i)).map (·.1)) ((zq (xs.take i)).map (·.2)))):=by
  unfold dW;show some (match res (S++[.dct (zq (xs.take i))]) (.loc S.length) with | some d=>Sl.val d | none=> .un)=_
  unfold res;rw[cC]
 refine aZ <| rV <| DC (b:=false) (cE (a:= .str x.1) (b:= .dct ((zq (xs.take i)).map (·.1)) ((zq (xs.take i)).map (·.2))) rfl (by unfold af;rw [h1]) (by show R.ok (D.bl (jx _ _))=_;rw [hno])) ?_
 rw[if_neg (by decide)]
 refine iY ⟨_,rfl,?_⟩;refine wW <| cX (d:= .bl true) rfl <| w_var (v:= .loc S.length) rfl <| cX (d:= .str x.1) rfl ⟨_,S.length,_,Sum.inr x.1,zq (xs.take i),rfl,rfl,rfl,rfl,cC _ _,?_,?_⟩
 .unfold zq;rw [List.length_map,List.length_take];omega
 .refine⟨_,rfl,⟨_,_,rfl⟩,?_⟩;rw[eB,xM hno,List.take_add_one,hx];unfold zq;rw[List.map_append];rfl
end
section
variable {ai ae:Tj} {gs1 gs2:List Gt} {aF os2:Tn} {pairs:List (Nat × Nat)}
theorem Fe(a b:Nat):n0 (.int a) (.int b)= .ok (.bl (!decide (a=b))):=by
 show R.ok (D.bl (!((a:Int)==(b:Int))))=_;congr 3;by_cases h:a=b
 .rw [decide_eq_true h];exact beq_iff_eq.mpr (by omega)
 .rw [decide_eq_false h];exact beq_eq_false_iff_ne.mpr (by omega)
theorem zW{N:List Str}{F:FS}{ds:List D}{δ:aq}(h:F (cn N ds)= .ok (.nx δ)):p6 N F ds= .ok .cu:=by unfold p6;rw [h];rfl
theorem Dm(F:Fits aF ae pairs):eV [au ai gs1 aF,au ae gs2 os2, .lst (pairs.map d5)]= .ok .cu:=by
 unfold eV ml;obtain⟨δ1,e1,a,b,zi⟩:=mZ (t:=c7 2 (aX (aJ 3) (aX (aJ 4) cY))) (body:=f_) (ds:=pairs.map d5)
  (fun i δ=>∃a b,δ=[.val (au ai gs1 aF), .val (au ae gs2 os2), .val (.lst (pairs.map d5)),a,b]) (δ:=[.val (au ai gs1 aF), .val (au ae gs2 os2), .val (.lst (pairs.map d5)), .un, .un]) ⟨.un, .un,rfl⟩ (by
    rintro i d δ hd ⟨a,b,rfl⟩;obtain⟨q,hq,rfl⟩:=NT.r9 hd;obtain⟨x,y,h1,h2,h3⟩:=F q (List.mem_of_getElem? hq);refine⟨[.val (au ai gs1 aF), .val (au ae gs2 os2), .val (.lst (pairs.map d5)), .val (nI q.1), .val (nI q.2)],?_,⟨_,_,rfl⟩⟩;rw[show c7 2 (aX (aJ 3) (aX (aJ 4) cY)) (d5 q) [.val (au ai gs1 aF), .val (au ae gs2 os2), .val (.lst (pairs.map d5)),a,b]= .ok [.val (au ai gs1 aF), .val (au ae gs2 os2), .val (.lst (pairs.map d5)), .val (nI q.1), .val (nI q.2)] from rfl,R.aM]
    unfold f_;refine jU (cE (a:= .int x.2.length) (b:= .int y.2) (k:=false) (av (ds:=[.tup (x.2.map nI)]) (ao (aw (a:=dq x) (b:= .int 1) (aw (a:= .lst (aF.map dq)) (b:=nI q.1) (aw (a:=au ai gs1 aF) (b:= .int 2) rfl rfl rfl) rfl (NT.d6 (by rw[List.getElem?_map,h1];rfl))) rfl rfl) rfl) (by show R.ok (D.int ((x.2.map nI).length:Nat))=_;rw [List.length_map])) (aw (a:=inD y) (b:= .int 1) (aw (a:= .lst (ae.map inD)) (b:=nI q.2) (aw (a:=au ae gs2 os2) (b:= .int 0) rfl rfl rfl) rfl (NT.d6 (by rw[List.getElem?_map,h2];rfl))) rfl rfl) ?_) rfl
    rw[Fe,h3,decide_eq_true rfl];rfl)
 exact zW (rR (ds:=pairs.map d5) rfl e1)
theorem zJ{n m:Nat}(h:n<=m):xj (.int n) (.int m)= .ok (.bl false):=by
 show R.ok (D.bl (decide ((n:Int) > (m:Int))))=_;rw[decide_eq_false (by omega)]
theorem Dl{ins:Tj}{gs:List Gt}{os:Tn}(h1:ins.length<=6)(h2:gs.length<=60)(h3:os.length<=6):eN [au ins gs os]= .ok .cu:=by
 unfold eN lT;have q1:b2 xj (aG cz (ag (e2 bJ (af 0) (eC (.int 0))) aD)) (eC fw) (cn dE [au ins gs os])= .ok false:=cE (a:= .int ins.length) (b:= .int (6:Nat)) (av (ds:=[.lst (ins.map inD)]) rfl (by rw[yl,List.length_map])) rfl (zJ h1)
 have q2:b2 xj (aG cz (ag (e2 bJ (af 0) (eC (.int 1))) aD)) (eC dC) (cn dE [au ins gs os])= .ok false:=cE (a:= .int gs.length) (b:= .int (60:Nat)) (av (ds:=[.lst (gs.map c9)]) rfl (by rw[yl,List.length_map])) rfl (zJ h2)
 have q3:b2 xj (aG cz (ag (e2 bJ (af 0) (eC (.int 2))) aD)) (eC eh) (cn dE [au ins gs os])= .ok false:=cE (a:= .int os.length) (b:= .int (6:Nat)) (av (ds:=[.lst (os.map dq)]) rfl (by rw[yl,List.length_map])) rfl (zJ h3)
 refine zW (δ:=cn dE [au ins gs os]) (jU ?_ rfl);unfold t5;rw[q1,R.aM,if_neg (by decide),q2,R.aM,if_neg (by decide)]
 exact q3
end
end K34
end
section
namespace K34
open PySem PySem.Spec PyProof.Rows L2 L3 MT JT
def dZ(pairs:List (Nat × Nat))(ins:Tj):Tj:=(ins.zipIdx.filter fun x=>(bq pairs x.2).isNone).map (·.1)
def eR(pairs:List (Nat × Nat))(os:Tn):Tn:=(os.zipIdx.filter fun x=>!(pairs.map (·.1)).contains x.2).map (·.1)
theorem u6{pairs:List (Nat × Nat)}{ins:Tj}:bW (dZ pairs ins)=bt (dN pairs ins):=by
 unfold dZ dN;generalize ins.zipIdx=l
 induction l with
 | nil=>rfl
 | cons x l ih=>
   rw[List.filter_cons,List.map_cons];cases hf:bq pairs x.2 with
   | none=>
     rw[Option.isNone_none,if_pos rfl,List.map_cons];show bW (x.1 ::_)=x.1.2+bt _;rw[<-ih];unfold bW;rw[List.map_cons,List.sum_cons]
   | some o=>
     rw[Option.isNone_some,if_neg (by decide)]
     exact ih
theorem A0{pairs:List (Nat × Nat)}{ins:Tj}{x:Str × Nat}(h:x∈dZ pairs ins):x∈ins:=by
 unfold dZ at h;obtain⟨⟨y,k⟩,hy,rfl⟩:=List.mem_map.mp h;exact List.mem_of_getElem? (List.mem_zipIdx_iff_getElem?.mp (List.mem_filter.mp hy).1)
theorem kc{pairs:List (Nat × Nat)}{os:Tn}{x:Str × List Nat}(h:x∈eR pairs os):x∈os:=by
 unfold eR at h;obtain⟨⟨y,k⟩,hy,rfl⟩:=List.mem_map.mp h;exact List.mem_of_getElem? (List.mem_zipIdx_iff_getElem?.mp (List.mem_filter.mp hy).1)
section
variable {ai ae:Tj} {gs1 gs2:List Gt} {aF os2:Tn} {pairs:List (Nat × Nat)} {S:bc}
abbrev jL(ai ae:Tj)(aF:Tn)(pairs:List (Nat × Nat)):List Nat:=dk (DS (bW ai) (bt (dN pairs ae))) (jt aF) (dN pairs ae) (bW ai)
abbrev pT(ai ae:Tj)(pairs:List (Nat × Nat)):Nat->Nat:=DS (bW ai) (bt (dN pairs ae))
abbrev xp(ai ae:Tj)(gs1:List Gt)(aF:Tn)(pairs:List (Nat × Nat)):Nat->Nat:=GB (jL ai ae aF pairs) (bW ai+bt (dN pairs ae)+gs1.length)
def jI(ai ae:Tj)(pairs:List (Nat × Nat)):Tj:=ai++dZ pairs ae
def jG(ai ae:Tj)(gs1 gs2:List Gt)(aF:Tn)(pairs:List (Nat × Nat)):List Gt:=gJ gs1 gs2 (dN pairs ae) (jt aF) (bW ai)
def jO(ai ae:Tj)(gs1:List Gt)(aF os2:Tn)(pairs:List (Nat × Nat)):Tn:=(eR pairs aF).map (dO (pT ai ae pairs))++os2.map (dO (xp ai ae gs1 aF pairs))
theorem oE{α:Type}(f:α->D)(l:List α):eD (l.map f)=l.zipIdx.map fun x=>D.tup [.int x.2,f x.1]:=by
 unfold eD;rw[List.zipIdx_map,List.map_map];rfl
theorem HC{ins:Tj}:ins.map MT.inD=(ins.map fun x=>(x.1,nI x.2)).map F7:=by rw[List.map_map];rfl
theorem Dk{os:Tn}:os.map dq=(os.map fun x=>(x.1,D.tup (x.2.map nI))).map F7:=by rw[List.map_map];rfl
theorem wJ{ins:Tj}:((dN pairs ins).map (·.2)).sum=bW ins:=by
 unfold dN bW;rw[List.map_map];congr 1;refine List.ext_getElem? fun i=>?_
 rw[List.getElem?_map,List.getElem?_map,List.getElem?_zipIdx];cases ins[i]? <;> rfl
theorem lp{f g:Nat->Nat}{os:Nat->List Nat}:∀{φ:List (Option Nat × Nat)} {free:Nat},(∀o w,(some o,w)∈φ->∀n∈os o,f n=g n)->dk f os φ free=dk g os φ free
 | [],_,_=>rfl
 | (some o,w) ::φ,free,h=>by
   show(os o).map f++dk f os φ free=(os o).map g++dk g os φ free;rw[lp fun o w hh=>h o w (List.mem_cons_of_mem _ hh),List.map_congr_left (h o w List.mem_cons_self)]
 | (none,w) ::φ,free,h=>by
   show _++dk f os φ (free+w)=_++dk g os φ (free+w);rw[lp fun o w hh=>h o w (List.mem_cons_of_mem _ hh)]
theorem GX{L:List Nat}{top n w:Nat}(h:w < L.length+n):gd (L++List.range' top n) w=GB L top w:=by
 show(L++List.range' top n).getD w 0=_;unfold GB;rw[List.getD_eq_getElem?_getD];by_cases q:w < L.length
 .rw [List.getElem?_append_left q,if_pos q,List.getD_eq_getElem?_getD]
 .rw [List.getElem?_append_right (by omega),if_neg q,List.getElem?_range' (by omega)]
  show top+1*(w - L.length)=_;omega
theorem oQ{f g:Nat->Nat}{x:Gt}(h:∀n∈x.2.1,f n=g n):eA f x=eA g x:=by unfold eA;rw [List.map_congr_left h]
theorem oH{f g:Nat->Nat}{x:Str × List Nat}(h:∀n∈x.2,f n=g n):dO f x=dO g x:=by unfold dO;rw [List.map_congr_left h]
theorem Jj{a b:List D}(h:a.length+b.length<=sizeLine):bU (.lst a) (.lst b)= .ok (.lst (a++b)):=wC h
theorem n6(k:Nat)(l:List Nat):mF (.int k) (.lst (l.map nI))= .ok (.bl (!l.contains k)):=by
 have e:l.map nI=(l.map fun(n:Nat)=>(n:Int)).map D.int:=(List.map_map (g:=D.int) (f:=fun(n:Nat)=>(n:Int)) (l:=l)).symm
 rw[e];show((match ints? ((l.map fun(n:Nat)=>(n:Int)).map D.int) with | some ss=>R.ok (ss.contains (k:Int)) | none=> .no)).bind (fun b=>R.ok (D.bl (!b)))=_
 rw[L2.ints_map];show R.ok (D.bl (!((l.map fun(n:Nat)=>(n:Int)).contains (k:Int))))=_
 congr 3;rw[Bool.eq_iff_iff];simp only[List.contains_iff_mem,List.mem_map];constructor
 .rintro⟨a,ha,e⟩;rw[<-Int.ofNat_inj.mp e];exact ha
 .exact fun h=>⟨k,h,rfl⟩
theorem xo{g:List V3->bc->R3 V3}{fs:FA}{δ:DE}{S:bc}{QV:V3->bc->Prop}(h:W3 (fs δ S) fun vs S1=>∃ds,vJ S1 vs=some ds/\W3 (g (ds.map .d) []) fun v _=>∃d,v= .d d/\u9 d=true/\QV (.d d) S1):W3 (sM g fs δ S) QV:=
 W3.bind (h.mono fun vs S1 ⟨ds,e,d0,S2,iG,d,e3,e4,q⟩=>by
  subst e3;rw[e];simp only[iG];exact W3.wh e4 (W3.ok q))
theorem xb{S:bc}{k:Nat}{ds:List D}(h:S[k]? =some (.lst ds)):EK S (.loc k)=some (.lst ds):=by
 show(match S[k]? with | some (.lst ds)=>some (D.lst ds) | _=>none)=_
 rw[h]
structure Kl (ai ae:Tj) (gs1 gs2:List Gt) (aF os2:Tn) (pairs:List (Nat × Nat)):Prop where
 F:Fits aF ae pairs
 nd:(pairs.map (·.2)).Nodup
 ni:((jI ai ae pairs).map (·.1)).Nodup
 no:((jO ai ae gs1 aF os2 pairs).map (·.1)).Nodup
 ri:(jI ai ae pairs).length<=6
 rg:gs1.length+gs2.length<=60
 ro:(jO ai ae gs1 aF os2 pairs).length<=6
theorem oh:∀{n:Nat} {l:List Nat},l.Nodup->(∀x∈l,x < n)->l.length<=n
 | 0,l,_,hn=>by
   cases l with
   | nil=>exact Nat.le_refl _
   | cons x l=>exact absurd (hn x List.mem_cons_self) (by omega)
 | n+1,l,h,hn=>by
   have h1:=oh (n:=n) (l:=l.erase n) (h.erase n) fun x hx=>by
    have h2:=hn x (List.mem_of_mem_erase hx);have h3:x≠n:=fun e=>(List.Nodup.mem_erase_iff h).mp hx |>.1 e
    omega
   have h2:=List.length_erase (a:=n) (l:=l);split at h2 <;> omega
theorem oa(N1:dm ai gs1 aF)(N2:dm ae gs2 os2)(J:Kl ai ae gs1 gs2 aF os2 pairs)(hS:Hn S){Q:V3->bc->Prop}(h:Q (.tup [.loc S.length, .loc (S.length+1), .loc (S.length+2)]) (S++[SO.lst ((jI ai ae pairs).map inD),SO.lst ((jG ai ae gs1 gs2 aF pairs).map c9),SO.lst ((jO ai ae gs1 aF os2 pairs).map dq)])) :
 W3 (f7 [.d (au ai gs1 aF), .d (au ae gs2 os2), .d (.lst (pairs.map d5))] S) Q:=by
 have hz:sizeLine=16777216:=sizeLine_eq;have KD:=jr N1.hw;have Ky:=jr N2.hw;have HE:=N1.hi;have Ie:=N1.hg;have MH:=N1.ho;have h21:=N2.hi;have h22:=N2.hg;have h23:=N2.ho;have j5:pairs.length < 1000:=by
  have:=oh (n:=ae.length) J.nd fun x hx=>by
   obtain⟨q,hq,rfl⟩:=List.mem_map.mp hx;obtain⟨_,y,_,hy,_⟩:=J.F q hq;exact(List.getElem?_eq_some_iff.mp hy).1
  rw[List.length_map] at this;omega
 have hpw:∀x∈dN pairs ae,x.2 < 100:=fun x hx=>by
  unfold dN at hx;obtain⟨⟨y,k⟩,hy,rfl⟩:=List.mem_map.mp hx;rw[List.mem_zipIdx_iff_getElem?] at hy;exact N2.hw y (List.mem_of_getElem? hy)
 have hlw:bt (dN pairs ae) < 10000:=by
  have:=jD hpw;rw[lU] at this;omega
 have hll:(dZ pairs ae).length<=ae.length:=by
  unfold dZ;rw[List.length_map];have:=List.length_filter_le (fun x:(Str × Nat) × Nat=>(bq pairs x.2).isNone) ae.zipIdx
  rwa [List.length_zipIdx] at this
 have hlo:(eR pairs aF).length<=aF.length:=by
  unfold eR;rw[List.length_map];have:=List.length_filter_le (fun x:(Str × List Nat) × Nat=>!(pairs.map (·.1)).contains x.2) aF.zipIdx
  rwa [List.length_zipIdx] at this
 unfold f7;refine HU rfl ?_;simp only[eE,l5,List.map,List.length,List.replicate,List.cons_append,List.nil_append,Nat.reduceAdd,Nat.reduceSub];unfold oe;refine aZ <| rH <| cX (d:= .cu) (av (ds:=[au ai gs1 aF,au ae gs2 os2, .lst (pairs.map d5)]) rfl (Dm J.F)) ⟨_,rfl,?_⟩
 refine aZ <| bG (by simp) <| lq <| b7 <| cX (d:= .lst (pairs.map d5)) rfl <| jP <| FN J.nd j5 hS ⟨_,rfl,?_⟩
 simp only[List.set];refine aZ <| bG (by simp) <| cX (d:= .lst ((pairs.map (·.1)).map nI)) (bE (bK (ds:=pairs.map d5) rfl (by rw[List.length_map];omega) ?_)) ⟨_,rfl,?_⟩
 .rw [List.map_map];exact NT.bw d5 _ fun q hq=>⟨[.val (nI q.1), .val (nI q.2)],rfl,rfl,rfl⟩
 simp only[List.set];refine aZ <| bG (by simp) <| fY (fun j ds S2=>S2=S/\ds=(((ae.zipIdx.take j).filter fun x=>(bq pairs x.2).isNone).map (·.1)).map MT.inD) <| hV (ds:=ae.zipIdx.map fun x=>D.tup [.int x.2,MT.inD x.1]) (by rw[<-oE MT.inD];exact rM rfl) ⟨by rw[List.length_map,List.length_map,List.length_zipIdx];omega,⟨rfl,rfl⟩,?_,?_⟩
 .rintro j v ds S2 hv ⟨rfl,rfl⟩;obtain⟨⟨x,k⟩,hx,rfl⟩:=NT.dn hv;refine⟨[some (.d (.int k)),some (.d (inD x)),some (.d (dctP pairs))],rfl,uT (b:=(bq pairs k).isNone) (cE (a:= .int k) (b:=dctP pairs) rfl rfl C2) ?_⟩;rw[List.take_add_one,hx,List.filter_append];cases hf:(bq pairs k).isNone with
  | true=>rw [if_pos rfl];exact cX (d:=inD x) rfl ⟨_,rfl,rfl,by simp [hf]⟩
  | false=>rw [if_neg (by decide)];exact⟨rfl,by simp [hf]⟩
 rintro ds S2 ⟨e1,rfl⟩;subst S2;rw[List.length_map,List.length_map,List.take_length];refine⟨_,rfl,?_⟩;simp only[List.set];refine aZ <| bG (by simp) <| fY (fun j ds S2=>S2=S/\ds=(((aF.zipIdx.take j).filter fun x=>!(pairs.map (·.1)).contains x.2).map (·.1)).map dq) <| hV (ds:=aF.zipIdx.map fun x=>D.tup [.int x.2,dq x.1]) (by rw[<-oE dq];exact rM rfl) ⟨by rw[List.length_map,List.length_map,List.length_zipIdx];omega,⟨rfl,rfl⟩,?_,?_⟩
 .rintro j v ds S2 hv ⟨rfl,rfl⟩;obtain⟨⟨x,k⟩,hx,rfl⟩:=NT.dn hv;refine⟨[some (.d (.int k)),some (.d (dq x)),some (.d (.lst ((pairs.map (·.1)).map nI)))],rfl,uT (b:=!(pairs.map (·.1)).contains k) (cE (a:= .int k) (b:= .lst ((pairs.map (·.1)).map nI)) rfl rfl ?_) ?_⟩
  .exact n6 k _
  rw[List.take_add_one,hx,List.filter_append];cases hf:!(pairs.map (·.1)).contains k with
  | true=>rw [if_pos rfl];exact cX (d:=dq x) rfl ⟨_,rfl,rfl,by rw[List.map_append,List.map_append];congr 1;simp only[Option.toList_some,List.filter_cons,hf,if_true,List.filter_nil,List.map_cons,List.map_nil]⟩
  | false=>rw [if_neg (by decide)];exact⟨rfl,by congr 1;simp only[Option.toList_some,List.filter_cons,hf,List.filter_nil];simp⟩
 rintro ds S2 ⟨e1,rfl⟩;subst S2;rw[List.length_map,List.length_map,List.take_length];refine⟨_,rfl,?_⟩;simp only[List.set];have eI:((ae.zipIdx.filter fun x=>(bq pairs x.2).isNone).map (·.1)).map MT.inD=(dZ pairs ae).map MT.inD:=rfl
 have eO:((aF.zipIdx.filter fun x=>!(pairs.map (·.1)).contains x.2).map (·.1)).map dq=(eR pairs aF).map dq:=rfl
 rw[eI,eO];refine aZ <| bG (by simp) <| cX (d:= .lst ((mO (bW ai) (bt (dN pairs ae)) gs1.length).map nI)) (av (ds:=[au ai gs1 aF,nI (bt (dN pairs ae))]) (ao rfl (ao (av (ds:=[.lst ((dZ pairs ae).map inD)]) rfl (by rw[sf (by omega),u6])) rfl)) (FR HE N1.hw Ie (by omega))) ⟨_,rfl,?_⟩
 simp only[List.set];have hnl:=AX (bW ai) (bt (dN pairs ae)) gs1.length;have hna:∀w,w < bW ai+gs1.length->gd (mO (bW ai) (bt (dN pairs ae)) gs1.length) w=pT ai ae pairs w:=fun w hw=>DI hw
 have hL:dk (gd (mO (bW ai) (bt (dN pairs ae)) gs1.length)) (jt aF) (dN pairs ae) (bW ai)=jL ai ae aF pairs:=lp fun o w ho n hn=>by
  obtain⟨x,x1,x2,x3⟩:=J.F.at ho;rw[x2] at hn;exact hna n ((N1.o x (List.mem_of_getElem? x1)).2 n hn)
 have hLl:(jL ai ae aF pairs).length=bW ae:=by
  rw[j0 _ _ fun o w ho=>by obtain⟨x,_,e,e2⟩:=J.F.at ho;rw [e,e2],wJ]
 refine aZ <| bG (by simp) <| cX (d:= .lst ((jL ai ae aF pairs++List.range' (bW ai+bt (dN pairs ae)+gs1.length) gs2.length).map nI)) ((av (ds:=[au ae gs2 os2,au ai gs1 aF, .lst ((mO (bW ai) (bt (dN pairs ae)) gs1.length).map nI),dctP pairs]) rfl (Br J.F HE N1.hw h21 N2.hw Ie h22 (fun x hx=>⟨(N1.o x hx).1,fun n hn=>by rw[hnl];exact(N1.o x hx).2 n hn⟩))).trans (by rw[hL])) ⟨_,rfl,?_⟩
 simp only[List.set];generalize hnu:mO (bW ai) (bt (dN pairs ae)) gs1.length=nums at hnl hna;have hnb:∀w,w < bW ae+gs2.length->gd (jL ai ae aF pairs++List.range' (bW ai+bt (dN pairs ae)+gs1.length) gs2.length) w=xp ai ae gs1 aF pairs w:=fun w hw=>GX (by rw[hLl];exact hw)
 have yg:(jL ai ae aF pairs++List.range' (bW ai+bt (dN pairs ae)+gs1.length) gs2.length).length=bW ae+gs2.length:=by rw[List.length_append,hLl,List.length_range']
 generalize jL ai ae aF pairs++List.range' (bW ai+bt (dN pairs ae)+gs1.length) gs2.length=oths at hnb yg;refine aZ <| bG (by simp) <| BE <| cX (d:= .lst (ai.map inD)) (aw (a:=au ai gs1 aF) (b:= .int 0) rfl rfl rfl) <| cX (d:= .lst ((dZ pairs ae).map inD)) rfl ⟨_,_,rfl,rfl,by rw[List.length_map,List.length_map];omega,_,rfl,?_⟩
 simp only[List.set];rw[show ai.map MT.inD++(dZ pairs ae).map MT.inD=(jI ai ae pairs).map MT.inD by unfold jI;rw [List.map_append]]
 have g1:∀g∈gs1,(∀n∈g.2.1,n < bW ai+gs1.length)/\g.2.1.length < 1000:=fun g hg=>by
  obtain⟨i,hi⟩:=List.getElem?_of_mem hg;have hil:=(List.getElem?_eq_some_iff.mp hi).1;obtain⟨a,b,c⟩:=N1.g i g hi;have:=qP g.1;exact⟨fun n hn=>by have:=c n hn;omega,by omega⟩
 have g2:∀g∈gs2,(∀n∈g.2.1,n < bW ae+gs2.length)/\g.2.1.length < 1000:=fun g hg=>by
  obtain⟨i,hi⟩:=List.getElem?_of_mem hg;have hil:=(List.getElem?_eq_some_iff.mp hi).1;obtain⟨a,b,c⟩:=N2.g i g hi;have:=qP g.1;exact⟨fun n hn=>by have:=c n hn;omega,by omega⟩
 have eG1:gs1.map (eA (gd nums))=gs1.map (eA (pT ai ae pairs)):=List.map_congr_left fun g hg=>oQ fun n hn=>hna n ((g1 g hg).1 n hn)
 have eG2:gs2.map (eA (gd oths))=gs2.map (eA (xp ai ae gs1 aF pairs)):=List.map_congr_left fun g hg=>oQ fun n hn=>hnb n ((g2 g hg).1 n hn)
 have eO1:(eR pairs aF).map (dO (gd nums))=(eR pairs aF).map (dO (pT ai ae pairs)):=List.map_congr_left fun x hx=>oH fun n hn=>hna n ((N1.o x (kc hx)).2 n hn)
 have eO2:os2.map (dO (gd oths))=os2.map (dO (xp ai ae gs1 aF pairs)):=List.map_congr_left fun x hx=>oH fun n hn=>hnb n ((N2.o x hx).2 n hn)
 refine aZ <| bG (by simp) <| BE <| cX (d:= .lst ((gs1.map (eA (pT ai ae pairs))).map c9)) ((av (ds:=[.lst (gs1.map c9), .lst (nums.map nI)]) rfl (tK (fun g hg=>by rw[hnl];exact g1 g hg) Ie)).trans (by rw[eG1])) <| cX (d:= .lst ((gs2.map (eA (xp ai ae gs1 aF pairs))).map c9)) ((av (ds:=[.lst (gs2.map c9), .lst (oths.map nI)]) rfl (tK (fun g hg=>by rw[yg];exact g2 g hg) h22)).trans (by rw[eG2])) ⟨_,_,rfl,rfl,by rw[List.length_map,List.length_map,List.length_map,List.length_map];omega,_,rfl,?_⟩
 simp only[List.set];rw[show(gs1.map (eA (pT ai ae pairs))).map c9++(gs2.map (eA (xp ai ae gs1 aF pairs))).map c9=(jG ai ae gs1 gs2 aF pairs).map c9 by unfold jG gJ;rw [List.map_append]]
 refine aZ <| bG (by simp) <| BE <| cX (d:= .lst (((eR pairs aF).map (dO (pT ai ae pairs))).map dq)) ((av (ds:=[.lst ((eR pairs aF).map dq), .lst (nums.map nI)]) rfl (tm (fun x hx=>by rw[hnl];exact⟨(N1.o x (kc hx)).2,(N1.o x (kc hx)).1⟩) (by omega))).trans (by rw[eO1])) <| cX (d:= .lst ((os2.map (dO (xp ai ae gs1 aF pairs))).map dq)) ((av (ds:=[.lst (os2.map dq), .lst (oths.map nI)]) rfl (tm (fun x hx=>by rw[yg];exact⟨(N2.o x hx).2,(N2.o x hx).1⟩) h23)).trans (by rw[eO2])) ⟨_,_,rfl,rfl,by rw[List.length_map,List.length_map,List.length_map,List.length_map];omega,_,rfl,?_⟩
 simp only[List.set];rw[show((eR pairs aF).map (dO (pT ai ae pairs))).map dq++(os2.map (dO (xp ai ae gs1 aF pairs))).map dq=(jO ai ae gs1 aF os2 pairs).map dq by unfold jO;rw [List.map_append]]
 have jgl:(jG ai ae gs1 gs2 aF pairs).length=gs1.length+gs2.length:=by unfold jG gJ;rw [List.length_append,List.length_map,List.length_map]
 rw[show S++[SO.lst ((jI ai ae pairs).map MT.inD)]++[SO.lst ((jG ai ae gs1 gs2 aF pairs).map c9)]++[SO.lst ((jO ai ae gs1 aF os2 pairs).map dq)]=S++[SO.lst ((jI ai ae pairs).map MT.inD),SO.lst ((jG ai ae gs1 gs2 aF pairs).map c9),SO.lst ((jO ai ae gs1 aF os2 pairs).map dq)] by rw[List.append_assoc,List.append_assoc];rfl]
 rw[List.length_append,List.length_append,List.length_append,List.length_singleton,List.length_singleton];generalize hI:(jI ai ae pairs).map MT.inD=lI;generalize hG:(jG ai ae gs1 gs2 aF pairs).map c9=lG;generalize hO:(jO ai ae gs1 aF os2 pairs).map dq=lO;rw[hI,hG,hO] at h;have r0:EK (S++[SO.lst lI,SO.lst lG,SO.lst lO]) (.loc S.length)=some (.lst lI):=xb (by rw[List.getElem?_append_right (Nat.le_refl _),Nat.sub_self];rfl)
 have r2:EK (S++[SO.lst lI,SO.lst lG,SO.lst lO]) (.loc (S.length+1+1))=some (.lst lO):=xb (by rw[List.getElem?_append_right (by omega),show S.length+1+1 - S.length=2 by omega];rfl)
 refine aZ <| rH <| xo <| b7 <| w_var (v:= .loc S.length) rfl <| jP ⟨[.lst lI],by unfold vJ;rw [r0];rfl,?_⟩
 have hn1:W3 (cA ([D.lst lI].map .d) []) fun v _=>∃d,v= .d d/\u9 d=true:=by
  rw[<-hI,HC];exact uh (by rw[List.map_map];exact J.ni) (by rw[List.length_map];have:=J.ri;omega) (fun o ho=>by cases ho) ⟨_,rfl,rfl⟩
 refine hn1.mono fun v S2 ⟨d,e1,e2⟩=>⟨d,e1,e2,_,rfl,?_⟩
 refine aZ <| rH <| xo <| b7 <| w_var (v:= .loc (S.length+1+1)) rfl <| jP ⟨[.lst lO],by unfold vJ;rw [r2];rfl,?_⟩
 have Mn:W3 (cA ([D.lst lO].map .d) []) fun v _=>∃d,v= .d d/\u9 d=true:=by
  rw[<-hO,Dk];exact uh (by rw[List.map_map];exact J.no) (by rw[List.length_map];have:=J.ro;omega) (fun o ho=>by cases ho) ⟨_,rfl,rfl⟩
 refine Mn.mono fun v S2 ⟨d,e1,e2⟩=>⟨d,e1,e2,_,rfl,?_⟩
 have v0:res (S++[SO.lst lI,SO.lst lG,SO.lst lO]) (.loc S.length)=some (.lst lI):=mB (by rw[List.getElem?_append_right (Nat.le_refl _),Nat.sub_self];rfl)
 have v1:res (S++[SO.lst lI,SO.lst lG,SO.lst lO]) (.loc (S.length+1))=some (.lst lG):=mB (by rw[List.getElem?_append_right (by omega),show S.length+1 - S.length=1 by omega];rfl)
 have v2:res (S++[SO.lst lI,SO.lst lG,SO.lst lO]) (.loc (S.length+1+1))=some (.lst lO):=mB (by rw[List.getElem?_append_right (by omega),show S.length+1+1 - S.length=2 by omega];rfl)
 refine aZ <| rH <| Qv (d:= .cu) (av (ds:=[au (jI ai ae pairs) (jG ai ae gs1 gs2 aF pairs) (jO ai ae gs1 aF os2 pairs)]) (ao (bb (ds:=[.lst ((jI ai ae pairs).map MT.inD), .lst ((jG ai ae gs1 gs2 aF pairs).map c9), .lst ((jO ai ae gs1 aF os2 pairs).map dq)]) (by rw[hI,hG,hO];exact ao (qD rfl v0) (ao (qD rfl v1) (ao (qD rfl v2) rfl))) (by simp;omega)) rfl) (Dl J.ri (by rw[jgl];exact J.rg) J.ro)) rfl ⟨_,rfl,?_⟩
 exact q8 <| IA <| b7 <| w_var (v:= .loc S.length) rfl <| b7 <| w_var (v:= .loc (S.length+1)) rfl <| b7 <| w_var (v:= .loc (S.length+1+1)) rfl <| jP ⟨by simp;omega,_,rfl,h⟩
theorem vp(N1:dm ai gs1 aF)(N2:dm ae gs2 os2)(J:Kl ai ae gs1 gs2 aF os2 pairs)(hS:Hn S){Q:V3->bc->Prop}(h:Q (.d (au (jI ai ae pairs) (jG ai ae gs1 gs2 aF pairs) (jO ai ae gs1 aF os2 pairs))) S) :
 W3 (kr [.d (au ai gs1 aF), .d (au ae gs2 os2), .d (.lst (pairs.map d5))] S) Q:=by
 unfold kr;refine oi hS ?_;have:=oa (S:=S) N1 N2 J hS (Q:=fun v S1=>gI S.length v=true/\(∃T,S1=S++T)/\∃d,res S1 v=some d/\Q (.d d) S)
 unfold f7 at this;refine this ⟨?_,⟨_,rfl⟩,_,?_,h⟩
 .unfold gI jd gI jd gI jd gI jd;rw[decide_eq_true (by omega),decide_eq_true (by omega),decide_eq_true (by omega)];rfl
 .unfold au;generalize (jI ai ae pairs).map MT.inD=lI;generalize (jG ai ae gs1 gs2 aF pairs).map c9=lG;generalize (jO ai ae gs1 aF os2 pairs).map dq=lO;have v0:res (S++[SO.lst lI,SO.lst lG,SO.lst lO]) (.loc S.length)=some (.lst lI):=mB (by rw[List.getElem?_append_right (Nat.le_refl _),Nat.sub_self];rfl)
  have v1:res (S++[SO.lst lI,SO.lst lG,SO.lst lO]) (.loc (S.length+1))=some (.lst lG):=mB (by rw[List.getElem?_append_right (by omega),show S.length+1 - S.length=1 by omega];rfl)
  have v2:res (S++[SO.lst lI,SO.lst lG,SO.lst lO]) (.loc (S.length+2))=some (.lst lO):=mB (by rw[List.getElem?_append_right (by omega),show S.length+2 - S.length=2 by omega];rfl)
  unfold res lJ lJ lJ lJ;rw[v0,v1,v2];rfl
end
end K34
end
section
set_option maxHeartbeats 4000000
namespace K34
open PySem PySem.Spec PyProof.Rows L2 L3 MT JT
def stir(cell k:Int):Int:=if 10 ^ 18<=cell then(cell - 10 ^ 18) / 2 ^ (28*k).toNat % 2 ^ 28
 else((cell+1013*k+1)*16807 % 2147483647)*((cell+1013*k+1)*16807 % 2147483647) % 2147483629*39373 % 2147483587 / 8
theorem Dv(cell k:Int)(hk:0<=k):aV [.int cell, .int k]= .ok (.int (stir cell k)):=by
 have p1:∀δ,e2 yE (eC (.int 10)) (eC (.int 18)) δ= .ok (.int (10 ^ 18)):=fun δ=>rfl
 have p2:∀δ,e2 yE (eC (.int 2)) (eC (.int 28)) δ= .ok (.int (2 ^ 28)):=fun δ=>rfl
 have ge:∀a b:Int,Iv (.int a) (.int b)= .ok (.bl (decide (a>=b))):=fun a b=>rfl
 have mulc:∀(a b:Int),(-(2 ^ 64) < b/\b < 2 ^ 64)->jm (.int a) (.int b)= .ok (.int (a*b)):=fun a b h=>by
  show R.aR (decide _) (R.ok (D.int (a*b)))=_;exact bS _ (.inr h)
 have mulc':∀(a b:Int),(-(2 ^ 64) < a/\a < 2 ^ 64)->jm (.int a) (.int b)= .ok (.int (a*b)):=fun a b h=>by
  show R.aR (decide _) (R.ok (D.int (a*b)))=_;exact bS _ (.inl h)
 unfold aV o8 stir;by_cases h:(10:Int) ^ 18<=cell
 .rw [if_pos h];refine fO (NT.j9 (om (cE (a:= .int cell) (b:= .int (10 ^ 18)) rfl (p1 _) ((ge _ _).trans (by rw[decide_eq_true h]))) (c_ (aw (a:= .int ((cell - 10 ^ 18) / 2 ^ (28*k).toNat)) (b:= .int (2 ^ 28)) (aw (a:= .int (cell - 10 ^ 18)) (b:= .int (28*k)) (aw (a:= .int cell) (b:= .int (10 ^ 18)) rfl (p1 _) rfl) (aw (a:= .int 28) (b:= .int k) rfl rfl (mulc' _ _ ⟨by omega,by omega⟩)) ?_) (p2 _) (pO (by omega))))))
  show R.aR (decide ((0:Int)<=28*k)) (R.ok (D.int ((cell - 10 ^ 18) / 2 ^ (28*k).toNat)))=_;exact bS _ (by omega)
 .rw [if_neg h];refine fO (br (jU (cE (a:= .int cell) (b:= .int (10 ^ 18)) rfl (p1 _) ((ge _ _).trans (by rw[decide_eq_false h]))) rfl) (br (ck (d:= .int ((cell+1013*k+1)*16807 % 2147483647)) (aw (a:= .int ((cell+1013*k+1)*16807)) (b:= .int 2147483647) (aw (a:= .int (cell+1013*k+1)) (b:= .int 16807) (aw (a:= .int (cell+1013*k)) (b:= .int 1) (aw (a:= .int cell) (b:= .int (1013*k)) rfl (aw (a:= .int 1013) (b:= .int k) rfl rfl (mulc' _ _ ⟨by omega,by omega⟩)) rfl) rfl rfl) rfl (mulc _ _ ⟨by omega,by omega⟩)) rfl (pO (by omega))) (by simp [cn,iL])) ?_))
  have b1:0<=(cell+1013*k+1)*16807 % 2147483647:=Int.emod_nonneg _ (by omega)
  have b2':(cell+1013*k+1)*16807 % 2147483647 < 2147483647:=Int.emod_lt_of_pos _ (by omega)
  generalize (cell+1013*k+1)*16807 % 2147483647=x at b1 b2';refine br (ck (d:= .int (x*x % 2147483629)) (aw (a:= .int (x*x)) (b:= .int 2147483629) (aw (a:= .int x) (b:= .int x) rfl rfl (mulc _ _ ⟨by omega,by omega⟩)) rfl (pO (by omega))) (by simp [cn,iL])) (c_ ?_)
  exact aw (a:= .int (x*x % 2147483629*39373 % 2147483587)) (b:= .int 8) (aw (a:= .int (x*x % 2147483629*39373)) (b:= .int 2147483587) (aw (a:= .int (x*x % 2147483629)) (b:= .int 39373) rfl rfl (mulc _ _ ⟨by omega,by omega⟩)) rfl (pO (by omega))) rfl (xZ (by omega) (by omega))
theorem C3(cell k:Int):0<=stir cell k:=by
 unfold stir;split <;> omega
def stN(cell:Int)(k:Nat):Nat:=(stir cell k).toNat
theorem iC(cell:Int)(k:Nat):aV [.int cell,nI k]= .ok (nI (stN cell k)):=by
 show aV [.int cell, .int k]=_;rw[Dv cell k (by omega)]
 unfold nI stN;rw[Int.toNat_of_nonneg (C3 _ _)]
end K34
end
section
set_option maxHeartbeats 1000000
namespace K34
open PySem PySem.Spec PyProof.Rows L2 L3 MT JT
structure Mf (L:Str) (a:Nat->Str):Prop where
 ix:∀k,k < 3->bJ (.str L) (nI k)= .ok (.str (a k))
 sl:∀f:Nat,(f=0\/f=4)->∃C,HZ (.str L) (some (f:Int)) none= .ok (.str C)/\∀k,k < 3->bJ (.str C) (nI k)= .ok (.str (a (f+k)))
structure Any (a:Nat->Str) (ins:Tj) (gs:List Gt) (os:Tn):Prop where
 N:dm ins gs os
 i1:1<=ins.length
 i3:ins.length<=3
 g:gs.length<=7
 o1:1<=os.length
 o3:os.length<=3
 iw:∀x∈ins,1<=x.2/\x.2<=3
 nI:ins.map (·.1)=(List.range ins.length).map a
 nO:∃f,(f=0\/f=4)/\os.map (·.1)=(List.range os.length).map fun k=>a (f+k)
def B6:D:= .lst [.int 1, .int 2, .int 3]
theorem Et(n:Nat):bJ B6 (nI (n % 3))= .ok (nI (1+n % 3)):=by
 have h:n % 3 < 3:=Nat.mod_lt _ (by omega)
 match n % 3,h with
 | 0,_=>rfl
 | 1,_=>rfl
 | 2,_=>rfl
theorem sumZ:∀ns:List Nat,(ns.map fun(n:Nat)=>(n:Int)).sum=(ns.sum:Int)
 | []=>rfl
 | n ::ns=>by
   show(n:Int)+(ns.map fun(n:Nat)=>(n:Int)).sum=((n+ns.sum:Nat):Int)
   rw[sumZ ns];omega
theorem FJ(T:List Nat):T.map nI=(T.map fun(n:Nat)=>(n:Int)).map D.int:=(List.map_map (g:=D.int) (f:=fun(n:Nat)=>(n:Int)) (l:=T)).symm
theorem Ar(ns:List Nat):qM [.lst (ns.map nI)]= .ok (nI ns.sum):=by
 rw[FJ];show(match ints? ((ns.map fun(n:Nat)=>(n:Int)).map D.int) with | some ns=>R.ok (D.int ns.sum) | none=> .no)=_
 rw[L2.ints_map];show R.ok (D.int (ns.map fun(n:Nat)=>(n:Int)).sum)=_
 rw[sumZ];rfl
abbrev aE(c:Int)(f:Nat)(L:Str)(x4 x5 x6 x7 x8 x9 x10 x11 pW B_ x14:Option V3):DE:=[some (.d (.int c)),some (.d (nI f)),some (.d (.str L)),some (.d B6),x4,x5,x6,x7,x8,x9,x10,x11,pW,B_,x14]
def A6(n:Nat)(G:List Gt):Prop:=∀(i:Nat) (x:Gt),G[i]? =some x->Cs (n+i) x
theorem A6.push{P:Nat}{G:List Gt}{g:Gt}(h:A6 P G)(hg:Cs (P+G.length) g):A6 P (G++[g]):=by
 intro i x hx;by_cases hi:i < G.length
 .rw [List.getElem?_append_left hi] at hx;exact h i x hx
 .rw [List.getElem?_append_right (by omega)] at hx
  have h0:i - G.length=0:=by
   cases q:i - G.length with
   | zero=>rfl
   | succ n=>rw [q] at hx;simp at hx
  rw[h0] at hx;cases hx;rw[show i=G.length by omega];exact hg
section
variable {S:bc} {c:Int} {f:Nat} {L:Str} {a:Nat->Str} {x4 x5 x9 x10 x11 pW B_ x14:Option V3}
theorem vY{n i:Nat}{G:List Gt}(hn:0 < n)(hi:i < 10)(hG:A6 n G)(hl:G.length=i) :
 W3 (fP (aE c f L x4 x5 (some (.d (nI n))) (some (.loc S.length)) (some (.d (nI i))) x9 x10 x11 none none none) (S++[.lst (G.map c9)])) fun o S2=>∃g y4 y9 wq EW,o= .nx (aE c f L y4 x5 (some (.d (nI n))) (some (.loc S.length)) (some (.d (nI i))) y9 wq EW none none none)/\S2=S++[SO.lst ((G++[g]).map c9)]/\Cs (n+G.length) g:=by
 have hz:sizeLine=16777216:=sizeLine_eq;unfold fP;obtain⟨r,hr⟩:∃r,stN c (f+10+5*i)=r:=⟨_,rfl⟩;refine aZ <| bG (by simp) <| cX (d:=nI r) ((av (ds:=[.int c,nI (f+10+5*i)]) (ao rfl (ao (aw (a:=nI (f+10)) (b:=nI (5*i)) (aw (a:=nI f) (b:=nI 10) rfl rfl (cT _ _)) (aw (a:=nI 5) (b:=nI i) rfl rfl (qU (.inr (by omega)))) (cT _ _)) rfl)) (iC c _)).trans (by rw[hr])) ⟨_,rfl,?_⟩
 simp only[List.set];have hkd:=Ga r;have hal:=qP (kdN r);refine aZ <| bG (by simp) <| cX (d:= .str (kS (kdN r))) (Jf rfl) ⟨_,rfl,?_⟩
 simp only[List.set];generalize kdN r=kd at hkd hal;refine aZ <| bG (by simp) <| cX (d:=nI (ar kd)) (Jw hkd rfl) ⟨_,rfl,?_⟩
 simp only[List.set]
 let pk:Nat->Nat:=fun j=>stN c (f+11+5*i+j) % (n+i)
 refine aZ <| bG (by simp) <| fY (fun j ds S2=>S2=S++[.lst (G.map c9)]/\ds=((List.range j).map pk).map nI) <| hV (jk (n:=ar kd) rfl (by omega)) ⟨by rw[List.length_map,List.length_map,List.length_range];omega,⟨rfl,rfl⟩,?_,?_⟩
 .rintro j v ds S2 hv ⟨rfl,rfl⟩;obtain⟨j',EU,rfl⟩:=NT.dn hv;obtain⟨hjl,ej⟩:=List.getElem?_eq_some_iff.mp EU;rw[List.getElem_range] at ej;subst ej;refine⟨[some (.d (nI j)),some (.d (.int c)),some (.d (nI f)),some (.d (nI n)),some (.d (nI i))],rfl,pj ?_⟩;rw[if_pos rfl];refine cX (d:=nI (pk j)) (aw (a:=nI (stN c (f+11+5*i+j))) (b:=nI (n+i)) (av (ds:=[.int c,nI (f+11+5*i+j)]) (ao rfl (ao (aw (a:=nI (f+11+5*i)) (b:=nI j) (aw (a:=nI (f+11)) (b:=nI (5*i)) (aw (a:=nI f) (b:=nI 11) rfl rfl (cT _ _)) (aw (a:=nI 5) (b:=nI i) rfl rfl (qU (.inr (by omega)))) (cT _ _)) rfl (cT _ _)) rfl)) (iC c _)) (aw (a:=nI n) (b:=nI i) rfl rfl (cT _ _)) (gh (by omega))) ⟨_,rfl,rfl,?_⟩
  rw[List.range_succ,List.map_append,List.map_append];rfl
 rintro ds S2 ⟨e1,rfl⟩;subst S2;rw[List.length_map,List.length_map,List.length_range];refine⟨_,rfl,?_⟩;simp only[List.set];refine nh (k:=S.length) rfl ⟨_,cC _ _⟩ (cX (d:=c9 (kd,(List.range (ar kd)).map pk,decide (r / 5 % 3=0))) (bb (ao rfl (ao (av (ds:=[.lst (((List.range (ar kd)).map pk).map nI)]) rfl rfl) (ao (aw (a:=nI (r / 5 % 3)) (b:=nI 0) (aw (a:=nI (r / 5)) (b:=nI 3) (aw (a:=nI r) (b:=nI 5) rfl rfl (w9 (by omega) (by omega))) rfl (gh (by omega))) rfl (BL _ _)) rfl))) (by simp;omega)) ⟨_,_,rfl,cC _ _,by rw[List.length_map];omega,(kd,(List.range (ar kd)).map pk,decide (r / 5 % 3=0)),_,_,_,_,rfl,?_,hkd,?_,fun w hw=>?_⟩)
 .rw [eB,List.map_append];rfl
 .show((List.range (ar kd)).map pk).length=_;rw[List.length_map,List.length_range]
 .obtain⟨j,_,rfl⟩:=List.mem_map.mp (show w∈(List.range (ar kd)).map pk from hw)
  rw[hl];exact Nat.mod_lt _ (by omega)
theorem AS{n i fo:Nat}{G:List Gt}{os:Tn}(hn:0 < n)(hi:i < 3)(hG:G.length < 100)(hC:bJ (.str C) (nI i)= .ok (.str (a (fo+i))))(yg:os.length < 100) :
 W3 (fR (aE c f L x4 x5 (some (.d (nI n))) (some (.d (.lst (G.map c9)))) (some (.d (nI i))) x9 x10 x11 (some (.loc S.length)) (some (.d (.str C))) x14) (S++[.lst (os.map dq)])) fun o S2=>∃ws EW Kw,o= .nx (aE c f L x4 x5 (some (.d (nI n))) (some (.d (.lst (G.map c9)))) (some (.d (nI i))) x9 x10 EW (some (.loc S.length)) (some (.d (.str C))) Kw)/\S2=S++[SO.lst ((os++[(a (fo+i),ws)]).map dq)]/\ws.length<=3/\∀w∈ws,w < n+G.length:=by
 have hz:sizeLine=16777216:=sizeLine_eq;unfold fR;obtain⟨r,hr⟩:∃r,stN c (f+60+5*i)=r:=⟨_,rfl⟩;have hr3:r % 3 < 3:=Nat.mod_lt _ (by omega)
 refine aZ <| bG (by simp) <| cX (d:=nI (1+r % 3)) (aw (a:=B6) (b:=nI (r % 3)) rfl (aw (a:=nI r) (b:=nI 3) ((av (ds:=[.int c,nI (f+60+5*i)]) (ao rfl (ao (aw (a:=nI (f+60)) (b:=nI (5*i)) (aw (a:=nI f) (b:=nI 60) rfl rfl (cT _ _)) (aw (a:=nI 5) (b:=nI i) rfl rfl (qU (.inr (by omega)))) (cT _ _)) rfl)) (iC c _)).trans (by rw[hr])) (av (ds:=[B6]) rfl rfl) (gh (by omega))) (Et r)) ⟨_,rfl,?_⟩
 simp only[List.set];obtain⟨wd,hwd⟩:∃wd,1+r % 3=wd:=⟨_,rfl⟩;rw[hwd]
 let pk:Nat->Nat:=fun j=>stN c (f+61+5*i+j) % (n+G.length)
 refine aZ <| bG (by simp) <| fY (fun j ds S2=>S2=S++[.lst (os.map dq)]/\ds=((List.range j).map pk).map nI) <| hV (jk (n:=wd) rfl (by omega)) ⟨by rw[List.length_map,List.length_map,List.length_range];omega,⟨rfl,rfl⟩,?_,?_⟩
 .rintro j v ds S2 hv ⟨rfl,rfl⟩;obtain⟨j',EU,rfl⟩:=NT.dn hv;obtain⟨hjl,ej⟩:=List.getElem?_eq_some_iff.mp EU;rw[List.getElem_range] at ej;subst ej;refine⟨[some (.d (nI j)),some (.d (.int c)),some (.d (nI f)),some (.d (nI n)),some (.d (.lst (G.map c9))),some (.d (nI i))],rfl,pj ?_⟩;rw[if_pos rfl];refine cX (d:=nI (pk j)) (aw (a:=nI (stN c (f+61+5*i+j))) (b:=nI (n+G.length)) (av (ds:=[.int c,nI (f+61+5*i+j)]) (ao rfl (ao (aw (a:=nI (f+61+5*i)) (b:=nI j) (aw (a:=nI (f+61)) (b:=nI (5*i)) (aw (a:=nI f) (b:=nI 61) rfl rfl (cT _ _)) (aw (a:=nI 5) (b:=nI i) rfl rfl (qU (.inr (by omega)))) (cT _ _)) rfl (cT _ _)) rfl)) (iC c _)) (aw (a:=nI n) (b:=nI G.length) rfl (av (ds:=[.lst (G.map c9)]) rfl (by rw[dv,List.length_map])) (cT _ _)) (gh (by omega))) ⟨_,rfl,rfl,?_⟩
  rw[List.range_succ,List.map_append,List.map_append];rfl
 rintro ds S2 ⟨e1,rfl⟩;subst S2;rw[List.length_map,List.length_map,List.length_range];refine⟨_,rfl,?_⟩;simp only[List.set];refine nh (k:=S.length) rfl ⟨_,cC _ _⟩ (cX (d:=dq (a (fo+i),(List.range wd).map pk)) (bb (ao (aw (a:= .str C) (b:=nI i) rfl rfl hC) (ao (av (ds:=[.lst (((List.range wd).map pk).map nI)]) rfl rfl) rfl)) (by simp;omega)) ⟨_,_,rfl,cC _ _,by rw[List.length_map];omega,(List.range wd).map pk,_,_,rfl,?_,?_,fun w hw=>?_⟩)
 .rw [eB,List.map_append];rfl
 .rw [List.length_map,List.length_range];omega
 .obtain⟨j,_,rfl⟩:=List.mem_map.mp hw;exact Nat.mod_lt _ (by omega)
theorem zF(hL:Mf L a)(hS:Flat S){Q:V3->bc->Prop}(h:∀ins gs os,Any a ins gs os->Q (.d (au ins gs os)) S) :
 W3 (eK [.d (.int c), .d (nI f), .d (.str L), .d B6] S) Q:=by
 have hz:sizeLine=16777216:=sizeLine_eq;unfold eK;refine oi hS.clo (HU rfl ?_);simp only[eE,fE,List.map,List.length,List.replicate,List.cons_append,List.nil_append,Nat.reduceAdd,Nat.reduceSub];unfold g_;obtain⟨m,hm⟩:∃m,1+stN c f % 3=m:=⟨_,rfl⟩;have hm3:1<=m/\m<=3:=by omega
 refine aZ <| bG (by simp) <| cX (d:=nI m) ((aw (a:=nI 1) (b:=nI (stN c f % 3)) rfl (aw (a:=nI (stN c f)) (b:=nI 3) (av (ds:=[.int c,nI f]) rfl (iC c f)) rfl (gh (by omega))) (cT _ _)).trans (by rw[hm])) ⟨_,rfl,?_⟩
 simp only[List.set]
 let ip:Nat->Str × Nat:=fun k=>(a k,1+stN c (f+1+k) % 3)
 let ins:Tj:=(List.range m).map ip
 have hil:ins.length=m:=by show((List.range m).map ip).length=m;rw [List.length_map,List.length_range]
 have hiw:∀x∈ins,1<=x.2/\x.2<=3:=fun x hx=>by
  obtain⟨k,_,rfl⟩:=List.mem_map.mp hx;show 1<=1+stN c (f+1+k) % 3/\1+stN c (f+1+k) % 3<=3;omega
 refine aZ <| bG (by simp) <| fY (fun j ds S2=>S2=S/\ds=((List.range j).map ip).map MT.inD) <| hV (jk (n:=m) rfl (by omega)) ⟨by rw[List.length_map,List.length_map,List.length_range];omega,⟨rfl,rfl⟩,?_,?_⟩
 .rintro j v ds S2 hv ⟨rfl,rfl⟩;obtain⟨j',EU,rfl⟩:=NT.dn hv;obtain⟨hjl,ej⟩:=List.getElem?_eq_some_iff.mp EU;rw[List.getElem_range] at ej;subst ej;rw[List.length_range] at hjl;refine⟨[some (.d (nI j)),some (.d (.int c)),some (.d (nI f)),some (.d (.str L)),some (.d B6)],rfl,pj ?_⟩;rw[if_pos rfl];refine cX (d:=MT.inD (ip j)) (bb (ao (aw (a:= .str L) (b:=nI j) rfl rfl (hL.ix j (by omega))) (ao (aw (a:=B6) (b:=nI (stN c (f+1+j) % 3)) rfl (aw (a:=nI (stN c (f+1+j))) (b:=nI 3) (av (ds:=[.int c,nI (f+1+j)]) (ao rfl (ao (aw (a:=nI (f+1)) (b:=nI j) (aw (a:=nI f) (b:=nI 1) rfl rfl (cT _ _)) rfl (cT _ _)) rfl)) (iC c _)) (av (ds:=[B6]) rfl rfl) (gh (by omega))) (Et _)) rfl)) (by simp;omega)) ⟨_,rfl,rfl,?_⟩
  rw[List.range_succ,List.map_append,List.map_append];rfl
 rintro ds S2 ⟨e1,rfl⟩;subst S2;rw[List.length_map,List.length_map,List.length_range];refine⟨_,rfl,?_⟩;simp only[List.set];have hnI:ins.map (·.1)=(List.range ins.length).map a:=by
  rw[hil];show((List.range m).map ip).map _=_;rw[List.map_map];rfl
 have eI:((List.range m).map ip).map MT.inD=ins.map MT.inD:=rfl;rw[eI]
 clear eI
 generalize ins=ins at hil hiw hnI;have hws:bW ins<=9/\1<=bW ins:=by
  have:∀l:Tj,(∀x∈l,1<=x.2/\x.2<=3)->bW l<=3*l.length/\l.length<=bW l:=by
   intro l
   induction l with
   | nil=>exact fun _=>⟨Nat.le_refl _,Nat.le_refl _⟩
   | cons x l ih=>
     intro hl;have h1:=ih fun y hy=>hl y (List.mem_cons_of_mem _ hy)
     have h2:=hl x List.mem_cons_self;unfold bW at h1 ⊢;rw[List.map_cons,List.sum_cons,List.length_cons];omega
  have:=this ins hiw;omega
 refine aZ <| bG (by simp) <| cX (d:=nI (bW ins)) (av (ds:=[.lst ((ins.map (·.2)).map nI)]) (ao (bE (bK (ds:=ins.map MT.inD) (gp rfl) (by rw[List.length_map];omega) (by
  rw[show(ins.map (·.2)).map nI=ins.map fun x=>nI x.2 from List.map_map]
  exact NT.bw MT.inD _ fun x hx=>⟨[.val (.str x.1), .val (nI x.2)],rfl,rfl,rfl⟩))) rfl) (Ar _)) ⟨_,rfl,?_⟩
 simp only[List.set];refine aZ <| bG (by simp) <| ug (ds:=([]:List Gt).map c9) rfl ⟨_,rfl,?_⟩
 simp only[List.set];obtain⟨q,hq⟩:∃q,stN c (f+5) % 8=q:=⟨_,rfl⟩;have hq8:q < 8:=by omega
 refine aZ <| ik <| hV (jk (n:=q) ((aw (a:=nI (stN c (f+5))) (b:=nI 8) (av (ds:=[.int c,nI (f+5)]) (ao rfl (ao (aw (a:=nI f) (b:=nI 5) rfl rfl (cT _ _)) rfl)) (iC c _)) rfl (gh (by omega))).trans (by rw[hq])) (by omega)) ?_
 refine(cy (fun i δ S2=>∃(G:List Gt) (x4 x8 x9 x10 x11:Option V3),G.length=i/\A6 (bW ins) G/\δ=aE c f L x4 (some (.d (.lst (ins.map MT.inD)))) (some (.d (nI (bW ins)))) (some (.loc S.length)) x8 x9 x10 x11 none none none/\S2=S++[SO.lst (G.map c9)])
  ⟨[],_,_,_,_,_,rfl,fun i x hx=>(by cases hx),rfl,rfl⟩ ?_).mono fun o S2 ⟨e8,iG,G,x4,x8,x9,x10,x11,hGl,hG,hδ,nS⟩=>⟨e8,iG,?_⟩
 .rintro i v δ S2 hv ⟨G,x4,x8,x9,x10,x11,hGl,hG,rfl,rfl⟩;obtain⟨k,hk,rfl⟩:=NT.dn hv;obtain⟨hkl,ek⟩:=List.getElem?_eq_some_iff.mp hk;rw[List.getElem_range] at ek;subst ek;rw[List.length_range] at hkl;refine⟨_,rfl,(vY (x4:=x4) (x9:=x9) (x10:=x10) (x11:=x11) (by omega) (by omega) hG hGl).mono fun o S3 ⟨g,y4,y9,wq,EW,e1,e2,e3⟩=>⟨_,e1,G++[g],y4,some (.d (nI i)),y9,wq,EW,by rw[List.length_append,hGl];rfl,hG.push e3,rfl,e2⟩⟩
 rw[List.length_map,List.length_map,List.length_range] at hGl;subst hδ nS;refine uc (i:=7) rfl (cC _ _) ?_;rw[eB];simp only[List.set];generalize hU:S++[SO.ft]=U;refine aZ <| bG (by simp) <| ug (ds:=([]:Tn).map dq) rfl ⟨_,rfl,?_⟩
 simp only[List.set];obtain⟨fo,hfo⟩:∃fo,4 - 4*(if decide (stN c (f+7) % 3=0) then 1 else 0)=fo:=⟨_,rfl⟩
 have hfo2:fo=0\/fo=4:=by rw[<-hfo];cases decide (stN c (f+7) % 3=0) <;> simp
 obtain⟨C,Rk,RI⟩:=hL.sl fo hfo2;have hsl:(e2 kI (eC (.int 4)) (e2 jm (eC (.int 4)) (aG tF (ag (e2 t7 (e2 eu (aG aV (ag (af 0) (ag (e2 bU (af 1) (eC (.int 7))) aD))) (eC (.int 3))) (eC (.int 0))) aD)))) (down (aE c f L x4 (some (.d (.lst (ins.map MT.inD)))) (some (.d (nI (bW ins)))) (some (.d (.lst (G.map c9)))) x8 x9 x10 x11 (some (.loc U.length)) none none))= .ok (.int (fo:Int)):=by
  refine aw (a:= .int 4) (b:=nI (4*(if decide (stN c (f+7) % 3=0) then 1 else 0))) rfl (aw (a:=nI 4) (b:=nI (if decide (stN c (f+7) % 3=0) then 1 else 0)) rfl (av (ds:=[.bl (decide (stN c (f+7) % 3=0))]) (ao (aw (a:=nI (stN c (f+7) % 3)) (b:=nI 0) (aw (a:=nI (stN c (f+7))) (b:=nI 3) (av (ds:=[.int c,nI (f+7)]) (ao rfl (ao (aw (a:=nI f) (b:=nI 7) rfl rfl (cT _ _)) rfl)) (iC c _)) rfl (gh (by omega))) rfl (BL _ _)) rfl) (by cases decide (stN c (f+7) % 3=0) <;> rfl)) (qU (.inr (by omega)))) ?_
  rw[<-hfo];cases decide (stN c (f+7) % 3=0) <;> rfl
 refine aZ <| bG (by simp) <| cX (d:= .str C) (zT (d:= .str L) (lo:=some (fo:Int)) (hi:=none) rfl (tP hsl) rfl Rk) ⟨_,rfl,?_⟩
 simp only[List.set];obtain⟨q2,RA⟩:∃q2,1+stN c (f+6) % 3=q2:=⟨_,rfl⟩;have hq23:1<=q2/\q2<=3:=by omega
 refine aZ <| ik <| hV (jk (n:=q2) ((aw (a:=nI 1) (b:=nI (stN c (f+6) % 3)) rfl (aw (a:=nI (stN c (f+6))) (b:=nI 3) (av (ds:=[.int c,nI (f+6)]) (ao rfl (ao (aw (a:=nI f) (b:=nI 6) rfl rfl (cT _ _)) rfl)) (iC c _)) rfl (gh (by omega))) (cT _ _)).trans (by rw[RA])) (by omega)) ?_
 refine(cy (fun i δ S2=>∃(os:Tn) (x8 x11 x14:Option V3),os.map (·.1)=(List.range i).map (fun k=>a (fo+k))/\(∀x∈os,x.2.length<=3/\∀w∈x.2,w < bW ins+G.length)/\δ=aE c f L x4 (some (.d (.lst (ins.map MT.inD)))) (some (.d (nI (bW ins)))) (some (.d (.lst (G.map c9)))) x8 x9 x10 x11 (some (.loc U.length)) (some (.d (.str C))) x14/\S2=U++[SO.lst (os.map dq)])
  ⟨[],_,_,_,rfl,by simp,rfl,rfl⟩ ?_).mono fun o S2 ⟨e8,iG,os,y8,EW,Kw,hon,hos,hδ,nS⟩=>⟨e8,iG,?_⟩
 .rintro i v δ S2 hv ⟨os,y8,EW,Kw,hon,hos,rfl,rfl⟩;obtain⟨k,hk,rfl⟩:=NT.dn hv;obtain⟨hkl,ek⟩:=List.getElem?_eq_some_iff.mp hk;rw[List.getElem_range] at ek;subst ek;rw[List.length_range] at hkl;have yg:os.length=i:=by have:=congrArg List.length hon;simpa using this
  refine⟨_,rfl,(AS (a:=a) (fo:=fo) (x4:=x4) (x9:=x9) (x10:=x10) (x11:=EW) (x14:=Kw) (by omega) (by omega) (by omega) (RI i (by omega)) (by omega)).mono fun o S3 ⟨ws,RB,Rm,e1,e2,e3,e4⟩=>⟨_,e1,os++[(a (fo+i),ws)],some (.d (nI i)),RB,Rm,?_,fun x hx=>?_,rfl,e2⟩⟩
  .rw [List.map_append,hon,List.range_succ,List.map_append];rfl
  .rcases List.mem_append.mp hx with z | z
   .exact hos x z
   .rw [List.mem_singleton.mp z];exact⟨e3,e4⟩
 rw[List.length_map,List.length_map,List.length_range] at hon;subst hδ nS;have yg:os.length=q2:=by have:=congrArg List.length hon;simpa using this
 refine uc (i:=12) rfl (cC _ _) ?_;rw[eB];simp only[List.set];exact q8 <| cX (d:=au ins G os) (bb rfl (by simp;omega)) ⟨_,rfl,rfl,⟨[SO.ft,SO.ft],by rw[<-hU,List.append_assoc];rfl⟩,_,rfl,h ins G os ⟨⟨by omega,fun x hx=>by have:=hiw x hx;omega,by omega,fun i x hx=>hG i x hx,by omega,fun x hx=>⟨by have:=(hos x hx).1;omega,(hos x hx).2⟩⟩,by omega,by omega,by omega,by omega,by omega,hiw,hnI,fo,hfo2,by rw[yg];exact hon⟩⟩
end
end K34
end
section
namespace K34
open PySem PySem.Spec PyProof.Rows L2 L3 MT JT
theorem CH(l:List Nat):n0 (.lst (l.map nI)) (.lst [])= .ok (.bl (!l.isEmpty)):=by
 have f1:dt 1 (.lst (l.map nI)):=dt.lst fun d hd=>by obtain⟨b,_,rfl⟩:=List.mem_map.mp hd;exact dt.int _
 have f2:dt 1 (.lst []):=dt.lst fun d hd=>by cases hd
 show(CB (.lst _) (.lst [])).bind _=_;rw[zN,f1.pl,f2.pl,f1.sh (by omega),f2.sh (by omega)]
 cases l <;> rfl
section
variable {S:bc} {c:Int} {ai ae:Tj} {gs1 gs2:List Gt} {aF os2:Tn}
structure vf (aF:Tn) (ae:Tj) (i:Nat) (pairs:List (Nat × Nat)):Prop where
 F:Fits aF ae pairs
 nd:(pairs.map (·.2)).Nodup
 lt:∀q∈pairs,q.2 < i
 l:pairs.length<=i
theorem vf.push{i o:Nat}{pairs:List (Nat × Nat)}{x:Str × List Nat}{y:Str × Nat}(P:vf aF ae i pairs)(hx:aF[o]? =some x)(hy:ae[i]? =some y)(e:x.2.length=y.2):vf aF ae (i+1) (pairs++[(o,i)]):=by
 refine⟨fun q hq=>?_,?_,fun q hq=>?_,by rw[List.length_append,List.length_singleton];have:=P.l;omega⟩
 .rcases List.mem_append.mp hq with z | z
  .exact P.F q z
  .rw [List.mem_singleton.mp z];exact⟨x,y,hx,hy,e⟩
 .rw [List.map_append];refine List.nodup_append.mpr ⟨P.nd,by simp,fun x hx y hy=>?_⟩
  obtain⟨q,hq,rfl⟩:=List.mem_map.mp hx;have:=P.lt q hq;simp only[List.map_cons,List.map_nil,List.mem_singleton] at hy;omega
 .rcases List.mem_append.mp hq with z | z
  .have:=P.lt q z;omega
  .rw [List.mem_singleton.mp z];simp
theorem vf.keep{i:Nat}{pairs:List (Nat × Nat)}(P:vf aF ae i pairs):vf aF ae (i+1) pairs:=⟨P.F,P.nd,fun q hq=>by have:=P.lt q hq;omega,by have:=P.l;omega⟩
theorem vf.rev{i:Nat}{pairs:List (Nat × Nat)}(P:vf aF ae i pairs):vf aF ae i pairs.reverse:=
 ⟨fun q hq=>P.F q (List.mem_reverse.mp hq),by rw[List.map_reverse];exact List.pairwise_reverse.mpr (P.nd.imp fun h=>h.symm),fun q hq=>P.lt q (List.mem_reverse.mp hq),by rw[List.length_reverse];exact P.l⟩
theorem yj{i:Nat}{y:Str × Nat}{pairs:List (Nat × Nat)}{x5 x6:Option V3}(hO:aF.length < 1000)(hy:ae[i]? =some y)(P:vf aF ae i pairs)(hi:i < 100) :
 W3 (g9 [some (.d (.int c)),some (.d (au ai gs1 aF)),some (.d (au ae gs2 os2)),some (.loc S.length),some (.d (nI i)),x5,x6] (S++[.lst (pairs.map d5)])) fun o S2=>∃ib y5 y6,o= .nx [some (.d (.int c)),some (.d (au ai gs1 aF)),some (.d (au ae gs2 os2)),some (.loc S.length),some (.d (nI i)),y5,y6]/\S2=S++[SO.lst (ib.map d5)]/\vf aF ae (i+1) ib:=by
 have hz:sizeLine=16777216:=sizeLine_eq;unfold g9
 let p:Nat->Bool:=fun o=>decide ((aF.getD o (Str.empty,[])).2.length=y.2)
 refine aZ <| bG (by simp) <| fY (fun j ds S2=>S2=S++[.lst (pairs.map d5)]/\ds=((List.range j).filter p).map nI) <| hV (jk (n:=aF.length) (av (ds:=[.lst (aF.map dq)]) rfl (by rw[dv,List.length_map])) (by omega)) ⟨by rw[List.length_map,List.length_map,List.length_range];omega,⟨rfl,rfl⟩,?_,?_⟩
 .rintro j v ds S2 hv ⟨rfl,rfl⟩;obtain⟨j',EU,rfl⟩:=NT.dn hv;obtain⟨hjl,ej⟩:=List.getElem?_eq_some_iff.mp EU;rw[List.getElem_range] at ej;subst ej;rw[List.length_range] at hjl;have hgd:aF.getD j (Str.empty,[])=aF[j]:=by rw[List.getD_eq_getElem?_getD,List.getElem?_eq_getElem hjl];rfl
  refine⟨[some (.d (nI j)),some (.d (au ai gs1 aF)),some (.d (au ae gs2 os2)),some (.d (nI i))],rfl,uT (b:=p j) (cE (a:=nI (aF.getD j (Str.empty,[])).2.length) (b:=nI y.2) (av (ds:=[.tup ((aF.getD j (Str.empty,[])).2.map nI)]) (ao (aw (a:=dq (aF.getD j (Str.empty,[]))) (b:= .int 1) (aw (a:= .lst (aF.map dq)) (b:=nI j) (aw (a:=au ai gs1 aF) (b:= .int 2) rfl rfl rfl) rfl (NT.d6 (by rw[hgd,List.getElem?_map,List.getElem?_eq_getElem hjl];rfl))) rfl rfl) rfl) (by rw[FP,List.length_map])) (aw (a:=MT.inD y) (b:= .int 1) (aw (a:= .lst (ae.map MT.inD)) (b:=nI i) (aw (a:=au ae gs2 os2) (b:= .int 0) rfl rfl rfl) rfl (NT.d6 (by rw[List.getElem?_map,hy];rfl))) rfl rfl) (BL _ _)) ?_⟩
  rw[List.range_succ,List.filter_append,List.map_append];cases hp:p j with
  | true=>
    rw[if_pos rfl];exact cX (d:=nI j) rfl ⟨_,rfl,rfl,by rw[List.filter_cons,if_pos hp];rfl⟩
  | false=>
    rw[if_neg (by decide)]
    exact⟨rfl,by rw[List.filter_cons,if_neg (by rw[hp];decide)];simp⟩
 rintro ds S2 ⟨e1,rfl⟩;subst S2;rw[List.length_map,List.length_map,List.length_range];refine⟨_,rfl,?_⟩;simp only[List.set];have hF:∀o∈(List.range aF.length).filter p,o < aF.length/\(aF.getD o (Str.empty,[])).2.length=y.2:=fun o ho=>by
  obtain⟨h1,h2⟩:=List.mem_filter.mp ho;exact⟨List.mem_range.mp h1,of_decide_eq_true h2⟩
 generalize (List.range aF.length).filter p=Ft at hF;obtain⟨r,hr⟩:∃r,stN c (80+i)=r:=⟨_,rfl⟩;refine aZ <| bG (by simp) <| cX (d:=nI r) ((av (ds:=[.int c,nI (80+i)]) (ao rfl (ao (aw (a:=nI 80) (b:=nI i) rfl rfl (cT _ _)) rfl)) (iC c _)).trans (by rw[hr])) ⟨_,rfl,?_⟩
 simp only[List.set];refine rV <| uT (b:=!Ft.isEmpty && decide (0 < r % 4)) ?_ ?_
 .unfold yK;rw[show b2 n0 (af 5) (eNew (dP aD)) (down [some (.d (.int c)),some (.d (au ai gs1 aF)),some (.d (au ae gs2 os2)),some (.loc S.length),some (.d (nI i)),some (.d (.lst (Ft.map nI))),some (.d (nI r))])= .ok (!Ft.isEmpty) from cE (a:= .lst (Ft.map nI)) (b:= .lst []) rfl rfl (CH Ft),R.aM]
  cases !Ft.isEmpty with
  | false=>rfl
  | true=>
    rw[if_pos rfl];refine(cE (a:=nI (r % 4)) (b:=nI 0) (aw (a:=nI r) (b:=nI 4) rfl rfl (gh (by omega))) rfl (Gj _ _)).trans ?_
    rw[Bool.true_and]
 cases hc:!Ft.isEmpty && decide (0 < r % 4) with
 | false=>rw [if_neg (by decide)];exact iY ⟨pairs,_,_,rfl,rfl,P.keep⟩
 | true=>
   rw[if_pos rfl];have yh:0 < Ft.length:=by
    cases Ft with
    | nil=>rw [Bool.and_eq_true] at hc;cases hc.1
    | cons g G=>simp
   have hm:r / 4 % Ft.length < Ft.length:=Nat.mod_lt _ yh;obtain⟨o,ho⟩:∃o,Ft[r / 4 % Ft.length]? =some o:=⟨_,List.getElem?_eq_getElem hm⟩;obtain⟨h1,h2⟩:=hF o (List.mem_of_getElem? ho);have hgd:aF.getD o (Str.empty,[])=aF[o]:=by rw[List.getD_eq_getElem?_getD,List.getElem?_eq_getElem h1];rfl
   have j5:=P.l;refine nh (k:=S.length) rfl ⟨_,cC _ _⟩ (cX (d:=d5 (o,i)) (bb (ao (aw (a:= .lst (Ft.map nI)) (b:=nI (r / 4 % Ft.length)) rfl (aw (a:=nI (r / 4)) (b:=nI Ft.length) (aw (a:=nI r) (b:=nI 4) rfl rfl (w9 (by omega) (by omega))) (av (ds:=[.lst (Ft.map nI)]) rfl (by rw[dv,List.length_map])) (gh yh)) (Lm ho)) rfl) (by simp;omega)) ⟨_,_,rfl,cC _ _,by rw[List.length_map];omega,pairs++[(o,i)],_,_,rfl,?_,P.push (List.getElem?_eq_getElem h1) hy (by rw[<-hgd];exact h2)⟩)
   rw[eB,List.map_append];rfl
theorem An(N1:dm ai gs1 aF)(N2:dm ae gs2 os2)(hS:Flat S){Q:V3->bc->Prop}(h:∀pairs,vf aF ae ae.length pairs->Q (.d (.lst (pairs.map d5))) S) :
 W3 (iO [.d (.int c), .d (au ai gs1 aF), .d (au ae gs2 os2)] S) Q:=by
 have hz:sizeLine=16777216:=sizeLine_eq;have h21:=N2.hi;unfold iO;refine oi hS.clo (HU rfl ?_);simp only[eE,gQ,List.map,List.length,List.replicate,List.cons_append,List.nil_append,Nat.reduceAdd,Nat.reduceSub];unfold jQ;refine aZ <| bG (by simp) <| ug (ds:=([]:List (Nat × Nat)).map d5) rfl ⟨_,rfl,?_⟩
 simp only[List.set];refine aZ <| ik <| hV (jk (n:=ae.length) (av (ds:=[.lst (ae.map MT.inD)]) rfl (by rw[dv,List.length_map])) (by omega)) ?_
 refine(cy (fun i δ S2=>∃(pairs:List (Nat × Nat)) (x4 x5 x6:Option V3),vf aF ae i pairs/\δ=[some (.d (.int c)),some (.d (au ai gs1 aF)),some (.d (au ae gs2 os2)),some (.loc S.length),x4,x5,x6]/\S2=S++[SO.lst (pairs.map d5)])
  ⟨[],_,_,_,⟨fun q hq=>(by cases hq),List.nodup_nil,fun q hq=>(by cases hq),Nat.le_refl _⟩,rfl,rfl⟩ ?_).mono fun o S2 ⟨e8,iG,pairs,x4,x5,x6,P,hδ,nS⟩=>⟨e8,iG,?_⟩
 .rintro i v δ S2 hv ⟨pairs,x4,x5,x6,P,rfl,rfl⟩;obtain⟨k,hk,rfl⟩:=NT.dn hv;obtain⟨hkl,ek⟩:=List.getElem?_eq_some_iff.mp hk;rw[List.getElem_range] at ek;subst ek;rw[List.length_range] at hkl;exact⟨_,rfl,(yj N1.ho (List.getElem?_eq_getElem hkl) P (by omega)).mono fun o S3 ⟨ib,y5,y6,e1,e2,e3⟩=>⟨_,e1,ib,_,y5,y6,e3,rfl,e2⟩⟩
 rw[List.length_map,List.length_map,List.length_range] at P;subst hδ nS;refine uc (i:=3) rfl (cC _ _) ?_;rw[eB];simp only[List.set];refine aZ (W3.mono (Q:=fun o S2=>S2=S++[SO.ft]/\∃ib,vf aF ae ae.length ib/\o= .nx [some (.d (.int c)),some (.d (au ai gs1 aF)),some (.d (au ae gs2 os2)),some (.d (.lst (ib.map d5))),x4,x5,x6]) ?_ fun o S2 ⟨e1,ib,P',eo⟩=>⟨_,eo,?_⟩)
 .refine rV <| uT (b:=decide (stN c 84 % 2=0)) (cE (a:=nI (stN c 84 % 2)) (b:=nI 0) (aw (a:=nI (stN c 84)) (b:=nI 2) (av (ds:=[.int c,nI 84]) rfl (iC c 84)) rfl (gh (by omega))) rfl (BL _ _)) ?_
  cases decide (stN c 84 % 2=0) with
  | false=>rw [if_neg (by decide)];exact iY ⟨rfl,pairs,P,rfl⟩
  | true=>
    rw[if_pos rfl];refine bG (by simp) <| cX (d:= .lst (pairs.reverse.map d5)) (by rw[List.map_reverse];rfl) ⟨rfl,pairs.reverse,P.rev,?_⟩
    simp only[List.set]
 subst e1;exact q8 <| cX (d:= .lst (ib.map d5)) rfl ⟨_,rfl,rfl,⟨[SO.ft],rfl⟩,_,rfl,h ib P'⟩
end
end K34
end
section
namespace K34
open PySem PySem.Spec PyProof.Rows L2 L3 MT JT
abbrev Lb:=Bool × Bool × Nat × Nat
def sO(b:Bool):Str:=if b then Str.ofString "other" else Str.ofString "one"
def p7(b:Bool):Str:=if b then Str.ofString "gate" else Str.ofString "in"
def b6(l:Lb):D:= .tup [.str (sO l.1), .str (p7 l.2.1),nI l.2.2.1,nI l.2.2.2]
def EO(l:Lb):List Key:=[.inr (sO l.1), .inr (p7 l.2.1), .inl ((l.2.2.1:Nat):Int), .inl ((l.2.2.2:Nat):Int)]
theorem xX{a b:Bool}(h:sO a=sO b):a=b:=by
 have:∀a b:Bool,sO a=sO b->a=b:=by decide+kernel
 exact this a b h
theorem xV{a b:Bool}(h:p7 a=p7 b):a=b:=by
 have:∀a b:Bool,p7 a=p7 b->a=b:=by decide+kernel
 exact this a b h
theorem D2{a b:Lb}(h:EO a=EO b):a=b:=by
 obtain⟨a1,a2,a3,a4⟩:=a;obtain⟨b1,b2,b3,b4⟩:=b;injection h with h1 h
 injection h with h2 h
 injection h with h3 h
 injection h with h4 h
 injection h1 with h1
 injection h2 with h2
 injection h3 with h3
 injection h4 with h4
 have e1:=xX h1;have e2:=xV h2;have e3:a3=b3:=Int.ofNat_inj.mp h3;have e4:a4=b4:=Int.ofNat_inj.mp h4;rw[show a1=b1 from e1,show a2=b2 from e2,e3,e4]
theorem CT(l:Lb):keysV? [.str (sO l.1), .str (p7 l.2.1),nI l.2.2.1,nI l.2.2.2]=some (EO l):=rfl
theorem Gk(b:Bool):(PyData.str (sO b)).canLay0=true:=by cases b <;> decide+kernel
theorem Ha(b:Bool):(PyData.str (p7 b)).canLay0=true:=by cases b <;> decide+kernel
theorem Fs(l:Lb):dt 1 (b6 l):=dt.tup fun d hd=>by
 rcases List.mem_cons.mp hd with rfl | hd
 .exact dt.str (Gk _)
 rcases List.mem_cons.mp hd with rfl | hd
 .exact dt.str (Ha _)
 rcases List.mem_cons.mp hd with rfl | hd
 .exact dt.int _
 rcases List.mem_cons.mp hd with rfl | hd
 .exact dt.int _
 .cases hd
theorem El(l:Lb):zt (b6 l)=true:=by
 have h:=Fs l;unfold zt;rw[h.pl,h.ly,decide_eq_true (Nat.le_trans h.dp (by omega))];rfl
theorem EC(a b:Lb):wZ (b6 a) (b6 b)=decide (a=b):=by
 obtain⟨a1,a2,a3,a4⟩:=a;obtain⟨b1,b2,b3,b4⟩:=b;unfold wZ b6 nI;simp only[toPy,iu,PyData.eqv,PyData.eqvAll];rw[Bool.eq_iff_iff];simp only[Bool.and_eq_true,beq_iff_eq,decide_eq_true_eq,Prod.mk.injEq,and_true,Int.ofNat_inj];constructor
 .rintro⟨h1,h2,h3,h4⟩;exact⟨xX h1,xV h2,by omega,by omega⟩
 .rintro⟨h1,h2,h3,h4⟩;subst h1 h2 h3 h4;exact⟨rfl,rfl,rfl,rfl⟩
theorem F9{ls:List Lb}(hn:ls.Nodup){x:Lb}{j:Nat}(hj:ls[j]? =some x)(hl:ls.length < 1000000):iM (.lst (ls.map b6)) [b6 x]= .ok (nI j):=by
 obtain⟨hjl,ej⟩:=List.getElem?_eq_some_iff.mp hj;have hf:(ls.map b6).findIdx? (fun d=>wZ d (b6 x))=some j:=by
  refine List.findIdx?_eq_some_iff_getElem.mpr ⟨by rw[List.length_map];exact hjl,?_,fun i hi=>?_⟩
  .rw [List.getElem_map,ej,EC,decide_eq_true rfl]
  .rw [List.getElem_map,EC];have:=List.pairwise_iff_getElem.mp (List.nodup_iff_pairwise_ne.mp hn) i j (by omega) hjl hi
   rw[ej] at this;rw[decide_eq_false this];decide
 show R.aR (zt (b6 x) && (ls.map b6).all zt) (match (ls.map b6).findIdx? (fun d=>wZ d (b6 x)) with | some j=>R.aR (decide (j < 1000000)) (R.ok (D.int (j:Nat))) | none=> .no)=_
 rw[El,List.all_eq_true.mpr (fun d hd=>by obtain⟨y,_,rfl⟩:=List.mem_map.mp hd;exact El y),hf]
 show R.aR (decide (j < 1000000)) _=_;rw[bS _ (by omega)];rfl
def bM(s:Bool)(l:List ((Str × Nat) × Nat)):List Lb:=l.flatMap fun x=>(List.range x.1.2).map fun k=>(s,false,x.2,k)
def jn(s:Bool)(n:Nat):List Lb:=(List.range n).map fun i=>(s,true,i,0)
theorem dX(s:Bool)(n:Nat):(jn s n).length=n:=by unfold jn;rw [List.length_map,List.length_range]
theorem fg(s:Bool)(x:(Str × Nat) × Nat)(l:List ((Str × Nat) × Nat)):bM s (x ::l)=((List.range x.1.2).map fun k=>(s,false,x.2,k))++bM s l:=rfl
theorem zd(s:Bool)(a b:List ((Str × Nat) × Nat)):bM s (a++b)=bM s a++bM s b:=by unfold bM;rw [List.flatMap_append]
theorem iS(s:Bool):∀l:List ((Str × Nat) × Nat),(bM s l).length=(l.map (·.1.2)).sum
 | []=>rfl
 | x ::l=>by rw[fg,List.length_append,List.length_map,List.length_range,iS s l,List.map_cons,List.sum_cons]
theorem xn{α:Type}(l:List α):l.zipIdx.map (·.1)=l:=List.ext_getElem? fun i=>by
 rw[List.getElem?_map,List.getElem?_zipIdx];cases l[i]? <;> rfl
theorem fm(s:Bool)(ins:Tj):(bM s ins.zipIdx).length=bW ins:=by
 rw[iS];unfold bW;rw[show ins.zipIdx.map (·.1.2)=(ins.zipIdx.map (·.1)).map (·.2) from(List.map_map).symm,xn]
theorem d_{s:Bool}{l:List ((Str × Nat) × Nat)}{x:Lb}(h:x∈bM s l):x.1=s/\x.2.1=false/\∃y∈l,y.2=x.2.2.1:=by
 obtain⟨y,hy,hx⟩:=List.mem_flatMap.mp h;obtain⟨k,_,rfl⟩:=List.mem_map.mp hx;exact⟨rfl,rfl,y,hy,rfl⟩
theorem dy{s:Bool}{n:Nat}{x:Lb}(h:x∈jn s n):x.1=s/\x.2.1=true:=by
 obtain⟨k,_,rfl⟩:=List.mem_map.mp h;exact⟨rfl,rfl⟩
theorem A9{α:Type}(l:List α):l.zipIdx.Pairwise fun x y=>x.2≠y.2:=by
 refine List.pairwise_iff_getElem.mpr fun i j hi hj SY=>?_
 rw[List.getElem_zipIdx,List.getElem_zipIdx];show 0+i≠0+j;omega
theorem vT{α β:Type}{f:α->β}{l:List α}(h:l.Nodup)(hf:∀a∈l,∀b∈l,f a=f b->a=b):(l.map f).Nodup:=
 List.pairwise_map.mpr (List.Pairwise.imp_of_mem (fun ha hb yh e=>yh (hf _ ha _ hb e)) h)
theorem uM(s:Bool){l:List ((Str × Nat) × Nat)}(h:l.Pairwise fun x y=>x.2≠y.2):(bM s l).Nodup:=by
 unfold bM;refine List.pairwise_flatMap.mpr ⟨fun x hx=>vT List.nodup_range fun a _ b _ e=>by injection e with _ e;injection e with _ e;injection e with _ e,h.imp fun {x y} hxy a ha b hb e=>?_⟩
 obtain⟨k,_,rfl⟩:=List.mem_map.mp ha;obtain⟨k2,_,rfl⟩:=List.mem_map.mp hb;injection e with _ e
 injection e with _ e
 injection e with e _
 exact hxy e
theorem wY(s:Bool)(n:Nat):(jn s n).Nodup:=vT List.nodup_range fun a _ b _ e=>by injection e with _ e;injection e with _ e;injection e with e _
def lj(ai ae:Tj)(n1 n2:Nat)(pairs:List (Nat × Nat)):List Lb:=
 bM false ai.zipIdx++(bM true (ae.zipIdx.filter fun x=>(bq pairs x.2).isNone)++(jn false n1++jn true n2))
theorem xA(ai ae:Tj)(n1 n2:Nat)(pairs:List (Nat × Nat)):(lj ai ae n1 n2 pairs).Nodup:=by
 unfold lj;refine List.nodup_append.mpr ⟨uM _ (A9 _),List.nodup_append.mpr ⟨uM _ ((A9 _).filter _),List.nodup_append.mpr ⟨wY _ _,wY _ _,fun a ha b hb e=>?_⟩,fun a ha b hb e=>?_⟩,fun a ha b hb e=>?_⟩
 .subst e;have h1:=(dy ha).1;rw[(dy hb).1] at h1;cases h1
 .subst e;have h1:=(d_ ha).2.1;rcases List.mem_append.mp hb with z | z
  .rw [(dy z).2] at h1;cases h1
  .rw [(dy z).2] at h1;cases h1
 .subst e;rcases List.mem_append.mp hb with z | z
  .have h1:=(d_ ha).1;rw[(d_ z).1] at h1;cases h1
  .have h1:=(d_ ha).2.1;rcases List.mem_append.mp z with z | z
   .rw [(dy z).2] at h1;cases h1
   .rw [(dy z).2] at h1;cases h1
theorem mz(ae:Tj)(pairs:List (Nat × Nat)):(bM true (ae.zipIdx.filter fun x=>(bq pairs x.2).isNone)).length=bt (dN pairs ae):=by
 rw[iS,<-u6];unfold bW dZ;rw[List.map_map];rfl
theorem u_(ai ae:Tj)(n1 n2:Nat)(pairs:List (Nat × Nat)):(lj ai ae n1 n2 pairs).length=bW ai+bt (dN pairs ae)+n1+n2:=by
 unfold lj;rw[List.length_append,List.length_append,List.length_append,fm,mz,dX,dX];omega
def b0(s:Bool)(ins:Tj)(n:Nat):List Lb:=bM s ins.zipIdx++jn s n
theorem iy(s:Bool)(ins:Tj)(n:Nat):(b0 s ins n).length=bW ins+n:=by unfold b0;rw [List.length_append,fm,dX]
theorem d9{α:Type}(a b:List α)(i:Nat):(a++b)[a.length+i]? =b[i]?:=by
 rw[List.getElem?_append_right (by omega),Nat.add_sub_cancel_left]
theorem AZ{ai ae:Tj}{n1 n2:Nat}{pairs:List (Nat × Nat)}{w:Nat}(hw:w < bW ai+n1):(lj ai ae n1 n2 pairs)[pT ai ae pairs w]? =(b0 false ai n1)[w]?:=by
 unfold lj b0;show(_++_)[DS _ _ w]? =_;unfold DS;have e1:=fm false ai;have e2:=mz ae pairs;by_cases h:w < bW ai
 .rw [if_pos h,List.getElem?_append_left (by omega),List.getElem?_append_left (by omega)]
 .rw [if_neg h,List.getElem?_append_right (by omega),List.getElem?_append_right (by omega),List.getElem?_append_left (by rw[dX];omega),List.getElem?_append_right (by omega)]
  congr 1;omega
def qz:Lb:=(false,false,0,0)
def fW(pairs:List (Nat × Nat))(os:Tn)(mine:List Lb)(l:Lb):Option Lb:=if l.1 && !l.2.1 then(bq pairs l.2.2.1).bind fun o=>((jt os o)[l.2.2.2]?).map fun w=>mine.getD w qz else none
def nM(pairs:List (Nat × Nat))(os:Tn)(mine:List Lb)(l:Lb):Lb:=(fW pairs os mine l).getD l
theorem Af(pairs:List (Nat × Nat))(os:Tn)(mine:List Lb){l:Lb}(h:l.2.1=true):nM pairs os mine l=l:=by
 unfold nM fW;rw[h];cases l.1 <;> rfl
theorem C1(pairs:List (Nat × Nat))(os:Tn)(mine:List Lb){l:Lb}(h:l.1=false):nM pairs os mine l=l:=by
 unfold nM fW;rw[h];rfl
theorem rN{pairs:List (Nat × Nat)}{os:Tn}{mine:List Lb}{f:Nat->Nat}{labels:List Lb} :
 ∀(l:List ((Str × Nat) × Nat)) (free:Nat) (A B:List Lb),labels=A++(bM true (l.filter fun x=>(bq pairs x.2).isNone)++B)->A.length=free->
  (∀x∈l,∀o,bq pairs x.2=some o->(jt os o).length=x.1.2/\∀n∈jt os o,n < mine.length/\labels[f n]? =mine[n]?)->
  (bM true l).map (fun y=>some (nM pairs os mine y))=(dk f (jt os) (l.map fun x=>(bq pairs x.2,x.1.2)) free).map fun n=>labels[n]?
 | [],free,A,B,_,_,_=>rfl
 | (x,p) ::l,free,A,B,hL,hA,ho=>by
   rw[fg,List.map_append,List.map_cons];have B9:∀x∈l,∀o,bq pairs x.2=some o->(jt os o).length=x.1.2/\∀n∈jt os o,n < mine.length/\labels[f n]? =mine[n]?:=fun y hy=>ho y (List.mem_cons_of_mem _ hy)
   rw[List.filter_cons] at hL;cases hf:bq pairs p with
   | some o=>
     obtain⟨h1,h2⟩:=ho (x,p) List.mem_cons_self o hf;have h1:(jt os o).length=x.2:=h1;have hL:labels=A++(bM true (l.filter fun x=>(bq pairs x.2).isNone)++B):=by simpa [hf] using hL
     show _=((jt os o).map f++dk f (jt os) _ free).map _;rw[List.map_append,rN l free A B hL hA B9];congr 1;rw[List.map_map,List.map_map];refine List.ext_getElem? fun i=>?_
     rw[List.getElem?_map,List.getElem?_map];by_cases hi:i < x.2
     .have Ii:i < (jt os o).length:=by omega
      rw[List.getElem?_range hi,List.getElem?_eq_getElem Ii];obtain⟨h3,h4⟩:=h2 _ (List.getElem_mem Ii);show some (some (nM pairs os mine (true,false,p,i)))=some (labels[f (jt os o)[i]]?);rw[h4];unfold nM fW;show some (some (((bq pairs p).bind fun o=>((jt os o)[i]?).map fun w=>mine.getD w qz).getD _))=_
      rw[hf];show some (some ((((jt os o)[i]?).map fun w=>mine.getD w qz).getD _))=_
      rw[List.getElem?_eq_getElem Ii];show some (some (mine.getD (jt os o)[i] qz))=_;rw[List.getD_eq_getElem?_getD,List.getElem?_eq_getElem h3];rfl
     .rw [List.getElem?_eq_none (by simpa using hi),List.getElem?_eq_none (by omega)];rfl
   | none=>
     have hL:labels=(A++(List.range x.2).map fun k=>(true,false,p,k))++(bM true (l.filter fun x=>(bq pairs x.2).isNone)++B):=by
      rw[hL,hf];show A++(bM true ((x,p) ::_)++B)=_;rw[fg,List.append_assoc,List.append_assoc]
     have hA2:(A++(List.range x.2).map fun k=>((true,false,p,k):Lb)).length=free+x.2:=by rw[List.length_append,List.length_map,List.length_range,hA]
     show _=(List.range' free x.2++dk f (jt os) _ (free+x.2)).map _;rw[List.map_append,rN l (free+x.2) _ B hL hA2 B9];congr 1;rw[List.map_map];refine List.ext_getElem? fun i=>?_
     rw[List.getElem?_map,List.getElem?_map];by_cases hi:i < x.2
     .rw [List.getElem?_range hi,List.getElem?_range' (by omega)]
      show some (some (nM pairs os mine (true,false,p,i)))=some (labels[free+1*i]?);rw[hL,List.getElem?_append_left (by rw[hA2];omega),List.getElem?_append_right (by omega),List.getElem?_map,hA,Nat.one_mul,Nat.add_sub_cancel_left,List.getElem?_range hi]
      unfold nM fW;show some (some (((bq pairs p).bind _).getD _))=_;rw[hf];rfl
     .rw [List.getElem?_eq_none (by simpa using hi),List.getElem?_eq_none (by simpa using hi)];rfl
section
variable {ai ae:Tj} {gs1 gs2:List Gt} {aF os2:Tn} {pairs:List (Nat × Nat)}
theorem Hq(N1:dm ai gs1 aF)(F:Fits aF ae pairs){n2 w:Nat}(hw:w < bW ae+n2) :
 (lj ai ae gs1.length n2 pairs)[xp ai ae gs1 aF pairs w]? =((b0 true ae n2)[w]?).map (nM pairs aF (b0 false ai gs1.length)):=by
 have hrow:=rN (pairs:=pairs) (os:=aF) (mine:=b0 false ai gs1.length) (f:=pT ai ae pairs) (labels:=lj ai ae gs1.length n2 pairs) ae.zipIdx (bW ai) (bM false ai.zipIdx) (jn false gs1.length++jn true n2) rfl (fm _ _) (fun x hx o ho=>by
  have hm:(some o,x.1.2)∈dN pairs ae:=by
   unfold dN;exact List.mem_map.mpr ⟨x,hx,by rw[ho]⟩
  obtain⟨y,y1,y2,y3⟩:=F.at hm;rw[y2];refine⟨y3,fun n hn=>?_⟩
  have:=(N1.o y (List.mem_of_getElem? y1)).2 n hn;exact⟨by rw[iy];exact this,AZ this⟩)
 have hJ:dk (pT ai ae pairs) (jt aF) (ae.zipIdx.map fun x=>(bq pairs x.2,x.1.2)) (bW ai)=jL ai ae aF pairs:=rfl
 rw[hJ] at hrow;have hLl:(jL ai ae aF pairs).length=bW ae:=by
  rw[j0 _ _ fun o w ho=>by obtain⟨x,_,e,e2⟩:=F.at ho;rw [e,e2],wJ]
 show _[GB _ _ w]? =_;unfold GB b0;rw[hLl];have e1:=fm true ae;by_cases h:w < bW ae
 .rw [if_pos h,List.getElem?_append_left (by omega)]
  have h2:=congrArg (fun l=>l[w]?) hrow
  simp only[List.getElem?_map] at h2;rw[List.getElem?_eq_getElem (by omega:w < (bM true ae.zipIdx).length),List.getElem?_eq_getElem (by omega:w < (jL ai ae aF pairs).length)] at h2
  rw[List.getD_eq_getElem?_getD,List.getElem?_eq_getElem (by omega:w < (jL ai ae aF pairs).length),List.getElem?_eq_getElem (by omega:w < (bM true ae.zipIdx).length)]
  exact(Option.some.inj h2).symm
 .rw [if_neg h,List.getElem?_append_right (by omega)]
  have e2:=mz ae pairs;unfold lj;have e3:=fm false ai;rw[List.getElem?_append_right (by omega),List.getElem?_append_right (by omega),List.getElem?_append_right (by rw[dX];omega),dX,e1,e2,e3]
  have hq:bW ai+bt (dN pairs ae)+gs1.length+(w - bW ae) - bW ai - bt (dN pairs ae) - gs1.length=w - bW ae:=by omega
  rw[hq];have hl:w - bW ae < (jn true n2).length:=by rw[dX];omega
  rw[List.getElem?_eq_getElem hl];show _=some (nM _ _ _ _);rw[Af _ _ _ (dy (List.getElem_mem hl)).2]
end
end K34
end
section
set_option maxHeartbeats 400000
namespace K34
open PySem PySem.Spec PyProof.Rows L2 L3 MT JT
theorem qd{a b:List D}(h:a.length+b.length<=sizeLine):bU (.lst a) (.lst b)= .ok (.lst (a++b)):=wC h
theorem mD{α:Type}{l:List α}{i:Nat}:(l.zipIdx.take i).length<=l.length:=by rw[List.length_take,List.length_zipIdx];omega
theorem uI{α:Type}{l:List α}{i:Nat}{x:α × Nat}(h:l.zipIdx[i]? =some x):l.zipIdx.take (i+1)=l.zipIdx.take i++[x]:=by rw[List.take_add_one,h];rfl
theorem Im:∀{l:List ((Str × Nat) × Nat)},(∀x∈l,x.1.2 < 100)->(l.map (·.1.2)).sum<=100*l.length
 | [],_=>Nat.le_refl _
 | x ::l,h=>by
   have:=Im (l:=l) fun y hy=>h y (List.mem_cons_of_mem _ hy)
   have:=h x List.mem_cons_self;rw[List.map_cons,List.sum_cons,List.length_cons];omega
section
variable {ins:Tj} {gs:List Gt} {os:Tn} {s:Bool}
theorem qB(N:dm ins gs os):dA [au ins gs os, .str (sO s)]= .ok (.lst ((b0 s ins gs.length).map b6)):=by
 have hz:sizeLine=16777216:=sizeLine_eq;have hi:=N.hi;have hg:=N.hg;unfold dA lX
 let E (i:Nat) (a3 a4 a5:Sl):aq:=[.val (au ins gs os), .val (.str (sO s)), .val (.lst ((bM s (ins.zipIdx.take i)).map b6)),a3,a4,a5]
 have hw:∀i,∀x∈ins.zipIdx.take i,x.1.2 < 100:=fun i x hx=>by
  have h1:=List.mem_of_mem_take hx;obtain⟨y,k⟩:=x;rw[List.mem_zipIdx_iff_getElem?] at h1;exact N.hw y (List.mem_of_getElem? h1)
 have hlen:∀i,(bM s (ins.zipIdx.take i)).length<=100*ins.length:=fun i=>by
  rw[iS];have h1:=Im (hw i);have h2:=mD (l:=ins) (i:=i);have:100*(ins.zipIdx.take i).length<=100*ins.length:=Nat.mul_le_mul_left _ h2;omega
 obtain⟨δ1,e1,a3,a4,a5,zi⟩:=mZ (t:=c7 2 (aX (aJ 3) (aX (c7 2 (aX (aJ 4) (aX (aJ 5) cY))) cY))) (body:=gm) (ds:=ins.zipIdx.map fun x=>D.tup [.int x.2,MT.inD x.1])
  (fun i δ=>∃a3 a4 a5,δ=E i a3 a4 a5) (δ:=E 0 .un .un .un) ⟨.un, .un, .un,rfl⟩ (by
    rintro i d δ hd ⟨a3,a4,a5,rfl⟩;obtain⟨⟨x,p⟩,hx,rfl⟩:=NT.r9 hd;have hx2:ins[p]? =some x:=List.mem_zipIdx_iff_getElem?.mp (List.mem_of_getElem? hx);have hxw:=N.hw x (List.mem_of_getElem? hx2);refine⟨E (i+1) (.val (nI p)) (.val (.str x.1)) (.val (nI x.2)),?_,⟨_,_,_,rfl⟩⟩;have hE:E (i+1) (.val (nI p)) (.val (.str x.1)) (.val (nI x.2))=[.val (au ins gs os), .val (.str (sO s)), .val (.lst ((bM s (ins.zipIdx.take i)).map b6++((List.range x.2).map fun k=>b6 (s,false,p,k)))), .val (nI p), .val (.str x.1), .val (nI x.2)]:=by
     show [_,_,Sl.val (.lst ((bM s (ins.zipIdx.take (i+1))).map b6)),_,_,_]=_;rw[uI hx,zd,List.map_append,fg,show bM s []=[] from rfl,List.append_nil,List.map_map];rfl
    rw[hE];have hl:=hlen i;rw[show c7 2 (aX (aJ 3) (aX (c7 2 (aX (aJ 4) (aX (aJ 5) cY))) cY)) (.tup [.int p,MT.inD x]) (E i a3 a4 a5)= .ok ([.val (au ins gs os), .val (.str (sO s)), .val (.lst ((bM s (ins.zipIdx.take i)).map b6)), .val (nI p), .val (.str x.1), .val (nI x.2)]:aq) from rfl,R.aM]
    generalize bM s (ins.zipIdx.take i)=L at hl;unfold gm;refine ck (aw (a:= .lst (L.map b6)) (b:= .lst ((List.range x.2).map fun k=>b6 (s,false,p,k))) rfl (bE (bK (jk (n:=x.2) rfl (by omega)) (by rw[List.length_map,List.length_range];omega) (NT.bw nI _ fun k hk=>⟨[.val (nI k), .val (.str (sO s)), .val (nI p)],rfl,rfl,bb rfl (by simp;omega)⟩))) (qd (by rw[List.length_map,List.length_map,List.length_range];omega))) (by simp))
 rw[List.length_map,List.length_zipIdx] at zi;have hta:ins.zipIdx.take ins.length=ins.zipIdx:=List.take_of_length_le (by rw[List.length_zipIdx];exact Nat.le_refl _)
 subst zi;refine fO (br (ck (d:= .lst []) rfl (by simp [cn,iT])) (br (rR (ds:=ins.zipIdx.map fun x=>D.tup [.int x.2,MT.inD x.1]) (by rw[<-oE MT.inD];exact rM rfl) e1) (c_ ?_)))
 have hl:=hlen ins.length;have hE:E ins.length a3 a4 a5=[.val (au ins gs os), .val (.str (sO s)), .val (.lst ((bM s ins.zipIdx).map b6)),a3,a4,a5]:=by
  show [_,_,Sl.val (.lst ((bM s (ins.zipIdx.take ins.length)).map b6)),_,_,_]=_;rw[hta]
 rw[hE];rw[hta] at hl;unfold b0;rw[List.map_append];generalize bM s ins.zipIdx=L at hl;refine aw (a:= .lst (L.map b6)) (b:= .lst ((jn s gs.length).map b6)) rfl (bE (bK (jk (n:=gs.length) (av (ds:=[.lst (gs.map c9)]) (ao rfl rfl) (by rw[dv,List.length_map])) (by omega)) (by rw[List.length_map,List.length_range];omega) ?_)) (qd (by rw[List.length_map,List.length_map,dX];omega))
 unfold jn;rw[List.map_map];exact NT.bw nI _ fun k hk=>⟨[.val (nI k), .val (.str (sO s))],rfl,rfl,bb rfl (by simp;omega)⟩
end
theorem DX{κ:Type} [DecidableEq κ](k k':κ)(d:D):∀kvs:List (κ × D),mN (nD kvs k d) k'=if k=k' then some d else mN kvs k':=by
 intro kvs;unfold nD;split
 .rename_i h
  induction kvs with
  | nil=>cases h
  | cons x kvs ih=>
    rw[List.map_cons];unfold mN at ih ⊢;rw[List.find?_cons,List.find?_cons];by_cases hx:x.1=k
    .rw [if_pos hx];by_cases hk:k=k'
     .rw [if_pos hk];show Option.map _ (match decide (x.1=k') with | true=>_ | false=>_)=_
      rw[decide_eq_true (hx.trans hk)];rfl
     .rw [if_neg hk];show Option.map _ (match decide (x.1=k') with | true=>_ | false=>_)=Option.map _ (match decide (x.1=k') with | true=>_ | false=>_)
      have yh:¬x.1=k':=fun e=>hk (hx.symm.trans e)
      rw[decide_eq_false yh];show Option.map _ (List.find? _ (kvs.map _))=Option.map _ (List.find? _ kvs);by_cases h2:(kvs.any fun kv=>decide (kv.1=k))=true
      .have:=ih h2;rw[if_neg hk] at this;exact this
      .have e:kvs.map (fun kv=>if kv.1=k then(kv.1,d) else kv)=kvs:=by
        refine(List.map_congr_left (g:=id) fun y hy=>?_).trans (List.map_id kvs)
        rw[if_neg fun e=>h2 (List.any_eq_true.mpr ⟨y,hy,decide_eq_true e⟩)];rfl
       rw[e]
    .rw [if_neg hx];rw[List.any_cons,decide_eq_false hx,Bool.false_or] at h;have:=ih h;show Option.map _ (match decide (x.1=k') with | true=>_ | false=>_)=if k=k' then some d else Option.map _ (match decide (x.1=k') with | true=>_ | false=>_)
     by_cases hk':x.1=k'
     .rw [decide_eq_true hk',if_neg (fun e=>hx (hk'.trans e.symm))]
     .rw [decide_eq_false hk'];exact this
 .rename_i h;unfold mN;rw[List.find?_append];by_cases hk:k=k'
  .subst hk;rw[if_pos rfl];have:kvs.find? (fun kv=>decide (kv.1=k))=none:=List.find?_eq_none.mpr fun x hx hp=>h (List.any_eq_true.mpr ⟨x,hx,hp⟩)
   rw[this];simp
  .rw [if_neg hk];cases q:kvs.find? (fun kv=>decide (kv.1=k')) with
   | some y=>rfl
   | none=>simp [hk]
theorem Dz{κ:Type} [DecidableEq κ](k:κ)(d:D)(kvs:List (κ × D)):(nD kvs k d).length<=kvs.length+1:=by
 unfold nD;split
 .rw [List.length_map];omega
 .rw [List.length_append];exact Nat.le_refl _
theorem CW{fo fe:FX}{g:FA}{δ:DE}{S:bc}{QO:Ou->bc->Prop}(h:W3 (fe δ S) fun v S1=>W3 (fo δ S1) fun o S2=>W3 (g δ S2) fun js S3=>∃d k ds ks kvs,v= .d d/\o= .loc k/\js=ds.map .d/\keysV? ds=some ks/\S3[k]? =some (.dcT kvs)/\kvs.length < sizeLine/\js.length<=sizeLine/\QO (.nx δ) (S3.set k (.dcT (nD kvs ks d)))):W3 (vM fo g fe δ S) QO:=
 W3.bind (h.mono fun v S1 h=>W3.bind (h.mono fun o S2 h=>W3.bind (h.mono fun js S3 ⟨d,k,ds,ks,kvs,e1,iG,e3,e4,e5,e6,e7,q⟩=>by
  subst e1 iG e3;have l2:ur S3 k=some kvs:=by unfold ur;simp only[e5]
  simp only[o_,e4,l2];exact W3.wh (decide_eq_true ⟨e6,e7⟩) (W3.ok q))))
end K34
end
section
namespace K34
open PySem PySem.Spec PyProof.Rows L2 L3 MT JT
abbrev uE(A B P:D)(x3 x4 x5 x6 x7 x8 x9 x10 x11 pW B_ x14 p8 wy n9 sQ n8 p9 ye sW rm:Option V3):DE:=[some (.d A),some (.d B),some (.d P),x3,x4,x5,x6,x7,x8,x9,x10,x11,pW,B_,x14,p8,wy,n9,sQ,n8,p9,ye,sW,rm]
def Fd(F:Lb->Option Lb)(kvs:List (List Key × D)):Prop:=∀l:Lb,mN kvs (EO l)=(F l).map b6
theorem Fd.put{F G:Lb->Option Lb}{kvs:List (List Key × D)}(h:Fd F kvs)(l0 m:Lb)(hG:∀l,G l=if l0=l then some m else F l):Fd G (nD kvs (EO l0) (b6 m)):=fun l=>by
 rw[DX,hG l];by_cases e:l0=l
 .subst e;rw [if_pos rfl,if_pos rfl];rfl
 .rw [if_neg (fun z=>e (D2 z)),if_neg e];exact h l
theorem uj(l:List (Nat × Nat))(o p c:Nat):bq (l++[(o,p)]) c=(bq l c).or (if p=c then some o else none):=by
 unfold bq;rw[List.find?_append];cases l.find? fun q=>decide (q.2=c) with
 | some q=>rfl
 | none=>
   show Option.map _ (Option.or none (List.find? _ [(o,p)]))=Option.or none _;by_cases h:p=c
   .subst h;simp
   .simp [h]
theorem lE(pairs:List (Nat × Nat))(p:Nat):(bq pairs p).isNone=!(pairs.map (·.2)).contains p:=by
 have h:=lS p pairs;rw[<-Option.not_isSome,<-h];congr 1;unfold jx;rw[List.any_map,Bool.eq_iff_iff,List.any_eq_true,List.contains_iff_mem,List.mem_map];constructor
 .rintro⟨q,hq,e⟩;refine⟨q,hq,?_⟩;have:=of_decide_eq_true e;injection this with this
  exact Int.ofNat_inj.mp this
 .rintro⟨q,hq,e⟩;exact⟨q,hq,decide_eq_true (by rw[<-e])⟩
section
variable {S:bc} {A B P:D} {mine:List Lb} {kvs:List (List Key × D)} {x4 x6 x7 x8 x9 x10 x11 pW B_ x14 p8 wy n9 sQ n8 p9 ye sW rm:Option V3}
theorem AB{p k w:Nat}(hw:w < mine.length)(hk:kvs.length < 1000000) :
 W3 (jB (uE A B P (some (.d (.lst (mine.map b6)))) x4 (some (.loc S.length)) x6 (some (.d (nI p))) (some (.d (nI k))) (some (.d (nI w))) x10 x11 pW B_ x14 p8 wy n9 sQ n8 p9 ye sW rm) (S++[.dcT kvs])) fun o S2=>
  o= .nx (uE A B P (some (.d (.lst (mine.map b6)))) x4 (some (.loc S.length)) x6 (some (.d (nI p))) (some (.d (nI k))) (some (.d (nI w))) x10 x11 pW B_ x14 p8 wy n9 sQ n8 p9 ye sW rm)/\S2=S++[SO.dcT (nD kvs (EO (true,false,p,k)) (b6 (mine.getD w qz)))]:=by
 have hz:sizeLine=16777216:=sizeLine_eq;unfold jB;refine CW <| cX (d:=b6 (mine.getD w qz)) (aw (a:= .lst (mine.map b6)) (b:=nI w) rfl rfl (NT.d6 (by rw[List.getElem?_map,List.getElem?_eq_getElem hw,List.getD_eq_getElem?_getD,List.getElem?_eq_getElem hw];rfl))) <| w_var (v:= .loc S.length) rfl <| b7 <| cX (d:= .str (sO true)) rfl <| b7 <| cX (d:= .str (p7 false)) rfl <| b7 <| cX (d:=nI p) rfl <| b7 <| cX (d:=nI k) rfl <| jP ⟨b6 (mine.getD w qz),S.length,[.str (sO true), .str (p7 false),nI p,nI k],EO (true,false,p,k),kvs,rfl,rfl,rfl,rfl,cC _ _,by omega,by simp;omega,rfl,by rw[eB]⟩
def DM(F0:Lb->Option Lb)(mine:List Lb)(p:Nat)(ws:List Nat)(l:Lb):Option Lb:=if l.1=true/\l.2.1=false/\l.2.2.1=p then(ws[l.2.2.2]?).map (fun w=>mine.getD w qz) else F0 l
theorem xC{F0:Lb->Option Lb}{p k:Nat}{ws:List Nat}:DM F0 mine p ws (true,false,p,k)=(ws[k]?).map (fun w=>mine.getD w qz):=if_pos ⟨rfl,rfl,rfl⟩
theorem yc{F0:Lb->Option Lb}{p:Nat}{ws:List Nat}{l:Lb}(h:¬(l.1=true/\l.2.1=false/\l.2.2.1=p)):DM F0 mine p ws l=F0 l:=if_neg h
theorem CU{F0:Lb->Option Lb}{p j w:Nat}{ws:List Nat}(hw:ws[j]? =some w)(l:Lb):DM F0 mine p (ws.take (j+1)) l=if((true,false,p,j):Lb)=l then some (mine.getD w qz) else DM F0 mine p (ws.take j) l:=by
 obtain⟨a,b,c,k⟩:=l;by_cases h:a=true/\b=false/\c=p
 .obtain⟨rfl,rfl,rfl⟩:=h;rw[xC,xC];by_cases hk:j=k
  .subst hk;rw[if_pos (show((true,false,c,j):Lb)=(true,false,c,j) from rfl),List.getElem?_take,if_pos (show j < j+1 by omega),hw];rfl
  .have yh:¬((true,false,c,j):Lb)=(true,false,c,k):=fun e=>hk (by injection e with _ e;injection e with _ e;injection e with _ e)
   rw[if_neg yh];congr 1;rw[List.getElem?_take,List.getElem?_take];by_cases h2:k < j
   .rw [if_pos h2,if_pos (show k < j+1 by omega)]
   .rw [if_neg h2,if_neg (show ¬k < j+1 by omega)]
 .rw [yc h,yc h,if_neg];intro e;injection e with e1 e
  injection e with e2 e
  injection e with e3 e
  exact h ⟨e1.symm,e2.symm,e3.symm⟩
theorem zY{aF:Tn}{ai:Tj}{gs1:List Gt}{o p:Nat}{y:Str × List Nat}{F0:Lb->Option Lb}(hy:aF[o]? =some y)(hw:∀w∈y.2,w < mine.length)(hl:y.2.length < 1000)(hk:kvs.length < 100000)(hF:Fd F0 kvs)(h0:∀k,F0 (true,false,p,k)=none) :
 W3 (gP (uE (au ai gs1 aF) B P (some (.d (.lst (mine.map b6)))) x4 (some (.loc S.length)) (some (.d (nI o))) (some (.d (nI p))) x8 x9 x10 x11 pW B_ x14 p8 wy n9 sQ n8 p9 ye sW rm) (S++[.dcT kvs])) fun ou S2=>∃y8 y9 nT,
  ou= .nx (uE (au ai gs1 aF) B P (some (.d (.lst (mine.map b6)))) x4 (some (.loc S.length)) (some (.d (nI o))) (some (.d (nI p))) y8 y9 x10 x11 pW B_ x14 p8 wy n9 sQ n8 p9 ye sW rm)/\S2=S++[SO.dcT nT]/\nT.length<=kvs.length+y.2.length/\Fd (DM F0 mine p y.2) nT:=by
 unfold gP;refine ik <| hV (ds:=y.2.zipIdx.map fun x=>D.tup [.int x.2,nI x.1]) ?_ ?_
 .rw [<-oE nI];show((e2 bJ (e2 bJ (e2 bJ (af 0) (eC (.int 2))) (af 6)) (eC (.int 1))) (down _)).bind _=_;rw[aw (a:=dq y) (b:= .int 1) (aw (a:= .lst (aF.map dq)) (b:=nI o) (aw (a:=au ai gs1 aF) (b:= .int 2) rfl rfl rfl) rfl (NT.d6 (by rw[List.getElem?_map,hy];rfl))) rfl rfl]
  rfl
 refine(cy (fun j δ S2=>∃y8 y9 nT,δ=uE (au ai gs1 aF) B P (some (.d (.lst (mine.map b6)))) x4 (some (.loc S.length)) (some (.d (nI o))) (some (.d (nI p))) y8 y9 x10 x11 pW B_ x14 p8 wy n9 sQ n8 p9 ye sW rm/\S2=S++[SO.dcT nT]/\nT.length<=kvs.length+j/\Fd (DM F0 mine p (y.2.take j)) nT)
  ⟨_,_,kvs,rfl,rfl,Nat.le_refl _,fun l=>?_⟩ ?_).mono fun ou S2 ⟨e8,iG,y8,y9,nT,hδ,nS,hkl,hFd⟩=>?_
 .rw [hF l];congr 1;unfold DM;split
  .rename_i h;obtain⟨a,b,c,k⟩:=l;obtain⟨rfl,rfl,rfl⟩:=h;rw[h0];simp
  .rfl
 .rintro j v δ S2 hv ⟨y8,y9,nT,rfl,rfl,hkl,hFd⟩;obtain⟨⟨w,k⟩,hx,rfl⟩:=NT.dn hv;rw[List.getElem?_zipIdx] at hx;obtain⟨w',MI,e⟩:=L3.fk hx;injection e with e1 e2
  subst e1;have Ej:k=j:=by rw[<-e2];omega
  subst Ej;have hjl:=(List.getElem?_eq_some_iff.mp MI).1;exact⟨_,rfl,(AB (hw w' (List.mem_of_getElem? MI)) (by omega)).mono fun ou S3 ⟨e1,e3⟩=>⟨_,e1,_,_,_,rfl,e3,Nat.le_trans (Dz _ _ _) (by omega),hFd.put _ _ fun l=>CU MI l⟩⟩
 .rw [List.length_map,List.length_map,List.length_zipIdx] at hkl hFd;rw[List.take_of_length_le (Nat.le_refl _)] at hFd;exact⟨y8,y9,nT,by rw[iG,hδ],nS,hkl,hFd⟩
theorem vx{pairs:List (Nat × Nat)}{os:Tn}{p k:Nat}(h:bq pairs p=none):fW pairs os mine (true,false,p,k)=none:=by
 show(bq pairs p).bind _=none;rw[h];rfl
theorem vj{l:List (Nat × Nat)}{os:Tn}{o p:Nat}(h:bq l p=none):DM (fW l os mine) mine p (jt os o)=fW (l++[(o,p)]) os mine:=by
 funext x;obtain⟨a,b,c,k⟩:=x;unfold DM fW;by_cases hx:a=true/\b=false/\c=p
 .obtain⟨rfl,rfl,rfl⟩:=hx;rw[if_pos ⟨rfl,rfl,rfl⟩];show _=(bq (l++[(o,c)]) c).bind _;rw[uj,h,if_pos rfl];rfl
 .rw [if_neg hx];cases a with
  | false=>rfl
  | true=>
    cases b with
    | true=>rfl
    | false=>
      show(bq l c).bind _=(bq (l++[(o,p)]) c).bind _;rw[uj,if_neg (fun e=>hx ⟨rfl,rfl,e.symm⟩),Option.or_none]
theorem AJ(b c:Bool):t7 (.str (p7 b)) (.str (p7 c))= .ok (.bl (b==c)):=by
 show R.ok (D.bl (p7 b==p7 c))=_;congr 2;have:∀b c:Bool,(p7 b==p7 c)=(b==c):=by decide+kernel
 exact this b c
theorem F8(s:Bool)(l:List ((Str × Nat) × Nat))(n:Nat):(bM s l++jn s n).filter (fun x=>x.2.1==false)=bM s l:=by
 rw[List.filter_append,List.filter_eq_self.mpr fun x hx=>by rw[(d_ hx).2.1];rfl,List.filter_eq_nil_iff.mpr fun x hx=>by rw[(dy hx).2];decide,List.append_nil]
theorem tG(s:Bool)(l:List ((Str × Nat) × Nat))(n:Nat):(bM s l++jn s n).filter (fun x=>x.2.1==true)=jn s n:=by
 rw[List.filter_append,List.filter_eq_nil_iff.mpr fun x hx=>by rw[(d_ hx).2.1];decide,List.filter_eq_self.mpr fun x hx=>by rw[(dy hx).2];rfl,List.nil_append]
theorem qQ{s:Bool}{q:Nat->Bool}:∀l:List ((Str × Nat) × Nat),(bM s l).filter (fun x=>q x.2.2.1)=bM s (l.filter fun x=>q x.2)
 | []=>rfl
 | x ::l=>by
   rw[fg,List.filter_append,qQ l,List.filter_cons];cases h:q x.2 with
   | true=>
     rw[if_pos rfl,fg,List.filter_eq_self.mpr fun y hy=>by obtain⟨k,_,rfl⟩:=List.mem_map.mp hy;exact h]
   | false=>
     rw[if_neg (by decide),List.filter_eq_nil_iff.mpr fun y hy=>by obtain⟨k,_,rfl⟩:=List.mem_map.mp hy;rw [h];decide,List.nil_append]
theorem z0(s:Bool)(ins:Tj)(n:Nat)(pairs:List (Nat × Nat)):(b0 s ins n).filter (fun x=>(x.2.1==false) && !(pairs.map (·.2)).contains x.2.2.1)=bM s (ins.zipIdx.filter fun x=>(bq pairs x.2).isNone):=by
 unfold b0;rw[List.filter_append,List.filter_eq_nil_iff.mpr (fun x (hx:x∈jn s n)=>by rw[(dy hx).2];intro z;cases z),List.append_nil]
 rw[List.filter_congr (q:=fun x=>(fun p=>!(pairs.map (·.2)).contains p) x.2.2.1) (fun x hx=>by rw[(d_ hx).2.1];rfl),qQ (q:=fun p=>!(pairs.map (·.2)).contains p)]
 congr 2;funext x;rw[lE]
theorem Bc(ins:Tj)(pairs:List (Nat × Nat)):((List.range ins.length).filter fun p=>!(pairs.map (·.2)).contains p).map (fun p=>ins.getD p (Str.empty,0))=dZ pairs ins:=by
 have e:ins.zipIdx=(List.range ins.length).map fun p=>(ins.getD p (Str.empty,0),p):=List.ext_getElem? fun i=>by
  rw[List.getElem?_zipIdx,List.getElem?_map];by_cases h:i < ins.length
  .rw [List.getElem?_range h,List.getElem?_eq_getElem h];show some (ins[i],0+i)=some (ins.getD i _,i);rw[Nat.zero_add,List.getD_eq_getElem?_getD,List.getElem?_eq_getElem h];rfl
  .rw [List.getElem?_eq_none (by omega),List.getElem?_eq_none (by simpa using h)];rfl
 unfold dZ;rw[e,List.filter_map,List.map_map];congr 1;refine List.filter_congr fun p _=>?_
 show _=(bq pairs p).isNone;rw[lE]
end
end K34
end
section
namespace K34
open PySem PySem.Spec PyProof.Rows L2 L3 MT JT
structure Wr (labels own:List Lb) (F:Lb->Option Lb) (kvs:List (List Key × D)) (J:Nat->Nat):Prop where
 nd:labels.Nodup
 ll:labels.length < 100000
 fd:Fd F kvs
 at':∀w,w < own.length->labels[J w]? =some ((F (own.getD w qz)).getD (own.getD w qz))
section
variable {S T:bc} {A B P:D} {labels own:List Lb} {F:Lb->Option Lb} {kvs:List (List Key × D)} {J:Nat->Nat} {x3 x4 x6 x7 x8 x9 x10 x11 pW x14 p8 n9 n8 p9 ye sW rm:Option V3}
theorem E9{w:Nat}(hw:w < own.length):bJ (.lst (own.map b6)) (nI w)= .ok (b6 (own.getD w qz)):=NT.d6 (by rw[List.getElem?_map,List.getElem?_eq_getElem hw,List.getD_eq_getElem?_getD,List.getElem?_eq_getElem hw];rfl)
def sm(F:Lb->Option Lb)(own:List Lb)(w:Nat):Lb:=(F (own.getD w qz)).getD (own.getD w qz)
theorem wF{ws:List Nat}(hF:Fd F kvs)(hw:∀w∈ws,w < own.length)(hl:ws.length < 1000){Q:V3->bc->Prop}(h:Q (.d (.lst ((ws.map (sm F own)).map b6))) (S++ .dcT kvs ::T)) :
 W3 (fX (iP (bV (af 18))) (gG 0) oU (lh 1 (e2 bJ (af 2) (af 0)) (e2 bJ (af 2) (af 0))) [(Str.ofString "wire")] [5,16] (uE A B P x3 x4 (some (.loc S.length)) x6 x7 x8 x9 x10 x11 pW (some (.d (.lst (labels.map b6)))) x14 p8 (some (.d (.lst (own.map b6)))) n9 (some (.d (.tup (ws.map nI)))) n8 p9 ye sW rm) (S++ .dcT kvs ::T)) Q:=by
 have hz:sizeLine=16777216:=sizeLine_eq;refine fY (fun j ds S2=>S2=S++ .dcT kvs ::T/\ds=((ws.take j).map (sm F own)).map b6) <| hV (ds:=ws.map nI) (vy rfl) ⟨by rw[List.length_map,List.length_map];omega,⟨rfl,rfl⟩,?_,?_⟩
 .rintro j v ds S2 hv ⟨rfl,rfl⟩;obtain⟨w,hx,rfl⟩:=NT.dn hv;have J5:=hw w (List.mem_of_getElem? hx);refine⟨[some (.d (nI w)),some (.loc S.length),some (.d (.lst (own.map b6)))],rfl,pj ?_⟩;rw[if_pos rfl];have ex:e2 bJ (af 2) (af 0) (down [some (.d (nI w)),some (.loc S.length),some (.d (.lst (own.map b6)))])= .ok (b6 (own.getD w qz)):=aw (a:= .lst (own.map b6)) (b:=nI w) rfl rfl (E9 J5);refine CZ (k:=S.length) (kvs:=kvs) (ks:=EO (own.getD w qz)) rfl (LB _ _ _) ex (CT _) ex ?_;refine⟨b6 (sm F own w),?_,rfl,?_⟩
  .rw [hF];unfold sm;cases F (own.getD w qz) <;> rfl
  .rw [List.take_add_one,hx,List.map_append,List.map_append];rfl
 .rintro ds S2 ⟨rfl,rfl⟩;rw[List.length_map,List.length_map,List.take_length];exact h
theorem Gm{g:D->List D->R D}{f:FD}{fs:aq->R (List D)}{δ:aq}{l ds:List D}{r:R D}(h:f δ= .ok (.lst l))(h2:fs δ= .ok ds)(h3:g (.lst l) ds=r):Gg "list" g f fs δ=r:=by
 unfold Gg;rw[h,R.aM,show(tyName (.lst l)=="list" && ((D.lst l).atom || "list"=="list"))=true from rfl]
 show(fs δ).bind _=_;rw[h2,R.aM];exact h3
theorem tE{ws:List Nat}(W:Wr labels own F kvs J)(hw:∀w∈ws,w < own.length)(hl:ws.length < 1000){δ:aq}(OA:af 20 δ= .ok (.lst ((ws.map (sm F own)).map b6)))(MH:oq [(Str.ofString "label")] [13] δ=[.un, .val (.lst (labels.map b6))]) :
 aG iR (ag (eNew (cb (bV (af 20)) (aJ 0) fS (Gg "list" iM (af 1) (ag (af 0) aD)) [(Str.ofString "label")] [13])) aD) δ= .ok (.tup ((ws.map J).map nI)):=by
 have hz:sizeLine=16777216:=sizeLine_eq;refine av (ds:=[.lst ((ws.map J).map nI)]) (ao (bE (bK (ds:=ws.map fun w=>b6 (sm F own w)) (by rw[List.map_map] at OA;exact gp OA) (by rw[List.length_map];omega) ?_)) rfl) rfl
 rw[List.map_map,MH];exact NT.bw _ _ fun w hx=>⟨[.val (b6 (sm F own w)), .val (.lst (labels.map b6))],rfl,rfl,Gm (l:=labels.map b6) (ds:=[b6 (sm F own w)]) rfl rfl (F9 W.nd (W.at' w (hw w hx)) (by have:=W.ll;omega))⟩
theorem Bb{g:Gt}{G:List Gt}(W:Wr labels own F kvs J)(hw:∀w∈g.2.1,w < own.length)(hl:g.2.1.length < 1000)(hG:G.length < 10000) :
 W3 (ju (uE A B P x3 x4 (some (.loc S.length)) x6 x7 x8 x9 x10 x11 pW (some (.d (.lst (labels.map b6)))) (some (.loc (S.length+1))) p8 (some (.d (.lst (own.map b6)))) (some (.d (.str (kS g.1)))) (some (.d (.tup (g.2.1.map nI)))) (some (.d (.bl g.2.2))) p9 ye sW rm) (S++[.dcT kvs, .lst (G.map c9)])) fun o S2=>∃pU,
  o= .nx (uE A B P x3 x4 (some (.loc S.length)) x6 x7 x8 x9 x10 x11 pW (some (.d (.lst (labels.map b6)))) (some (.loc (S.length+1))) p8 (some (.d (.lst (own.map b6)))) (some (.d (.str (kS g.1)))) (some (.d (.tup (g.2.1.map nI)))) (some (.d (.bl g.2.2))) pU ye sW rm)/\S2=S++[SO.dcT kvs,SO.lst ((G++[eA J g]).map c9)]:=by
 have hz:sizeLine=16777216:=sizeLine_eq;unfold ju;refine aZ <| bG (by simp) <| wF W.fd hw hl ⟨_,rfl,?_⟩
 simp only[List.set];have g1:(S++[SO.dcT kvs,SO.lst (G.map c9)])[S.length+1]? =some (.lst (G.map c9)):=by rw[List.getElem?_append_right (by omega),show S.length+1 - S.length=1 by omega];rfl
 refine nh (k:=S.length+1) rfl ⟨_,g1⟩ (cX (d:=c9 (eA J g)) (bb (ds:=[.str (kS g.1), .tup ((g.2.1.map J).map nI), .bl g.2.2]) (ao rfl (ao (tE W hw hl rfl rfl) (ao rfl rfl))) (by simp;omega)) ⟨_,_,rfl,g1,by rw[List.length_map];omega,_,rfl,?_⟩)
 rw[List.set_append_right _ _ (by omega),show S.length+1 - S.length=1 by omega,List.map_append];rfl
theorem q0{ins:Tj}{gs:List Gt}{os:Tn}{G:List Gt}{sQ:Option V3}(W:Wr labels own F kvs J)(hw:∀g∈gs,(∀w∈g.2.1,w < own.length)/\g.2.1.length < 1000)(hG:G.length+gs.length < 10000) :
 W3 (jC (uE A B P x3 x4 (some (.loc S.length)) x6 x7 x8 x9 x10 x11 pW (some (.d (.lst (labels.map b6)))) (some (.loc (S.length+1))) (some (.d (au ins gs os))) (some (.d (.lst (own.map b6)))) n9 sQ n8 p9 ye sW rm) (S++[.dcT kvs, .lst (G.map c9)])) fun o S2=>∃ES va EX pU,
  o= .nx (uE A B P x3 x4 (some (.loc S.length)) x6 x7 x8 x9 x10 x11 pW (some (.d (.lst (labels.map b6)))) (some (.loc (S.length+1))) (some (.d (au ins gs os))) (some (.d (.lst (own.map b6)))) ES va EX pU ye sW rm)/\S2=S++[SO.dcT kvs,SO.lst ((G++gs.map (eA J)).map c9)]:=by
 unfold jC;refine ik <| hV (ds:=gs.map c9) rfl ?_
 refine(cy (fun j δ S2=>∃ES va EX pU,δ=uE A B P x3 x4 (some (.loc S.length)) x6 x7 x8 x9 x10 x11 pW (some (.d (.lst (labels.map b6)))) (some (.loc (S.length+1))) (some (.d (au ins gs os))) (some (.d (.lst (own.map b6)))) ES va EX pU ye sW rm/\S2=S++[SO.dcT kvs,SO.lst ((G++(gs.take j).map (eA J)).map c9)])
  ⟨_,_,_,_,rfl,by rw[List.take_zero,List.map_nil,List.append_nil]⟩ ?_).mono fun o S2 ⟨e8,iG,ES,va,EX,pU,hδ,nS⟩=>⟨ES,va,EX,pU,by rw[iG,hδ],by rw[nS,List.length_map,List.length_map,List.take_length]⟩
 rintro j v δ S2 hv ⟨ES,va,EX,pU,rfl,rfl⟩;obtain⟨g,hx,rfl⟩:=NT.dn hv;obtain⟨h1,h2⟩:=hw g (List.mem_of_getElem? hx);have hjl:=(List.getElem?_eq_some_iff.mp hx).1;refine⟨_,rfl,(Bb (G:=G++(gs.take j).map (eA J)) W h1 h2 (by rw[List.length_append,List.length_map,List.length_take];omega)).mono fun o S3 ⟨pU,e1,e3⟩=>⟨_,e1,_,_,_,_,rfl,?_⟩⟩
 rw[e3,List.take_add_one,hx,List.map_append (f:=eA J),List.append_assoc];rfl
end
section
variable {S:bc} {A B P:D} {labels own:List Lb} {F:Lb->Option Lb} {kvs:List (List Key × D)} {J:Nat->Nat} {x3 x4 x6 x7 x8 x9 x10 x11 pW x14 p8 n9 n8 p9 rm:Option V3}
theorem CP{x:Str × List Nat}{G:Tn}{k:Nat}{gone:List Nat}(W:Wr labels own F kvs J)(hw:∀w∈x.2,w < own.length)(hl:x.2.length < 1000)(hG:G.length < 10000) :
 W3 (jR (uE A B P x3 x4 (some (.loc S.length)) x6 (some (.d (nI k))) x8 x9 x10 x11 pW (some (.d (.lst (labels.map b6)))) x14 p8 (some (.d (.lst (own.map b6)))) n9 (some (.d (.tup (x.2.map nI)))) n8 p9 (some (.loc (S.length+2))) (some (.d (.lst (gone.map nI)))) (some (.d (.str x.1)))) (S++[.dcT kvs, .ft, .lst (G.map dq)])) fun o S2=>∃pU,
  o= .nx (uE A B P x3 x4 (some (.loc S.length)) x6 (some (.d (nI k))) x8 x9 x10 x11 pW (some (.d (.lst (labels.map b6)))) x14 p8 (some (.d (.lst (own.map b6)))) n9 (some (.d (.tup (x.2.map nI)))) n8 pU (some (.loc (S.length+2))) (some (.d (.lst (gone.map nI)))) (some (.d (.str x.1))))/\S2=S++[SO.dcT kvs,SO.ft,SO.lst ((if !gone.contains k then G++[dO J x] else G).map dq)]:=by
 have hz:sizeLine=16777216:=sizeLine_eq;unfold jR;refine aZ <| bG (by simp) <| wF W.fd hw hl ⟨_,rfl,?_⟩
 simp only[List.set];have g1:(S++[SO.dcT kvs,SO.ft,SO.lst (G.map dq)])[S.length+2]? =some (.lst (G.map dq)):=by rw[List.getElem?_append_right (by omega),show S.length+2 - S.length=2 by omega];rfl
 refine rV <| uT (b:=!gone.contains k) (cE (a:=nI k) (b:= .lst (gone.map nI)) rfl rfl (n6 k gone)) ?_
 cases hc:!gone.contains k with
 | false=>rw [if_neg (by decide)];exact iY ⟨_,rfl,by rw[if_neg (by decide)]⟩
 | true=>
   rw[if_pos rfl];refine nh (k:=S.length+2) rfl ⟨_,g1⟩ (cX (d:=dq (dO J x)) (bb (ds:=[.str x.1, .tup ((x.2.map J).map nI)]) (ao rfl (ao (tE W hw hl rfl rfl) rfl)) (by simp;omega)) ⟨_,_,rfl,g1,by rw[List.length_map];omega,_,rfl,?_⟩)
   rw[List.set_append_right _ _ (by omega),show S.length+2 - S.length=2 by omega,if_pos rfl,List.map_append];rfl
def dM(gone:List Nat)(J:Nat->Nat)(l:List ((Str × List Nat) × Nat)):Tn:=(l.filter fun x=>!gone.contains x.2).map fun x=>dO J x.1
theorem wj(gone:List Nat)(J:Nat->Nat)(l:List ((Str × List Nat) × Nat))(x:Str × List Nat)(k:Nat):dM gone J (l++[(x,k)])=if !gone.contains k then dM gone J l++[dO J x] else dM gone J l:=by
 unfold dM;rw[List.filter_append,List.map_append];cases hc:!gone.contains k with
 | true=>rw [if_pos rfl,List.filter_cons,if_pos hc];rfl
 | false=>rw [if_neg (by decide),List.filter_cons,if_neg (by rw[hc];decide),List.filter_nil,List.map_nil,List.append_nil]
theorem tq{ins:Tj}{gs:List Gt}{os:Tn}{G:Tn}{gone:List Nat}{sQ:Option V3}(W:Wr labels own F kvs J)(hw:∀x∈os,x.2.length < 1000/\∀w∈x.2,w < own.length)(hG:G.length+os.length < 10000) :
 W3 (jy (uE A B P x3 x4 (some (.loc S.length)) x6 x7 x8 x9 x10 x11 pW (some (.d (.lst (labels.map b6)))) x14 (some (.d (au ins gs os))) (some (.d (.lst (own.map b6)))) n9 sQ n8 p9 (some (.loc (S.length+2))) (some (.d (.lst (gone.map nI)))) rm) (S++[.dcT kvs, .ft, .lst (G.map dq)])) fun o S2=>∃y7 va pU EY,
  o= .nx (uE A B P x3 x4 (some (.loc S.length)) x6 y7 x8 x9 x10 x11 pW (some (.d (.lst (labels.map b6)))) x14 (some (.d (au ins gs os))) (some (.d (.lst (own.map b6)))) n9 va n8 pU (some (.loc (S.length+2))) (some (.d (.lst (gone.map nI)))) EY)/\S2=S++[SO.dcT kvs,SO.ft,SO.lst ((G++dM gone J os.zipIdx).map dq)]:=by
 unfold jy;refine ik <| hV (ds:=os.zipIdx.map fun x=>D.tup [.int x.2,dq x.1]) (by rw[<-oE dq];rfl) ?_
 refine(cy (fun j δ S2=>∃y7 va pU EY,δ=uE A B P x3 x4 (some (.loc S.length)) x6 y7 x8 x9 x10 x11 pW (some (.d (.lst (labels.map b6)))) x14 (some (.d (au ins gs os))) (some (.d (.lst (own.map b6)))) n9 va n8 pU (some (.loc (S.length+2))) (some (.d (.lst (gone.map nI)))) EY/\S2=S++[SO.dcT kvs,SO.ft,SO.lst ((G++dM gone J (os.zipIdx.take j)).map dq)])
  ⟨_,_,_,_,rfl,by rw[List.take_zero];unfold dM;rw [List.filter_nil,List.map_nil,List.append_nil]⟩ ?_).mono fun o S2 ⟨e8,iG,y7,va,pU,EY,hδ,nS⟩=>⟨y7,va,pU,EY,by rw[iG,hδ],by rw[nS,List.length_map,List.length_map,List.take_length]⟩
 rintro j v δ S2 hv ⟨y7,va,pU,EY,rfl,rfl⟩;obtain⟨⟨x,k⟩,hx,rfl⟩:=NT.dn hv;obtain⟨h1,h2⟩:=hw x (List.mem_of_getElem? (List.mem_zipIdx_iff_getElem?.mp (List.mem_of_getElem? hx)));have hkl:(dM gone J (os.zipIdx.take j)).length<=os.length:=by
  unfold dM;rw[List.length_map];exact Nat.le_trans (List.length_filter_le _ _) mD
 refine⟨_,rfl,(CP (x:=x) (k:=k) (gone:=gone) (G:=G++dM gone J (os.zipIdx.take j)) W h2 h1 (by rw[List.length_append];omega)).mono fun o S3 ⟨pU,e1,e3⟩=>⟨_,e1,_,_,_,_,rfl,?_⟩⟩
 rw[e3,uI hx,wj];cases hc:!gone.contains k with
 | true=>rw [if_pos rfl,if_pos rfl,List.append_assoc]
 | false=>rw [if_neg (by decide),if_neg (by decide)]
end
end K34
end
section
namespace K34
open PySem PySem.Spec PyProof.Rows L2 L3 MT JT
theorem Cg{δ:DE}{S:bc}{QV:V3->bc->Prop}(h:QV (.loc S.length) (S++[.dcT []])):W3 (v8 δ S) QV:=W3.ok h
theorem vR{s:Bool}{ins:Tj}{n:Nat}{x:Lb}(h:x∈b0 s ins n):x.1=s:=by
 rcases List.mem_append.mp h with z | z
 .exact(d_ z).1
 .exact(dy z).1
theorem getD_at{l:List Lb}{w:Nat}(h:w < l.length):l[w]? =some (l.getD w qz)/\l.getD w qz∈l:=by
 rw[List.getD_eq_getElem?_getD,List.getElem?_eq_getElem h];exact⟨rfl,List.getElem_mem h⟩
section
variable {ai ae:Tj} {gs1 gs2:List Gt} {aF os2:Tn} {pairs:List (Nat × Nat)} {S:bc} {kvs:List (List Key × D)}
theorem sr(N1:dm ai gs1 aF)(N2:dm ae gs2 os2):(lj ai ae gs1.length gs2.length pairs).length < 100000:=by
 rw[u_];have h1:=jr N1.hw;have h2:=N1.hi;have h3:=N1.hg;have h4:=N2.hg;have h5:bt (dN pairs ae)<=100*ae.length:=by
  have:=jD (φ:=dN pairs ae) fun x hx=>by
   unfold dN at hx;obtain⟨⟨y,k⟩,hy,rfl⟩:=List.mem_map.mp hx;rw[List.mem_zipIdx_iff_getElem?] at hy;exact N2.hw y (List.mem_of_getElem? hy)
  rwa [lU] at this
 have h6:=N2.hi;omega
theorem Gv(N1:dm ai gs1 aF)(N2:dm ae gs2 os2)(hF:Fd (fW pairs aF (b0 false ai gs1.length)) kvs):Wr (lj ai ae gs1.length gs2.length pairs) (b0 false ai gs1.length) (fW pairs aF (b0 false ai gs1.length)) kvs (pT ai ae pairs):=by
 refine⟨xA _ _ _ _ _,sr N1 N2,hF,fun w hw=>?_⟩
 obtain⟨h1,h2⟩:=getD_at hw;rw[AZ (by rw[iy] at hw;exact hw),h1]
 have:=C1 pairs aF (b0 false ai gs1.length) (vR h2);unfold nM at this;rw[this]
theorem GZ(N1:dm ai gs1 aF)(N2:dm ae gs2 os2)(F:Fits aF ae pairs)(hF:Fd (fW pairs aF (b0 false ai gs1.length)) kvs):Wr (lj ai ae gs1.length gs2.length pairs) (b0 true ae gs2.length) (fW pairs aF (b0 false ai gs1.length)) kvs (xp ai ae gs1 aF pairs):=by
 refine⟨xA _ _ _ _ _,sr N1 N2,hF,fun w hw=>?_⟩
 obtain⟨h1,h2⟩:=getD_at hw;rw[Hq N1 F (by rw[iy] at hw;exact hw),h1];rfl
theorem yY:dM (pairs.map (·.1)) (pT ai ae pairs) aF.zipIdx=(eR pairs aF).map (dO (pT ai ae pairs)):=by
 unfold dM eR;rw[List.map_map];rfl
theorem yk{J:Nat->Nat}:dM [] J os2.zipIdx=os2.map (dO J):=by
 unfold dM;have e:(os2.zipIdx.filter fun x=>!([]:List Nat).contains x.2)=os2.zipIdx:=List.filter_eq_self.mpr fun _ _=>rfl
 rw[e,show(fun x:(Str × List Nat) × Nat=>dO J x.1)=dO J ∘ (·.1) from rfl,<-List.map_map,xn]
theorem CM(N1:dm ai gs1 aF)(F:Fits aF ae pairs)(hn:(pairs.map (·.2)).Nodup)(hl:pairs.length < 100){B:D}{x4 x6 x7 x8 x9:Option V3} :
 W3 (jT (iP (bV (af 2))) (vh 2 (lu (gG 6) (lu (gG 7) vz))) gP (uE (au ai gs1 aF) B (.lst (pairs.map d5)) (some (.d (.lst ((b0 false ai gs1.length).map b6)))) x4 (some (.loc S.length)) x6 x7 x8 x9 none none none none none none none none none none none none none none) (S++[.dcT []])) fun o S2=>∃x6 x7 x8 x9 kvs,
  o= .nx (uE (au ai gs1 aF) B (.lst (pairs.map d5)) (some (.d (.lst ((b0 false ai gs1.length).map b6)))) x4 (some (.loc S.length)) x6 x7 x8 x9 none none none none none none none none none none none none none none)/\S2=S++[SO.dcT kvs]/\Fd (fW pairs aF (b0 false ai gs1.length)) kvs:=by
 refine ik <| hV (ds:=pairs.map d5) rfl ?_
 refine(cy (fun i δ S2=>∃x6 x7 x8 x9 kvs,δ=uE (au ai gs1 aF) B (.lst (pairs.map d5)) (some (.d (.lst ((b0 false ai gs1.length).map b6)))) x4 (some (.loc S.length)) x6 x7 x8 x9 none none none none none none none none none none none none none none/\S2=S++[SO.dcT kvs]/\kvs.length<=1000*i/\Fd (fW (pairs.take i) aF (b0 false ai gs1.length)) kvs)
  ⟨_,_,_,_,[],rfl,rfl,Nat.le_refl _,fun l=>?_⟩ ?_).mono fun o S2 ⟨e8,iG,x6,x7,x8,x9,kvs,hδ,nS,hkl,hFd⟩=>⟨x6,x7,x8,x9,kvs,by rw[iG,hδ],nS,by rw[List.length_map,List.length_map,List.take_length] at hFd;exact hFd⟩
 .unfold fW;split <;> rfl
 rintro i v δ S2 hv ⟨x6,x7,x8,x9,kvs,rfl,rfl,hkl,hFd⟩;obtain⟨⟨o,p⟩,hq,rfl⟩:=NT.dn hv;have hil:=(List.getElem?_eq_some_iff.mp hq).1;obtain⟨y,z,h1,h2,h3⟩:=F _ (List.mem_of_getElem? hq);have h1:aF[o]? =some y:=h1;have hno:bq (pairs.take i) p=none:=uz (lC hn hq);obtain⟨n1,n2⟩:=N1.o y (List.mem_of_getElem? h1);refine⟨_,rfl,(zY (o:=o) (p:=p) h1 (fun w hw=>by rw[iy];exact n2 w hw) n1 (by omega) hFd fun k=>vx hno).mono fun ou S3 ⟨y8,y9,nT,e1,e3,e4,e5⟩=>⟨_,e1,_,_,_,_,nT,rfl,e3,by omega,?_⟩⟩
 have hos:jt aF o=y.2:=by unfold jt;rw [List.getD_eq_getElem?_getD,h1];rfl
 rw[<-hos,vj hno] at e5;rw[List.take_add_one,hq];exact e5
end
end K34
end
section
namespace K34
open PySem PySem.Spec PyProof.Rows L2 L3 MT JT
section
variable {ai ae:Tj} {gs1 gs2:List Gt} {aF os2:Tn} {pairs:List (Nat × Nat)} {S:bc}
theorem FL(N1:dm ai gs1 aF)(N2:dm ae gs2 os2)(F:Fits aF ae pairs)(hn:(pairs.map (·.2)).Nodup)(hS:Hn S){Q:V3->bc->Prop}(h:Q (.d (au (jI ai ae pairs) (jG ai ae gs1 gs2 aF pairs) (jO ai ae gs1 aF os2 pairs))) S) :
 W3 (iU [.d (au ai gs1 aF), .d (au ae gs2 os2), .d (.lst (pairs.map d5))] S) Q:=by
 have hz:sizeLine=16777216:=sizeLine_eq;have KD:=jr N1.hw;have Ky:=jr N2.hw;have HE:=N1.hi;have Ie:=N1.hg;have MH:=N1.ho;have h21:=N2.hi;have h22:=N2.hg;have h23:=N2.ho;have j5:pairs.length < 100:=by
  have:=oh (n:=ae.length) hn fun x hx=>by
   obtain⟨q,hq,rfl⟩:=List.mem_map.mp hx;obtain⟨_,y,_,hy,_⟩:=F q hq;exact(List.getElem?_eq_some_iff.mp hy).1
  rw[List.length_map] at this;omega
 have OE:=iy false ai gs1.length;have EZ:=iy true ae gs2.length;have hlb:=sr (pairs:=pairs) N1 N2;unfold iU;refine oi hS (HU rfl ?_);simp only[eE,kj,List.map,List.length,List.replicate,List.cons_append,List.nil_append,Nat.reduceAdd,Nat.reduceSub];unfold mT;refine aZ <| bG (by simp) <| cX (d:= .lst ((b0 false ai gs1.length).map b6)) (av (ds:=[au ai gs1 aF, .str (sO false)]) rfl (qB N1)) ⟨_,rfl,?_⟩
 simp only[List.set];refine aZ <| bG (by simp) <| cX (d:= .lst ((b0 true ae gs2.length).map b6)) (av (ds:=[au ae gs2 os2, .str (sO true)]) rfl (qB N2)) ⟨_,rfl,?_⟩
 simp only[List.set];refine aZ <| bG (by simp) <| Cg ⟨_,rfl,?_⟩
 simp only[List.set];refine aZ <| (CM N1 F hn j5).mono fun o S2 ⟨x6,x7,x8,x9,kvs,e1,e2,hFd⟩=>⟨_,e1,?_⟩
 subst e2;refine aZ <| bG (by simp) <| cX (d:= .lst ((pairs.map (·.2)).map nI)) (bE (bK (ds:=pairs.map d5) rfl (by rw[List.length_map];omega) (by rw[List.map_map];exact NT.bw d5 _ fun q hq=>⟨[.val (nI q.1), .val (nI q.2)],rfl,rfl,rfl⟩))) ⟨_,rfl,?_⟩
 simp only[List.set];refine aZ <| bG (by simp) <| fY (fun j ds S2=>S2=S++[.dcT kvs]/\ds=((pairs.take j).map (·.1)).map nI) <| hV (ds:=pairs.map d5) rfl ⟨by rw[List.length_map,List.length_map];omega,⟨rfl,rfl⟩,?_,?_⟩
 .rintro j v ds S2 hv ⟨rfl,rfl⟩;obtain⟨q,hx,rfl⟩:=NT.dn hv;refine⟨[some (.d (nI q.1)),some (.d (nI q.2))],rfl,pj ?_⟩;rw[if_pos rfl];exact cX (d:=nI q.1) rfl ⟨_,rfl,rfl,by rw[List.take_add_one,hx,List.map_append,List.map_append];rfl⟩
 rintro ds S2 ⟨e2,e3⟩;rw[List.length_map,List.length_map,List.take_length] at e3;subst e2 e3;refine⟨_,rfl,?_⟩;simp only[List.set];refine aZ <| bG (by simp) <| cX (d:= .lst (ai.map MT.inD)) (av (ds:=[.lst (ai.map MT.inD)]) rfl rfl) ⟨_,rfl,?_⟩
 simp only[List.set];refine aZ <| bG (by simp) <| cX (d:= .lst ((bM false ai.zipIdx).map b6)) (bE (bK (ds:=(b0 false ai gs1.length).map b6) rfl (by rw[List.length_map];omega) ((NT.fq (fun x=>x.2.1==false) b6 b6 fun x hx=>⟨[.val (b6 x)],rfl,cE (a:= .str (p7 x.2.1)) (b:= .str (p7 false)) (aw (a:=b6 x) (b:= .int 1) rfl rfl rfl) rfl (AJ _ _),fun _=>rfl⟩).trans (by unfold b0;rw [F8])))) ⟨_,rfl,?_⟩
 simp only[List.set];have Ea:=fm false ai;have HN:=mz ae pairs;rw[u_] at hlb;refine aZ <| bG (by simp) <| cX (d:= .lst ((bM false ai.zipIdx).map b6++(bM true (ae.zipIdx.filter fun x=>(bq pairs x.2).isNone)).map b6)) (aw (a:= .lst ((bM false ai.zipIdx).map b6)) (b:= .lst ((bM true (ae.zipIdx.filter fun x=>(bq pairs x.2).isNone)).map b6)) rfl (bE (bK (ds:=(b0 true ae gs2.length).map b6) rfl (by rw[List.length_map];omega) ((NT.fq (fun x=>(x.2.1==false) && !(pairs.map (·.2)).contains x.2.2.1) b6 b6 fun x hx=>⟨[.val (b6 x), .val (.lst ((pairs.map (·.2)).map nI))],rfl,?_,fun _=>rfl⟩).trans (by rw[z0])))) (qd (by rw[List.length_map,List.length_map];omega))) ⟨_,rfl,?_⟩
 .unfold yK;rw[cE (a:= .str (p7 x.2.1)) (b:= .str (p7 false)) (aw (a:=b6 x) (b:= .int 1) rfl rfl rfl) rfl (AJ _ _),R.aM];cases x.2.1==false with
  | false=>rfl
  | true=>
    rw[if_pos rfl,Bool.true_and];exact cE (a:=nI x.2.2.1) (b:= .lst ((pairs.map fun q:Nat × Nat=>q.2).map nI)) (aw (a:=b6 x) (b:= .int 2) rfl rfl rfl) rfl (n6 x.2.2.1 (pairs.map fun q:Nat × Nat=>q.2))
 simp only[List.set];have hll:(dZ pairs ae).length<=ae.length:=by
  unfold dZ;rw[List.length_map];have:=List.length_filter_le (fun x:(Str × Nat) × Nat=>(bq pairs x.2).isNone) ae.zipIdx
  rwa [List.length_zipIdx] at this
 refine aZ <| bG (by simp) <| cX (d:= .lst ((jI ai ae pairs).map MT.inD)) (aw (a:= .lst (ai.map MT.inD)) (b:= .lst ((dZ pairs ae).map MT.inD)) rfl (bE (bK (jk (n:=ae.length) (av (ds:=[.lst (ae.map MT.inD)]) rfl (by rw[dv,List.length_map])) (by omega)) (by rw[List.length_map,List.length_range];omega) ((NT.fq (fun p=>!(pairs.map (·.2)).contains p) nI (fun p=>MT.inD (ae.getD p (Str.empty,0))) fun p hp=>⟨[.val (nI p), .val (au ae gs2 os2), .val (.lst ((pairs.map (·.2)).map nI))],rfl,cE (a:=nI p) (b:= .lst ((pairs.map (·.2)).map nI)) rfl rfl (n6 _ _),fun _=>aw (a:= .lst (ae.map MT.inD)) (b:=nI p) (aw (a:=au ae gs2 os2) (b:= .int 0) rfl rfl rfl) rfl (NT.d6 ?_)⟩).trans (by rw[<-Bc,List.map_map];rfl)))) ((qd (by rw[List.length_map,List.length_map];omega)).trans (by unfold jI;rw [List.map_append]))) ⟨_,rfl,?_⟩
 .have Kv:=List.mem_range.mp hp;rw[List.getElem?_map,List.getElem?_eq_getElem Kv,List.getD_eq_getElem?_getD,List.getElem?_eq_getElem Kv];rfl
 simp only[List.set];refine aZ <| bG (by simp) <| cX (d:= .lst ((lj ai ae gs1.length gs2.length pairs).map b6)) (aw (a:= .lst ((bM false ai.zipIdx).map b6++(bM true (ae.zipIdx.filter fun x=>(bq pairs x.2).isNone)).map b6)) (b:= .lst ((jn false gs1.length++jn true gs2.length).map b6)) rfl (bE (bK (ds:=(b0 false ai gs1.length++b0 true ae gs2.length).map b6) (gp (aw (a:= .lst ((b0 false ai gs1.length).map b6)) (b:= .lst ((b0 true ae gs2.length).map b6)) rfl rfl ((qd (by rw[List.length_map,List.length_map];omega)).trans (by rw[List.map_append])))) (by rw[List.length_map,List.length_append];omega) ((NT.fq (fun x=>x.2.1==true) b6 b6 fun x hx=>⟨[.val (b6 x)],rfl,cE (a:= .str (p7 x.2.1)) (b:= .str (p7 true)) (aw (a:=b6 x) (b:= .int 1) rfl rfl rfl) rfl (AJ _ _),fun _=>rfl⟩).trans (by unfold b0;rw [List.filter_append,tG,tG])))) ((qd (by rw[List.length_append,List.length_map,List.length_map,List.length_map,List.length_append,dX,dX];omega)).trans (by unfold lj;rw [List.append_assoc,<-List.map_append,<-List.map_append]))) ⟨_,rfl,?_⟩
 simp only[List.set];have W1:=Gv N1 N2 hFd;have W2:=GZ N1 N2 F hFd;generalize lj ai ae gs1.length gs2.length pairs=labels at W1 W2;refine aZ <| bG (by simp) <| ug (ds:=([]:List Gt).map c9) rfl ⟨_,rfl,?_⟩
 rw[show S++[SO.dcT kvs]++[SO.lst (([]:List Gt).map c9)]=S++[SO.dcT kvs,SO.lst (([]:List Gt).map c9)] by rw[List.append_assoc];rfl,List.length_append,List.length_singleton]
 simp only[List.set];have g1:∀g∈gs1,(∀n∈g.2.1,n < (b0 false ai gs1.length).length)/\g.2.1.length < 1000:=fun g hg=>by
  obtain⟨i,hi⟩:=List.getElem?_of_mem hg;have hil:=(List.getElem?_eq_some_iff.mp hi).1;obtain⟨a,b,c⟩:=N1.g i g hi;have:=qP g.1;exact⟨fun n hn=>by have:=c n hn;omega,by omega⟩
 have g2:∀g∈gs2,(∀n∈g.2.1,n < (b0 true ae gs2.length).length)/\g.2.1.length < 1000:=fun g hg=>by
  obtain⟨i,hi⟩:=List.getElem?_of_mem hg;have hil:=(List.getElem?_eq_some_iff.mp hi).1;obtain⟨a,b,c⟩:=N2.g i g hi;have:=qP g.1;exact⟨fun n hn=>by have:=c n hn;omega,by omega⟩
 have o1:∀x∈aF,x.2.length < 1000/\∀w∈x.2,w < (b0 false ai gs1.length).length:=fun x hx=>by rw[OE];exact N1.o x hx
 have o2:∀x∈os2,x.2.length < 1000/\∀w∈x.2,w < (b0 true ae gs2.length).length:=fun x hx=>by rw[EZ];exact N2.o x hx
 generalize b0 false ai gs1.length=mine at*;generalize b0 true ae gs2.length=yours at*;generalize hP:D.lst (pairs.map d5)=P;generalize hU:(pairs.map (·.1)).map nI=used
 generalize hI:(jI ai ae pairs).map MT.inD=lI
 let Gi:Nat->List Gt:=fun i=>if i=0 then [] else if i=1 then gs1.map (eA (pT ai ae pairs)) else gs1.map (eA (pT ai ae pairs))++gs2.map (eA (xp ai ae gs1 aF pairs))
 refine aZ <| ik <| hV (ds:=[.tup [au ai gs1 aF, .lst (mine.map b6)], .tup [au ae gs2 os2, .lst (yours.map b6)]]) (gp (bE (nV (ds:=[.tup [au ai gs1 aF, .lst (mine.map b6)], .tup [au ae gs2 os2, .lst (yours.map b6)]]) (ao (bb rfl (by simp;omega)) (ao (bb rfl (by simp;omega)) rfl)) (by simp;omega)))) ?_
 refine(cy (fun i δ S2=>∃p8 wy n9 sQ n8 p9,δ=uE (au ai gs1 aF) (au ae gs2 os2) P (some (.d (.lst (mine.map b6)))) (some (.d (.lst (yours.map b6)))) (some (.loc S.length)) x6 x7 x8 x9 (some (.d (.lst ((pairs.map (·.2)).map nI)))) (some (.d (.lst used))) (some (.d (.lst lI))) (some (.d (.lst (labels.map b6)))) (some (.loc (S.length+1))) p8 wy n9 sQ n8 p9 none none none/\S2=S++[SO.dcT kvs,SO.lst ((Gi i).map c9)])
  ⟨_,_,_,_,_,_,rfl,rfl⟩ ?_).mono fun o S2 ⟨e8,iG,p8,wy,n9,sQ,n8,p9,hδ,nS⟩=>⟨e8,iG,?_⟩
 .rintro i v δ S2 hv ⟨p8,wy,n9,sQ,n8,p9,rfl,rfl⟩
  match i,hv with
  | 0,hv=>
    cases hv;exact⟨_,rfl,(q0 (G:=[]) W1 g1 (by simp;omega)).mono fun o S3 ⟨ES,va,EX,pU,e1,e3⟩=>⟨_,e1,_,_,_,_,_,_,rfl,e3⟩⟩
  | 1,hv=>
    cases hv;exact⟨_,rfl,(q0 (G:=gs1.map (eA (pT ai ae pairs))) W2 g2 (by rw[List.length_map];omega)).mono fun o S3 ⟨ES,va,EX,pU,e1,e3⟩=>⟨_,e1,_,_,_,_,_,_,rfl,e3⟩⟩
 have hGi:Gi ([D.tup [au ai gs1 aF, .lst (mine.map b6)],D.tup [au ae gs2 os2, .lst (yours.map b6)]].map V3.d).length=jG ai ae gs1 gs2 aF pairs:=rfl;rw[hGi] at nS;subst hδ nS;refine uc (i:=14) (k:=S.length+1) rfl (ds:=(jG ai ae gs1 gs2 aF pairs).map c9) (by rw[List.getElem?_append_right (by omega),show S.length+1 - S.length=1 by omega];rfl) ?_
 rw[List.set_append_right _ _ (by omega),show S.length+1 - S.length=1 by omega]
 simp only[List.set];refine aZ <| bG (by simp) <| ug (ds:=([]:Tn).map dq) rfl ⟨_,rfl,?_⟩
 rw[show S++[SO.dcT kvs,SO.ft]++[SO.lst (([]:Tn).map dq)]=S++[SO.dcT kvs,SO.ft,SO.lst (([]:Tn).map dq)] by rw[List.append_assoc];rfl,List.length_append,show [SO.dcT kvs,SO.ft].length=2 from rfl]
 simp only[List.set];generalize hG:(jG ai ae gs1 gs2 aF pairs).map c9=lG
 let Oi:Nat->Tn:=fun i=>if i=0 then [] else if i=1 then dM (pairs.map (·.1)) (pT ai ae pairs) aF.zipIdx else dM (pairs.map (·.1)) (pT ai ae pairs) aF.zipIdx++dM [] (xp ai ae gs1 aF pairs) os2.zipIdx
 refine aZ <| ik <| hV (ds:=[.tup [au ai gs1 aF, .lst (mine.map b6), .lst ((pairs.map (·.1)).map nI)], .tup [au ae gs2 os2, .lst (yours.map b6), .lst (([]:List Nat).map nI)]]) (gp (bE (nV (ds:=[.tup [au ai gs1 aF, .lst (mine.map b6), .lst ((pairs.map (·.1)).map nI)], .tup [au ae gs2 os2, .lst (yours.map b6), .lst (([]:List Nat).map nI)]]) (ao (bb (by rw[hU];rfl) (by simp;omega)) (ao (bb rfl (by simp;omega)) rfl)) (by simp;omega)))) ?_
 refine(cy (fun i δ S2=>∃x7 p8 wy n9 sQ n8 p9 sW rm,δ=uE (au ai gs1 aF) (au ae gs2 os2) P (some (.d (.lst (mine.map b6)))) (some (.d (.lst (yours.map b6)))) (some (.loc S.length)) x6 x7 x8 x9 (some (.d (.lst ((pairs.map (·.2)).map nI)))) (some (.d (.lst used))) (some (.d (.lst lI))) (some (.d (.lst (labels.map b6)))) (some (.d (.lst lG))) p8 wy n9 sQ n8 p9 (some (.loc (S.length+2))) sW rm/\S2=S++[SO.dcT kvs,SO.ft,SO.lst ((Oi i).map dq)])
  ⟨_,_,_,_,_,_,_,_,_,rfl,rfl⟩ ?_).mono fun o S2 ⟨e8,iG,y7,p8,wy,n9,sQ,n8,p9,sW,rm,hδ,nS⟩=>⟨e8,iG,?_⟩
 .rintro i v δ S2 hv ⟨y7,p8,wy,n9,sQ,n8,p9,sW,rm,rfl,rfl⟩
  match i,hv with
  | 0,hv=>
    cases hv;exact⟨_,rfl,(tq (S:=S) (ins:=ai) (gs:=gs1) (os:=aF) (G:=[]) (gone:=pairs.map fun q:Nat × Nat=>q.1) W1 o1 (by simp;omega)).mono fun o S3 ⟨y7,va,pU,EY,e1,e3⟩=>⟨_,e1,_,_,_,_,_,_,_,_,_,rfl,e3⟩⟩
  | 1,hv=>
    cases hv;have hkl:(dM (pairs.map (·.1)) (pT ai ae pairs) aF.zipIdx).length<=aF.length:=by
     unfold dM;rw[List.length_map];exact Nat.le_trans (List.length_filter_le _ _) (by rw[List.length_zipIdx];exact Nat.le_refl _)
    exact⟨_,rfl,(tq (S:=S) (ins:=ae) (gs:=gs2) (os:=os2) (G:=dM (pairs.map fun q:Nat × Nat=>q.1) (pT ai ae pairs) aF.zipIdx) (gone:=[]) W2 o2 (by omega)).mono fun o S3 ⟨y7,va,pU,EY,e1,e3⟩=>⟨_,e1,_,_,_,_,_,_,_,_,_,rfl,e3⟩⟩
 have hOi:Oi ([D.tup [au ai gs1 aF, .lst (mine.map b6), .lst ((pairs.map (·.1)).map nI)],D.tup [au ae gs2 os2, .lst (yours.map b6), .lst (([]:List Nat).map nI)]].map V3.d).length=jO ai ae gs1 aF os2 pairs:=by
  show dM (pairs.map (·.1)) (pT ai ae pairs) aF.zipIdx++dM [] (xp ai ae gs1 aF pairs) os2.zipIdx=_
  rw[yY,yk];rfl
 rw[hOi] at nS;subst hδ nS;refine uc (i:=21) (k:=S.length+2) rfl (ds:=(jO ai ae gs1 aF os2 pairs).map dq) (by rw[List.getElem?_append_right (by omega),show S.length+2 - S.length=2 by omega];rfl) ?_
 rw[List.set_append_right _ _ (by omega),show S.length+2 - S.length=2 by omega]
 simp only[List.set];refine q8 <| cX (d:=au (jI ai ae pairs) (jG ai ae gs1 gs2 aF pairs) (jO ai ae gs1 aF os2 pairs)) ?_ ⟨_,rfl,rfl,⟨_,rfl⟩,_,rfl,h⟩
 unfold au;rw[hI,hG];exact bb rfl (by simp;omega)
end
end K34
end
section
set_option maxHeartbeats 1000000
namespace K34
open PySem PySem.Spec PyProof.Rows L2 L3 MT JT
def vg(b k:Nat):Str:=⟨#[b+k]⟩
abbrev LA:Str:=Str.ofString "abcdefg"
abbrev LN:Str:=Str.ofString "nopqrst"
theorem Lc:Mf LA (vg 97):=by
 have hz:sizeLine=16777216:=sizeLine_eq;have hl:LA.length<=sizeLine:=by rw[hz];decide+kernel
 refine⟨fun k hk=>?_,fun f hf=>?_⟩
 .match k,hk with
  | 0,_=>exact cF hl (by decide+kernel)
  | 1,_=>exact cF hl (by decide+kernel)
  | 2,_=>exact cF hl (by decide+kernel)
 .rcases hf with rfl | rfl
  .refine⟨_,bS _ hl,fun k hk=>?_⟩
   have h2:(Txt.slice LA (some ((0:Nat):Int)) none).length<=sizeLine:=by rw[hz];decide+kernel
   match k,hk with
   | 0,_=>exact cF h2 (by decide+kernel)
   | 1,_=>exact cF h2 (by decide+kernel)
   | 2,_=>exact cF h2 (by decide+kernel)
  .refine⟨_,bS _ hl,fun k hk=>?_⟩
   have h2:(Txt.slice LA (some ((4:Nat):Int)) none).length<=sizeLine:=by rw[hz];decide+kernel
   match k,hk with
   | 0,_=>exact cF h2 (by decide+kernel)
   | 1,_=>exact cF h2 (by decide+kernel)
   | 2,_=>exact cF h2 (by decide+kernel)
theorem KH:Mf LN (vg 110):=by
 have hz:sizeLine=16777216:=sizeLine_eq;have hl:LN.length<=sizeLine:=by rw[hz];decide+kernel
 refine⟨fun k hk=>?_,fun f hf=>?_⟩
 .match k,hk with
  | 0,_=>exact cF hl (by decide+kernel)
  | 1,_=>exact cF hl (by decide+kernel)
  | 2,_=>exact cF hl (by decide+kernel)
 .rcases hf with rfl | rfl
  .refine⟨_,bS _ hl,fun k hk=>?_⟩
   have h2:(Txt.slice LN (some ((0:Nat):Int)) none).length<=sizeLine:=by rw[hz];decide+kernel
   match k,hk with
   | 0,_=>exact cF h2 (by decide+kernel)
   | 1,_=>exact cF h2 (by decide+kernel)
   | 2,_=>exact cF h2 (by decide+kernel)
  .refine⟨_,bS _ hl,fun k hk=>?_⟩
   have h2:(Txt.slice LN (some ((4:Nat):Int)) none).length<=sizeLine:=by rw[hz];decide+kernel
   match k,hk with
   | 0,_=>exact cF h2 (by decide+kernel)
   | 1,_=>exact cF h2 (by decide+kernel)
   | 2,_=>exact cF h2 (by decide+kernel)
theorem j_{n m:Nat}(h:n<=m){f:Nat->Str}:((List.range n).map f).Sublist ((List.range m).map f):=(List.range_sublist.mpr h).map f
theorem Bs{pairs:List (Nat × Nat)}{ins:Tj}:(dZ pairs ins).Sublist ins:=by
 unfold dZ;have h:((ins.zipIdx.filter fun x=>(bq pairs x.2).isNone).map (·.1)).Sublist (ins.zipIdx.map (·.1)):=List.Sublist.map _ List.filter_sublist
 have e:ins.zipIdx.map (·.1)=ins:=List.ext_getElem? fun i=>by
  rw[List.getElem?_map,List.getElem?_zipIdx];cases ins[i]? <;> rfl
 rw[e] at h;exact h
theorem Ae{pairs:List (Nat × Nat)}{os:Tn}:(eR pairs os).Sublist os:=by
 unfold eR;have h:((os.zipIdx.filter fun x=>!(pairs.map (·.1)).contains x.2).map (·.1)).Sublist (os.zipIdx.map (·.1)):=List.Sublist.map _ List.filter_sublist
 have e:os.zipIdx.map (·.1)=os:=List.ext_getElem? fun i=>by
  rw[List.getElem?_map,List.getElem?_zipIdx];cases os[i]? <;> rfl
 rw[e] at h;exact h
def kN(k:Nat):Str:=⟨#[107,97+k]⟩
theorem ER{f:FD}{δ:aq}{k:Nat}(hk:k < 4)(h:f δ= .ok (nI k)):e2 bU (eC (.str (Str.ofString "k"))) (e2 bJ (eC (.str (Str.ofString "abcd"))) f) δ= .ok (.str (kN k)):=by
 have hz:sizeLine=16777216:=sizeLine_eq;have hl:(Str.ofString "abcd").length<=sizeLine:=by rw[hz];decide+kernel
 have e1:∀k,k < 4->bJ (.str (Str.ofString "abcd")) (nI k)= .ok (.str ⟨#[97+k]⟩):=fun k hk=>by
  match k,hk with
  | 0,_=>exact cF hl (by decide+kernel)
  | 1,_=>exact cF hl (by decide+kernel)
  | 2,_=>exact cF hl (by decide+kernel)
  | 3,_=>exact cF hl (by decide+kernel)
 refine aw (a:= .str (Str.ofString "k")) (b:= .str ⟨#[97+k]⟩) rfl (aw (a:= .str (Str.ofString "abcd")) (b:=nI k) rfl h (e1 k hk)) ?_;show R.aR (decide ((Str.ofString "k").length+(⟨#[97+k]⟩:Str).length<=sizeLine)) (R.ok (D.str (Str.ofString "k"++⟨#[97+k]⟩)))=_;have h2:(Str.ofString "k").length+(⟨#[97+k]⟩:Str).length<=sizeLine:=by
  rw[hz]
  match k,hk with
  | 0,_=>decide+kernel
  | 1,_=>decide+kernel
  | 2,_=>decide+kernel
  | 3,_=>decide+kernel
 rw[bS _ h2];rfl
def mv(f m w:Nat):Nat:=w+m*(if decide (f<=w) then 1 else 0)
theorem uR{ws:List Nat}{f m:Nat}(hl:ws.length < 1000)(hm:m < 100):ei [.tup (ws.map nI),nI f,nI m]= .ok (.tup ((ws.map (mv f m)).map nI)):=by
 have hz:sizeLine=16777216:=sizeLine_eq;unfold ei nv;refine fO (c_ (av (ds:=[.lst ((ws.map (mv f m)).map nI)]) (ao (bE (bK (ds:=ws.map nI) (vy rfl) (by rw[List.length_map];omega) ?_)) rfl) rfl))
 rw[List.map_map];refine NT.bw nI _ fun w hw=>⟨[.val (nI w), .val (nI f), .val (nI m)],rfl,rfl,?_⟩
 refine aw (a:=nI w) (b:=nI (m*(if decide (f<=w) then 1 else 0))) rfl (aw (a:=nI m) (b:=nI (if decide (f<=w) then 1 else 0)) rfl (av (ds:=[.bl (decide (f<=w))]) (ao (aw (a:=nI w) (b:=nI f) rfl rfl (Mb w f)) rfl) (by cases decide (f<=w) <;> rfl)) (qU (.inr (by omega)))) (cT _ _)
def nt:Gt:=(0,[0],false)
structure Gr (ai:Tj) (aF:Tn) (ae:Tj) (os2:Tn) (du:Tj) (gL:List Gt) (fA:Tn) (ij:List Gt):Prop where
 N1:dm du gL fA
 N2:dm ae ij os2
 nI:∃m,m<=4/\du.map (·.1)=ai.map (·.1)++(List.range m).map kN
 nO:∃m,m<=4/\fA.map (·.1)=aF.map (·.1)++(List.range m).map kN
 oL:∀(o:Nat) (y:Str × List Nat),aF[o]? =some y->∃y',fA[o]? =some y'/\y'.2.length=y.2.length
abbrev gE(c:Int)(n1 n2:D)(kd:Nat)(x4 x5 x6 x7 x8 x9 x10 x11:Sl):aq:=[.val (.int c), .val n1, .val n2, .val (nI kd),x4,x5,x6,x7,x8,x9,x10,x11]
section
variable {ins ai ae:Tj} {gs gs1 gs2:List Gt} {os aF os2:Tn} {a:Nat->Str}
theorem rD(A:Any a ins gs os):1<=bW ins/\bW ins<=9:=by
 have h1:=A.i1;have h3:=A.i3;have:∀l:Tj,(∀x∈l,1<=x.2/\x.2<=3)->bW l<=3*l.length/\l.length<=bW l:=by
  intro l
  induction l with
  | nil=>exact fun _=>⟨Nat.le_refl _,Nat.le_refl _⟩
  | cons x l ih=>
    intro hl;have h1:=ih fun y hy=>hl y (List.mem_cons_of_mem _ hy)
    have h2:=hl x List.mem_cons_self;unfold bW at h1 ⊢;rw[List.map_cons,List.sum_cons,List.length_cons];omega
 have:=this ins A.iw;omega
theorem tL(A:Any a ins gs os){k:Nat}(hk:k < 100):dm ins (gs++List.replicate k nt) os:=by
 have hw:=rD A;have hg:=A.g;refine⟨A.N.hi,A.N.hw,by rw[List.length_append,List.length_replicate];omega,fun i x hx=>?_,A.N.ho,fun x hx=>⟨(A.N.o x hx).1,fun w hw=>by have:=(A.N.o x hx).2 w hw;rw [List.length_append];omega⟩⟩
 by_cases hi:i < gs.length
 .rw [List.getElem?_append_left hi] at hx;exact A.N.g i x hx
 .rw [List.getElem?_append_right (by omega)] at hx
  have:=List.mem_of_getElem? hx;rw[(List.mem_replicate.mp this).2];exact⟨by decide,rfl,fun w hw=>by rw[List.mem_singleton.mp hw];omega⟩
theorem tV(l:Tj)(m:Nat):bW (l++(List.range m).map fun k=>(kN k,1))=bW l+m:=by
 unfold bW;rw[List.map_append,List.sum_append,List.map_map];congr 1
 induction m with
 | zero=>rfl
 | succ m ih=>rw [List.range_succ,List.map_append,List.sum_append,ih];rfl
theorem EN{f m w n:Nat}(h:w < n):mv f m w < n+m:=by
 unfold mv;cases decide (f<=w)
 .rw [if_neg (by decide)];omega
 .rw [if_pos rfl];omega
theorem Av(A:Any a ins gs os){m:Nat}(hm:m < 10):dm (ins++(List.range m).map fun k=>(kN k,1)) (gs.map (eA (mv (bW ins) m))) (os.map (dO (mv (bW ins) m))):=by
 have hi3:=A.i3;have hg:=A.g;have ho:=A.o3;refine⟨by rw[List.length_append,List.length_map,List.length_range];omega,fun x hx=>?_,by rw[List.length_map];omega,fun i x hx=>?_,by rw[List.length_map];omega,fun x hx=>?_⟩
 .rcases List.mem_append.mp hx with z | z
  .exact A.N.hw x z
  .obtain⟨k,_,rfl⟩:=List.mem_map.mp z;show 1 < 100;omega
 .rw [List.getElem?_map] at hx;obtain⟨g,hg,rfl⟩:=L3.fk hx;obtain⟨h1,h2,h3⟩:=A.N.g i g hg;refine⟨h1,by unfold eA;rw [List.length_map];exact h2,fun w hw=>?_⟩
  obtain⟨n,hn,rfl⟩:=List.mem_map.mp (show w∈g.2.1.map _ from hw)
  rw[tV];have:=EN (f:=bW ins) (m:=m) (h3 n hn);omega
 .obtain⟨y,hy,rfl⟩:=List.mem_map.mp hx;obtain⟨h1,h2⟩:=A.N.o y hy;refine⟨by unfold dO;rw [List.length_map];exact h1,fun w hw=>?_⟩
  obtain⟨n,hn,rfl⟩:=List.mem_map.mp (show w∈y.2.map _ from hw)
  rw[tV,List.length_map];have:=EN (f:=bW ins) (m:=m) (h2 n hn);omega
theorem Dt(A:Any a ins gs os){m:Nat}(hm:m < 10):dm ins gs (os++(List.range m).map fun k=>(kN k,[0])):=by
 have hw:=rD A;have ho:=A.o3;refine⟨A.N.hi,A.N.hw,A.N.hg,A.N.g,by rw[List.length_append,List.length_map,List.length_range];omega,fun x hx=>?_⟩
 rcases List.mem_append.mp hx with z | z
 .exact A.N.o x z
 .obtain⟨k,_,rfl⟩:=List.mem_map.mp z;exact⟨by show 1 < 1000;omega,fun w hw=>by rw[List.mem_singleton.mp hw];omega⟩
theorem zO(k:Nat):List.replicate k (c9 nt)=(List.replicate k nt).map c9:=by rw[List.map_replicate]
theorem Hx(m:Nat):((List.range m).map fun k=>((kN k,1):Str × Nat)).map MT.inD=(List.range m).map fun k=>D.tup [.str (kN k), .int 1]:=by rw[List.map_map];rfl
theorem FH(m:Nat):((List.range m).map fun k=>((kN k,[0]):Str × List Nat)).map dq=(List.range m).map fun k=>D.tup [.str (kN k), .tup [.int 0]]:=by rw[List.map_map];rfl
theorem xl(A1:Any a ai gs1 aF){b:Nat->Str}(A2:Any b ae gs2 os2):Gr ai aF ae os2 ai gs1 aF gs2:=⟨A1.N,A2.N,⟨0,by omega,by simp⟩,⟨0,by omega,by simp⟩,fun o y h=>⟨y,h,rfl⟩⟩
theorem Bo(A1:Any a ai gs1 aF){b:Nat->Str}(A2:Any b ae gs2 os2)(c:Int):∃du gL fA ij,Gr ai aF ae os2 du gL fA ij/\gM [.int c,au ai gs1 aF,au ae gs2 os2]= .ok (.tup [au du gL fA,au ae ij os2]):=by
 have hz:sizeLine=16777216:=sizeLine_eq;have MG:=A1.g;have Ei:=A2.g;have MK:=A1.i3;have ho1:=A1.o3;have KD:=rD A1;obtain⟨kd,hkd⟩:∃kd,stN c 90 % 4=kd:=⟨_,rfl⟩;obtain⟨mm,hmm⟩:∃mm,stN c 91 % 3=mm:=⟨_,rfl⟩;have hkl:kd < 4:=by omega
 have hml:mm < 3:=by omega
 unfold gM m_;have s1:e2 eu (aG aV (ag (af 0) (ag (eC (.int 90)) aD))) (eC (.int 4)) (cn fH [.int c,au ai gs1 aF,au ae gs2 os2])= .ok (nI kd):=(aw (a:=nI (stN c 90)) (b:=nI 4) (av (ds:=[.int c,nI 90]) rfl (iC c 90)) rfl (gh (by omega))).trans (by rw[hkd])
 have s2:e2 eu (aG aV (ag (af 0) (ag (eC (.int 91)) aD))) (eC (.int 3)) (gE c (au ai gs1 aF) (au ae gs2 os2) kd .un .un .un .un .un .un .un .un)= .ok (nI mm):=(aw (a:=nI (stN c 91)) (b:=nI 3) (av (ds:=[.int c,nI 91]) rfl (iC c 91)) rfl (gh (by omega))).trans (by rw[hmm])
 have q:∀k:Nat,b2 t7 (af 3) (eC (nI k)) (gE c (au ai gs1 aF) (au ae gs2 os2) kd (.val (nI mm)) .un .un .un .un .un .un .un)= .ok (decide (kd=k)):=fun k=>cE (a:=nI kd) (b:=nI k) rfl rfl (BL _ _)
 have l1:∀δ:aq,af 1 δ= .ok (au ai gs1 aF)->aG cz (ag (e2 bJ (af 1) (eC (.int 1))) aD) δ= .ok (nI gs1.length):=fun δ h=>av (ds:=[.lst (gs1.map c9)]) (ao (aw (a:=au ai gs1 aF) (b:= .int 1) h rfl rfl) rfl) (by rw[dv,List.length_map])
 have l2:∀δ:aq,af 2 δ= .ok (au ae gs2 os2)->aG cz (ag (e2 bJ (af 2) (eC (.int 1))) aD) δ= .ok (nI gs2.length):=fun δ h=>av (ds:=[.lst (gs2.map c9)]) (ao (aw (a:=au ae gs2 os2) (b:= .int 1) h rfl rfl) rfl) (by rw[dv,List.length_map])
 have st:∀(F:FS) (r:D),F (gE c (au ai gs1 aF) (au ae gs2 os2) kd (.val (nI mm)) .un .un .un .un .un .un .un)= .ok (.rt r)->p6 fH (cU (eU 3 (e2 eu (aG aV (ag (af 0) (ag (eC (.int 90)) aD))) (eC (.int 4)))) (cU (eU 4 (e2 eu (aG aV (ag (af 0) (ag (eC (.int 91)) aD))) (eC (.int 3)))) F)) [.int c,au ai gs1 aF,au ae gs2 os2]= .ok r:=fun F r hF=>fO (br (ck s1 (by simp [cn,fH])) (br (ck (δ:=gE c (au ai gs1 aF) (au ae gs2 os2) kd .un .un .un .un .un .un .un .un) s2 (by simp)) hF))
 have qt:∀k:Nat,kd=k->b2 t7 (af 3) (eC (nI k)) (gE c (au ai gs1 aF) (au ae gs2 os2) kd (.val (nI mm)) .un .un .un .un .un .un .un)= .ok true:=fun k e=>(q k).trans (by rw[decide_eq_true e])
 have qf:∀k:Nat,¬kd=k->b2 t7 (af 3) (eC (nI k)) (gE c (au ai gs1 aF) (au ae gs2 os2) kd (.val (nI mm)) .un .un .un .un .un .un .un)= .ok false:=fun k e=>(q k).trans (by rw[decide_eq_false e])
 rcases(show kd=0\/kd=1\/kd=2\/kd=3 by omega) with e | e | e | e
 .obtain⟨nd,hnd⟩:∃nd,59+mm - gs1.length - gs2.length=nd:=⟨_,rfl⟩;have hn61:nd<=61:=by omega
  refine⟨ai,gs1++List.replicate (nd / 2) nt,aF,gs2++List.replicate (nd - nd / 2) nt,⟨tL A1 (by omega),tL A2 (by omega),⟨0,by omega,by simp⟩,⟨0,by omega,by simp⟩,fun o y h=>⟨y,h,rfl⟩⟩,?_⟩
  refine st _ _ (NT.j9 (om (qt 0 e) ?_));have e5:e2 kI (e2 kI (e2 bU (eC (.int 59)) (af 4)) (aG cz (ag (e2 bJ (af 1) (eC (.int 1))) aD))) (aG cz (ag (e2 bJ (af 2) (eC (.int 1))) aD)) (gE c (au ai gs1 aF) (au ae gs2 os2) kd (.val (nI mm)) .un .un .un .un .un .un .un)= .ok (nI nd):=(aw (a:=nI (59+mm - gs1.length)) (b:=nI gs2.length) (aw (a:=nI (59+mm)) (b:=nI gs1.length) (aw (a:=nI 59) (b:=nI mm) rfl rfl (cT _ _)) (l1 _ rfl) (oj (by omega))) (l2 _ rfl) (oj (by omega))).trans (by rw[hnd])
  have ntd:∀δ:aq,dP (ag (cN (ag (eC (.str (Str.ofString "not"))) (ag (cN (ag (eC (.int 0)) aD)) (ag (eC (.bl false)) aD)))) aD) δ= .ok [c9 nt]:=fun δ=>nV (ds:=[c9 nt]) (ao (bb (ds:=[.str (kS 0), .tup [nI 0], .bl false]) (ao rfl (ao (bb rfl (by simp;omega)) rfl)) (by simp;omega)) rfl) (by simp;omega)
  refine br (ck e5 (by simp)) (br (ck (d:= .lst ((List.replicate (nd / 2) nt).map c9)) (bE ((Ek (n:=nd / 2) (ntd _) (aw (a:=nI nd) (b:=nI 2) rfl rfl (w9 (by omega) (by omega))) (by omega) (by simp;omega)).trans (by rw[A8,zO]))) (by simp)) (br (ck (d:= .lst ((List.replicate (nd - nd / 2) nt).map c9)) (bE ((Ek (n:=nd - nd / 2) (ntd _) (aw (a:=nI nd) (b:=nI (nd / 2)) rfl (aw (a:=nI nd) (b:=nI 2) rfl rfl (w9 (by omega) (by omega))) (oj (by omega))) (by omega) (by simp;omega)).trans (by rw[A8,zO]))) (by simp)) (c_ ?_)))
  refine bb (ds:=[au ai (gs1++List.replicate (nd / 2) nt) aF,au ae (gs2++List.replicate (nd - nd / 2) nt) os2]) (ao (bb (ds:=[.lst (ai.map MT.inD), .lst ((gs1++List.replicate (nd / 2) nt).map c9), .lst (aF.map dq)]) (ao rfl (ao ?_ rfl)) (by simp;omega)) (ao (bb (ds:=[.lst (ae.map MT.inD), .lst ((gs2++List.replicate (nd - nd / 2) nt).map c9), .lst (os2.map dq)]) (ao rfl (ao ?_ rfl)) (by simp;omega)) rfl)) (by simp;omega)
  .exact aw (a:= .lst (gs1.map c9)) (b:= .lst ((List.replicate (nd / 2) nt).map c9)) rfl rfl ((qd (by rw[List.length_map,List.length_map,List.length_replicate];omega)).trans (by rw[List.map_append]))
  .exact aw (a:= .lst (gs2.map c9)) (b:= .lst ((List.replicate (nd - nd / 2) nt).map c9)) rfl rfl ((qd (by rw[List.length_map,List.length_map,List.length_replicate];omega)).trans (by rw[List.map_append]))
 .obtain⟨m,hm⟩:∃m,min (2+mm) (6 - ai.length)=m:=⟨_,rfl⟩;have MJ:m<=4:=by omega
  refine⟨ai++(List.range m).map fun k=>(kN k,1),gs1.map (eA (mv (bW ai) m)),aF.map (dO (mv (bW ai) m)),gs2,⟨Av A1 (by omega),A2.N,⟨m,MJ,by rw[List.map_append,List.map_map];rfl⟩,⟨0,by omega,by rw[List.map_map,List.range_zero,List.map_nil,List.append_nil];rfl⟩,fun o y h=>⟨dO (mv (bW ai) m) y,by rw[List.getElem?_map,h];rfl,by unfold dO;rw [List.length_map]⟩⟩,?_⟩
  refine st _ _ (br (jU (qf 0 (by omega)) rfl) (NT.j9 (om (qt 1 e) ?_)))
  refine br (ck (d:=nI (bW ai)) (av (ds:=[.lst ((ai.map (·.2)).map nI)]) (ao (bE (bK (ds:=ai.map MT.inD) (gp rfl) (by rw[List.length_map];omega) (by
   rw[show(ai.map (·.2)).map nI=ai.map fun x=>nI x.2 from List.map_map]
   exact NT.bw MT.inD _ fun x hx=>⟨[.val (.str x.1), .val (nI x.2)],rfl,rfl,rfl⟩))) rfl) (Ar _)) (by simp)) ?_
  refine br (ck (d:=nI m) ((av (ds:=[nI (2+mm),nI (6 - ai.length)]) (ao (aw (a:=nI 2) (b:=nI mm) rfl rfl (cT _ _)) (ao (aw (a:=nI 6) (b:=nI ai.length) rfl (av (ds:=[.lst (ai.map MT.inD)]) rfl (by rw[dv,List.length_map])) (oj (by omega))) rfl)) Eu).trans (by rw[hm])) (by simp)) ?_
  refine br (ck (d:= .lst ((ai++(List.range m).map fun k=>(kN k,1)).map MT.inD)) (aw (a:= .lst (ai.map MT.inD)) (b:= .lst ((List.range m).map fun k=>D.tup [.str (kN k), .int 1])) rfl (bE (bK (jk (n:=m) rfl (by omega)) (by rw[List.length_map,List.length_range];omega) (NT.bw nI _ fun k hk=>⟨[.val (nI k)],rfl,rfl,bb (ao (ER (by have:=List.mem_range.mp hk;omega) rfl) rfl) (by simp;omega)⟩))) ((qd (by rw[List.length_map,List.length_map,List.length_range];omega)).trans (by rw[List.map_append,Hx]))) (by simp)) ?_
  refine br (ck (d:= .lst ((gs1.map (eA (mv (bW ai) m))).map c9)) (bE (bK (ds:=gs1.map c9) (gp rfl) (by rw[List.length_map];omega) (by
   rw[List.map_map];exact NT.bw c9 _ fun g hg=>⟨[.val (.str (kS g.1)), .val (.tup (g.2.1.map nI)), .val (.bl g.2.2), .val (nI m), .val (nI (bW ai))],rfl,rfl,bb (ds:=[.str (kS g.1), .tup ((g.2.1.map (mv (bW ai) m)).map nI), .bl g.2.2]) (ao rfl (ao (av (ds:=[.tup (g.2.1.map nI),nI (bW ai),nI m]) rfl (uR (by
    obtain⟨i,hi⟩:=List.getElem?_of_mem hg;have h1:=(A1.N.g i g hi).2.1;have:=qP g.1;omega) (by omega))) (ao rfl rfl))) (by simp;omega)⟩))) (by simp)) ?_
  refine br (ck (d:= .lst ((aF.map (dO (mv (bW ai) m))).map dq)) (bE (bK (ds:=aF.map dq) (gp rfl) (by rw[List.length_map];omega) (by
   rw[show(aF.map (dO (mv (bW ai) m))).map dq=aF.map (fun x=>dq (dO (mv (bW ai) m) x)) from List.map_map]
   refine NT.bw dq _ fun x hx=>⟨[.val (.str x.1), .val (.tup (x.2.map nI)), .val (nI m), .val (nI (bW ai))],rfl,rfl,?_⟩
   exact bb (ds:=[.str x.1, .tup ((x.2.map (mv (bW ai) m)).map nI)]) (ao rfl (ao (av (ds:=[.tup (x.2.map nI),nI (bW ai),nI m]) rfl (uR (A1.N.o x hx).1 (by omega))) rfl)) (by simp;omega)))) (by simp)) ?_
  exact c_ (bb (ds:=[au (ai++(List.range m).map fun k=>(kN k,1)) (gs1.map (eA (mv (bW ai) m))) (aF.map (dO (mv (bW ai) m))),au ae gs2 os2]) (ao (bb rfl (by simp;omega)) rfl) (by simp;omega))
 .obtain⟨m,hm⟩:∃m,min (2+mm) (6 - aF.length)=m:=⟨_,rfl⟩;have MJ:m<=4:=by omega
  refine⟨ai,gs1,aF++(List.range m).map fun k=>(kN k,[0]),gs2,⟨Dt A1 (by omega),A2.N,⟨0,by omega,by simp⟩,⟨m,MJ,by rw[List.map_append,List.map_map];rfl⟩,fun o y h=>⟨y,by rw[List.getElem?_append_left (List.getElem?_eq_some_iff.mp h).1];exact h,rfl⟩⟩,?_⟩
  refine st _ _ (br (jU (qf 0 (by omega)) rfl) (br (jU (qf 1 (by omega)) rfl) (NT.j9 (om (qt 2 e) ?_))))
  refine br (ck (d:=nI m) ((av (ds:=[nI (2+mm),nI (6 - aF.length)]) (ao (aw (a:=nI 2) (b:=nI mm) rfl rfl (cT _ _)) (ao (aw (a:=nI 6) (b:=nI aF.length) rfl (av (ds:=[.lst (aF.map dq)]) rfl (by rw[dv,List.length_map])) (oj (by omega))) rfl)) Eu).trans (by rw[hm])) (by simp)) (c_ ?_)
  refine bb (ds:=[au ai gs1 (aF++(List.range m).map fun k=>(kN k,[0])),au ae gs2 os2]) (ao (bb (ds:=[.lst (ai.map MT.inD), .lst (gs1.map c9), .lst ((aF++(List.range m).map fun k=>(kN k,[0])).map dq)]) (ao rfl (ao rfl (ao ?_ rfl))) (by simp;omega)) rfl) (by simp;omega)
  exact aw (a:= .lst (aF.map dq)) (b:= .lst ((List.range m).map fun k=>D.tup [.str (kN k), .tup [.int 0]])) rfl (bE (bK (jk (n:=m) rfl (by omega)) (by rw[List.length_map,List.length_range];omega) (NT.bw nI _ fun k hk=>⟨[.val (nI k)],rfl,rfl,bb (ao (ER (by have:=List.mem_range.mp hk;omega) rfl) (ao (bb rfl (by simp;omega)) rfl)) (by simp;omega)⟩))) ((qd (by rw[List.length_map,List.length_map,List.length_range];omega)).trans (by rw[List.map_append,FH]))
 .refine⟨ai,gs1,aF,gs2,xl A1 A2,?_⟩;exact st _ _ (br (jU (qf 0 (by omega)) rfl) (br (jU (qf 1 (by omega)) rfl) (br (jU (qf 2 (by omega)) rfl) (c_ (bb rfl (by simp;omega))))))
end
end K34
end
section
namespace K34
open PySem PySem.Spec PyProof.Rows L2 L3 MT JT
theorem BM:∀(zs σ:List Int),σ.Nodup->(zs.foldl step_dedup σ).Nodup/\∀z,z∈zs.foldl step_dedup σ↔z∈σ\/z∈zs
 | [],σ,h=>⟨h,fun z=>by simp⟩
 | y ::zs,σ,h=>by
   rw[List.foldl_cons];have hs:(step_dedup σ y).Nodup/\∀z,z∈step_dedup σ y↔z∈σ\/z=y:=by
    unfold step_dedup;split
    .rename_i q;obtain⟨x,hx,e⟩:=List.any_eq_true.mp q;have e:=eq_of_beq e;subst e;exact⟨h,fun z=>⟨.inl,fun o=>o.elim id fun e=>by rw[e];exact hx⟩⟩
    .rename_i q;refine⟨List.nodup_append.mpr ⟨h,by simp,fun a ha b hb e=>?_⟩,fun z=>by simp⟩
     rw[List.mem_singleton.mp hb] at e;subst e;exact q (List.any_eq_true.mpr ⟨a,ha,beq_self_eq_true a⟩)
   obtain⟨h1,h2⟩:=BM zs _ hs.1;refine⟨h1,fun z=>?_⟩
   rw[h2,hs.2,List.mem_cons];exact or_assoc
theorem tu:∀{a b:List Int},a.Nodup->b.Nodup->(∀z,z∈a↔z∈b)->a.length=b.length:=fun {a b} ha hb h=>by
 have h1:a.Perm b:=(List.perm_ext_iff_of_nodup ha hb).mpr h;exact h1.length_eq
theorem Cj{us:List Nat}{n:Nat}(h:∀u∈us,u < n):(mS (us.map fun(u:Nat)=>(u:Int))).length=((List.range n).filter fun k=>us.contains k).length:=by
 obtain⟨h1,h2⟩:=BM (us.map fun(u:Nat)=>(u:Int)) [] List.nodup_nil
 have h3:(((List.range n).filter fun k=>us.contains k).map fun(u:Nat)=>(u:Int)).Nodup:=vT (List.nodup_range.filter _) fun a _ b _ e=>by
  have:(a:Int)=(b:Int):=e;omega
 have:=tu h1 h3 fun z=>by
  rw[h2];simp only[List.not_mem_nil,false_or,List.mem_map,List.mem_filter,List.mem_range,List.contains_iff_mem];constructor
  .rintro⟨u,hu,rfl⟩;exact⟨u,⟨h u hu,hu⟩,rfl⟩
  .rintro⟨u,⟨_,hu⟩,rfl⟩;exact⟨u,hu,rfl⟩
 rw[List.length_map] at this;exact this
theorem qA{α:Type}(p:α->Bool)(l:List α):(l.filter p).length+(l.filter fun x=>!p x).length=l.length:=by
 induction l with
 | nil=>rfl
 | cons x l ih=>
   rw[List.filter_cons,List.filter_cons];cases p x with
   | true=>rw [if_pos rfl,if_neg (by decide),List.length_cons,List.length_cons];omega
   | false=>rw [if_neg (by decide),if_pos (show(!false)=true from rfl),List.length_cons,List.length_cons];omega
theorem xm{α:Type}(l:List α):l.zipIdx.map (·.2)=List.range l.length:=List.ext_getElem? fun i=>by
 rw[List.getElem?_map,List.getElem?_zipIdx];by_cases h:i < l.length
 .rw [List.getElem?_eq_getElem h,List.getElem?_range h];show some (0+i)=some i;rw[Nat.zero_add]
 .rw [List.getElem?_eq_none (by omega),List.getElem?_eq_none (by simpa using h)];rfl
section
variable {ai ae:Tj} {gs1 gs2:List Gt} {aF os2:Tn} {pairs:List (Nat × Nat)}
theorem qS(h:∀q∈pairs,q.1 < aF.length):(eR pairs aF).length+(mS ((pairs.map (·.1)).map fun(u:Nat)=>(u:Int))).length=aF.length:=by
 rw[Cj (n:=aF.length) fun u hu=>by obtain⟨q,hq,rfl⟩:=List.mem_map.mp hu;exact h q hq]
 unfold eR;rw[List.length_map];have e:(aF.zipIdx.filter fun x=>!(pairs.map (·.1)).contains x.2).length=((List.range aF.length).filter fun k=>!(pairs.map (·.1)).contains k).length:=by
  rw[<-xm aF,List.filter_map,List.length_map];rfl
 rw[e];have:=qA (fun k=>(pairs.map (·.1)).contains k) (List.range aF.length)
 rw[List.length_range] at this;omega
theorem yZ(hn:(pairs.map (·.2)).Nodup)(h:∀q∈pairs,q.2 < ae.length):(dZ pairs ae).length+pairs.length=ae.length:=by
 unfold dZ;rw[List.length_map];have e:(ae.zipIdx.filter fun x=>(bq pairs x.2).isNone).length=((List.range ae.length).filter fun k=>!(pairs.map (·.2)).contains k).length:=by
  rw[<-xm ae,List.filter_map,List.length_map];congr 1;refine List.filter_congr fun x _=>?_
  rw[lE];rfl
 rw[e];have h1:=qA (fun k=>(pairs.map (·.2)).contains k) (List.range ae.length)
 rw[List.length_range] at h1;have h2:((List.range ae.length).filter fun k=>(pairs.map (·.2)).contains k).length=(pairs.map (·.2)).length:=by
  refine((List.perm_ext_iff_of_nodup (List.nodup_range.filter _) hn).mpr fun z=>?_).length_eq
  rw[List.mem_filter,List.mem_range,List.contains_iff_mem];exact⟨fun h=>h.2,fun hz=>⟨by obtain⟨q,hq,rfl⟩:=List.mem_map.mp hz;exact h q hq,hz⟩⟩
 rw[List.length_map] at h2;omega
def ng(i1 i2 g1 g2 o1 o2 p u:Nat):Bool:=decide (i1+i2 - p<=6) && decide (g1+g2<=60) && decide (o1+o2 - u<=6)
theorem Ak(h1:ai.length < 100)(h2:ae.length < 100)(hp:pairs.length<=ae.length)(ho:∀q∈pairs,q.1 < aF.length) :
 i0 [au ai gs1 aF,au ae gs2 os2, .lst (pairs.map d5)]= .ok (.bl (ng ai.length ae.length gs1.length gs2.length aF.length os2.length pairs.length (mS ((pairs.map (·.1)).map fun(u:Nat)=>(u:Int))).length)):=by
 have hz:sizeLine=16777216:=sizeLine_eq;have hlo:=qS ho;unfold i0 pe;generalize hu:(mS ((pairs.map (·.1)).map fun(u:Nat)=>(u:Int))).length=u at hlo
 have s1:Ji (eNew (cb (bV (af 2)) (c7 2 (aX (aJ 0) (aX (aJ 1) cY))) fS (af 0) [(Str.ofString "out"),(Str.ofString "place")] [])) (cn gg [au ai gs1 aF,au ae gs2 os2, .lst (pairs.map d5)])= .ok (nI u):=by
  have e:eNew (cb (bV (af 2)) (c7 2 (aX (aJ 0) (aX (aJ 1) cY))) fS (af 0) [(Str.ofString "out"),(Str.ofString "place")] []) (cn gg [au ai gs1 aF,au ae gs2 os2, .lst (pairs.map d5)])= .ok (.lst (((pairs.map (·.1)).map fun(u:Nat)=>(u:Int)).map D.int)):=bE (bK (ds:=pairs.map d5) rfl (by rw[List.length_map];omega) (by
   rw[List.map_map,List.map_map];exact NT.bw d5 _ fun q hq=>⟨[.val (nI q.1), .val (nI q.2)],rfl,rfl,rfl⟩))
  unfold Ji;rw[e,R.aM];show(match ints? (((pairs.map (·.1)).map fun(u:Nat)=>(u:Int)).map D.int) with | some zs=>R.aR (decide (zs.length < 1000)) (R.ok (D.int ((mS zs).length:Nat))) | none=> .no)=_
  rw[L2.ints_map];show R.aR (decide (((pairs.map (·.1)).map fun(u:Nat)=>(u:Int)).length < 1000)) (R.ok (D.int ((mS ((pairs.map (·.1)).map fun(u:Nat)=>(u:Int))).length:Nat)))=_
  rw[bS _ (by rw[List.length_map,List.length_map];omega),hu];rfl
 refine fO (br (ck s1 (by simp [cn,gg])) ?_)
 show cU _ _ [.val (au ai gs1 aF), .val (au ae gs2 os2), .val (.lst (pairs.map d5)), .val (nI u)]=_;have q1:b2 xj (e2 kI (e2 bU (aG cz (ag (e2 bJ (af 0) (eC (.int 0))) aD)) (aG cz (ag (e2 bJ (af 1) (eC (.int 0))) aD))) (aG cz (ag (af 2) aD))) (eC (.int 6)) [.val (au ai gs1 aF), .val (au ae gs2 os2), .val (.lst (pairs.map d5)), .val (nI u)]= .ok (decide (6 < ai.length+ae.length - pairs.length)):=cE (a:=nI (ai.length+ae.length - pairs.length)) (b:=nI 6) (aw (a:=nI (ai.length+ae.length)) (b:=nI pairs.length) (aw (a:=nI ai.length) (b:=nI ae.length) (av (ds:=[.lst (ai.map MT.inD)]) rfl (by rw[dv,List.length_map])) (av (ds:=[.lst (ae.map MT.inD)]) rfl (by rw[dv,List.length_map])) (cT _ _)) (av (ds:=[.lst (pairs.map d5)]) rfl (by rw[dv,List.length_map])) (oj (by omega))) rfl (Gj _ _)
 have q2:b2 xj (e2 bU (aG cz (ag (e2 bJ (af 0) (eC (.int 1))) aD)) (aG cz (ag (e2 bJ (af 1) (eC (.int 1))) aD))) (eC (.int 60)) [.val (au ai gs1 aF), .val (au ae gs2 os2), .val (.lst (pairs.map d5)), .val (nI u)]= .ok (decide (60 < gs1.length+gs2.length)):=cE (a:=nI (gs1.length+gs2.length)) (b:=nI 60) (aw (a:=nI gs1.length) (b:=nI gs2.length) (av (ds:=[.lst (gs1.map c9)]) rfl (by rw[dv,List.length_map])) (av (ds:=[.lst (gs2.map c9)]) rfl (by rw[dv,List.length_map])) (cT _ _)) rfl (Gj _ _)
 have q3:e2 Kp (e2 kI (e2 bU (aG cz (ag (e2 bJ (af 0) (eC (.int 2))) aD)) (aG cz (ag (e2 bJ (af 1) (eC (.int 2))) aD))) (af 3)) (eC (.int 6)) [.val (au ai gs1 aF), .val (au ae gs2 os2), .val (.lst (pairs.map d5)), .val (nI u)]= .ok (.bl (decide (aF.length+os2.length - u<=6))):=aw (a:=nI (aF.length+os2.length - u)) (b:=nI 6) (aw (a:=nI (aF.length+os2.length)) (b:=nI u) (aw (a:=nI aF.length) (b:=nI os2.length) (av (ds:=[.lst (aF.map dq)]) rfl (by rw[dv,List.length_map])) (av (ds:=[.lst (os2.map dq)]) rfl (by rw[dv,List.length_map])) (cT _ _)) rfl (oj (by omega))) rfl (LG _ _)
 unfold ng;by_cases c1:6 < ai.length+ae.length - pairs.length
 .refine(NT.j9 (d:= .bl false) (om ?_ rfl)).trans (by rw[decide_eq_false (by omega:¬ai.length+ae.length - pairs.length<=6)];rfl)
  unfold t5;rw[q1,R.aM,decide_eq_true c1];rfl
 .by_cases c2:60 < gs1.length+gs2.length
  .refine(NT.j9 (d:= .bl false) (om ?_ rfl)).trans (by rw[decide_eq_false (by omega:¬gs1.length+gs2.length<=60),Bool.and_false];rfl)
   unfold t5;rw[q1,R.aM,decide_eq_false c1,if_neg (by decide),q2,decide_eq_true c2]
  .refine(br (jU ?_ rfl) (c_ q3)).trans (by rw[decide_eq_true (by omega:ai.length+ae.length - pairs.length<=6),decide_eq_true (by omega:gs1.length+gs2.length<=60)];rfl)
   unfold t5;rw[q1,R.aM,decide_eq_false c1,if_neg (by decide),q2,decide_eq_false c2]
end
theorem Jt:(((List.range 3).map (vg 97)++(List.range 4).map kN)++(List.range 3).map (vg 110)).Nodup:=by decide+kernel
theorem Ju:∀f∈[0,4],∀g∈[0,4],(((List.range 3).map (fun k=>vg 97 (f+k))++(List.range 4).map kN)++(List.range 3).map fun k=>vg 110 (g+k)).Nodup:=by decide+kernel
section
variable {ai ae du:Tj} {gs1 gs2 gL ij:List Gt} {aF os2 fA:Tn} {pairs:List (Nat × Nat)}
theorem xk(G:Gr ai aF ae os2 du gL fA ij)(F:Fits aF ae pairs):Fits fA ae pairs:=fun q hq=>by
 obtain⟨x,y,h1,h2,h3⟩:=F q hq;obtain⟨x',h4,h5⟩:=G.oL _ _ h1;exact⟨x',y,h4,h2,by rw[h5,h3]⟩
theorem xi(F:Fits aF ae pairs):(∀q∈pairs,q.1 < aF.length)/\∀q∈pairs,q.2 < ae.length:=
 ⟨fun q hq=>by obtain⟨x,y,h1,h2,h3⟩:=F q hq;exact(List.getElem?_eq_some_iff.mp h1).1,fun q hq=>by obtain⟨x,y,h1,h2,h3⟩:=F q hq;exact(List.getElem?_eq_some_iff.mp h2).1⟩
theorem P7(A1:Any (vg 97) ai gs1 aF)(A2:Any (vg 110) ae gs2 os2)(P:vf aF ae ae.length pairs)(G:Gr ai aF ae os2 du gL fA ij)
 (hf:ng du.length ae.length gL.length ij.length fA.length os2.length pairs.length (mS ((pairs.map (·.1)).map fun(u:Nat)=>(u:Int))).length=true):Kl du ae gL ij fA os2 pairs:=by
 have a1:=A1.i3;have a2:=A2.i3;have b1:=A1.o3;have b2':=A2.o3;obtain⟨f,Eg,ef⟩:=A1.nO;obtain⟨g,hg,eg⟩:=A2.nO;obtain⟨m,hm,em⟩:=G.nI;obtain⟨n,hn,en⟩:=G.nO;have F:=xk G P.F;obtain⟨l1,l2⟩:=xi F;have hlo:=qS l1;have hli:=yZ P.nd l2;unfold ng at hf;rw[Bool.and_eq_true,Bool.and_eq_true,decide_eq_true_eq,decide_eq_true_eq,decide_eq_true_eq] at hf;refine⟨F,P.nd,?_,?_,?_,by omega,?_⟩
 .unfold jI;rw[List.map_append,em,A1.nI];refine List.Nodup.sublist (List.Sublist.append (List.Sublist.append (j_ a1) (j_ hm)) ((Bs.map _).trans ?_)) Jt;rw[A2.nI];exact j_ a2
 .unfold jO;rw[List.map_append,List.map_map,List.map_map];refine List.Nodup.sublist (List.Sublist.append ?_ ?_) (Ju f (by rcases Eg with rfl | rfl <;> simp) g (by rcases hg with rfl | rfl <;> simp))
  .have e:(eR pairs fA).map ((fun x=>x.1) ∘ dO (pT du ae pairs))=(eR pairs fA).map (·.1):=rfl
   rw[e];refine(Ae.map _).trans ?_;rw[en,ef];exact List.Sublist.append (j_ b1) (j_ hn)
  .have e:os2.map ((fun x=>x.1) ∘ dO (xp du ae gL fA pairs))=os2.map (·.1):=rfl
   rw[e,eg];exact j_ b2'
 .unfold jI;rw[List.length_append];omega
 .unfold jO;rw[List.length_append,List.length_map,List.length_map];omega
theorem yn(A1:Any (vg 97) ai gs1 aF)(A2:Any (vg 110) ae gs2 os2)(n u:Nat):ng ai.length ae.length gs1.length gs2.length aF.length os2.length n u=true:=by
 have a1:=A1.i3;have a2:=A2.i3;have b1:=A1.o3;have b2':=A2.o3;have g1:=A1.g;have g2:=A2.g;unfold ng;rw[decide_eq_true (by omega),decide_eq_true (by omega),decide_eq_true (by omega)];rfl
end
end K34
end
section
set_option maxHeartbeats 400000
namespace K34
open PySem PySem.Spec PyProof.Rows L2 L3 MT JT
theorem G6{g:Gt}:dt 2 (c9 g):=by
 refine dt.tup fun x hx=>?_
 simp only[List.mem_cons,List.not_mem_nil,or_false] at hx;rcases hx with rfl | rfl | rfl
 .refine(dt.str ?_).mono (by omega)
  unfold kS;split <;> decide+kernel
 .exact dt.tup fun d hd=>by obtain⟨z,_,rfl⟩:=List.mem_map.mp hd;exact dt.int _
 .exact(dt.bl _).mono (by omega)
theorem E8{x:Str × List Nat}(h:dt 0 (.str x.1)):dt 2 (dq x):=dt.tup fun d hd=>by
 simp only[List.mem_cons,List.not_mem_nil,or_false] at hd;rcases hd with rfl | rfl
 .exact h.mono (by omega)
 .exact dt.tup fun d hd=>by obtain⟨z,_,rfl⟩:=List.mem_map.mp hd;exact dt.int _
theorem rT{l:Tj}{gs:List Gt}{os:Tn}(fi:∀x∈l,dt 0 (.str x.1))(fo:∀x∈os,dt 0 (.str x.1)):dt 4 (au l gs os):=dt.tup fun d hd=>by
 simp only[List.mem_cons,List.not_mem_nil,or_false] at hd;rcases hd with rfl | rfl | rfl
 .exact dt.lst fun d hd=>by
   obtain⟨x,hx,rfl⟩:=List.mem_map.mp hd;exact(dt.tup (n:=0) fun d hd=>by
    simp only[List.mem_cons,List.not_mem_nil,or_false] at hd;rcases hd with rfl | rfl
    .exact fi x hx
    .exact dt.int _).mono (by omega)
 .exact dt.lst fun d hd=>by obtain⟨x,hx,rfl⟩:=List.mem_map.mp hd;exact G6
 .exact dt.lst fun d hd=>by obtain⟨x,hx,rfl⟩:=List.mem_map.mp hd;exact E8 (fo x hx)
def Ik:List Str:=(List.range 7).map (vg 97)++((List.range 4).map kN++(List.range 7).map (vg 110))
theorem rC:∀s∈Ik,dt 0 (.str s):=fun s hs=>dt.str (by
 have:∀s∈Ik,(PyData.str s).canLay0=true:=by decide+kernel
 exact this s hs)
theorem JF{k:Nat}(h:k < 7):vg 97 k∈Ik:=List.mem_append_left _ (List.mem_map_of_mem (List.mem_range.mpr h))
theorem I0{k:Nat}(h:k < 4):kN k∈Ik:=List.mem_append_right _ (List.mem_append_left _ (List.mem_map_of_mem (List.mem_range.mpr h)))
theorem Je{k:Nat}(h:k < 7):vg 110 k∈Ik:=List.mem_append_right _ (List.mem_append_right _ (List.mem_map_of_mem (List.mem_range.mpr h)))
structure Kq (ai ae:Tj) (gs1 gs2:List Gt) (aF os2:Tn) (pairs:List (Nat × Nat)):Prop where
 N1:dm ai gs1 aF
 N2:dm ae gs2 os2
 J:Kl ai ae gs1 gs2 aF os2 pairs
 i1:∀x∈ai,dt 0 (.str x.1)
 i2:∀x∈ae,dt 0 (.str x.1)
 o1:∀x∈aF,dt 0 (.str x.1)
 o2:∀x∈os2,dt 0 (.str x.1)
section
variable {ai ae du:Tj} {gs1 gs2 gL ij:List Gt} {aF os2 fA:Tn} {pairs:List (Nat × Nat)}
theorem two(A1:Any (vg 97) ai gs1 aF)(A2:Any (vg 110) ae gs2 os2)(P:vf aF ae ae.length pairs)(G:Gr ai aF ae os2 du gL fA ij)
 (hf:ng du.length ae.length gL.length ij.length fA.length os2.length pairs.length (mS ((pairs.map (·.1)).map fun(u:Nat)=>(u:Int))).length=true):Kq du ae gL ij fA os2 pairs:=by
 have a1:=A1.i3;have a2:=A2.i3;have b1:=A1.o3;have b2':=A2.o3;obtain⟨f,Eg,ef⟩:=A1.nO;obtain⟨g,hg,eg⟩:=A2.nO;obtain⟨m,hm,em⟩:=G.nI;obtain⟨n,hn,en⟩:=G.nO;have hf4:f<=4:=by rcases Eg with h | h <;> omega
 have hg4:g<=4:=by rcases hg with h | h <;> omega
 refine⟨G.N1,G.N2,P7 A1 A2 P G hf,fun x hx=>rC _ ?_,fun x hx=>rC _ ?_,fun x hx=>rC _ ?_,fun x hx=>rC _ ?_⟩
 .have h:x.1∈du.map (·.1):=List.mem_map_of_mem hx
  rw[em,A1.nI] at h;rcases List.mem_append.mp h with z | z
  .obtain⟨k,hk,e⟩:=List.mem_map.mp z;rw[<-e];exact JF (by have:=List.mem_range.mp hk;omega)
  .obtain⟨k,hk,e⟩:=List.mem_map.mp z;rw[<-e];exact I0 (by have:=List.mem_range.mp hk;omega)
 .have h:x.1∈ae.map (·.1):=List.mem_map_of_mem hx
  rw[A2.nI] at h;obtain⟨k,hk,e⟩:=List.mem_map.mp h;rw[<-e];exact Je (by have:=List.mem_range.mp hk;omega)
 .have h:x.1∈fA.map (·.1):=List.mem_map_of_mem hx
  rw[en,ef] at h;rcases List.mem_append.mp h with z | z
  .obtain⟨k,hk,e⟩:=List.mem_map.mp z;rw[<-e];exact JF (by have:=List.mem_range.mp hk;omega)
  .obtain⟨k,hk,e⟩:=List.mem_map.mp z;rw[<-e];exact I0 (by have:=List.mem_range.mp hk;omega)
 .have h:x.1∈os2.map (·.1):=List.mem_map_of_mem hx
  rw[eg] at h;obtain⟨k,hk,e⟩:=List.mem_map.mp h;rw[<-e];exact Je (by have:=List.mem_range.mp hk;omega)
abbrev wh(ai ae:Tj)(gs1 gs2:List Gt)(aF os2:Tn)(pairs:List (Nat × Nat)):D:=au (jI ai ae pairs) (jG ai ae gs1 gs2 aF pairs) (jO ai ae gs1 aF os2 pairs)
theorem FF(T:Kq ai ae gs1 gs2 aF os2 pairs):dt 4 (wh ai ae gs1 gs2 aF os2 pairs):=by
 refine rT (fun x hx=>?_) fun x hx=>?_
 .rcases List.mem_append.mp hx with z | z
  .exact T.i1 x z
  .exact T.i2 x (A0 z)
 .rcases List.mem_append.mp hx with z | z
  .obtain⟨y,hy,rfl⟩:=List.mem_map.mp z;exact T.o1 y (kc hy)
  .obtain⟨y,hy,rfl⟩:=List.mem_map.mp z;exact T.o2 y hy
theorem Iu{n:Nat}{ds:List D}(h:dt n (.lst ds))(hn:n<=64):n0 (.lst ds) (.lst ds)= .ok (.bl false):=by unfold n0;rw [h.Qa hn];rfl
theorem BN(T:Kq ai ae gs1 gs2 aF os2 pairs):n0 (.lst [au ai gs1 aF,au ae gs2 os2]) (.lst [au ai gs1 aF,au ae gs2 os2])= .ok (.bl false):=by
 refine Iu (n:=5) (dt.lst fun d hd=>?_) (by omega)
 simp only[List.mem_cons,List.not_mem_nil,or_false] at hd;rcases hd with rfl | rfl
 .exact rT T.i1 T.o1
 .exact rT T.i2 T.o2
theorem Gq(pairs:List (Nat × Nat)):n0 (.lst (pairs.map d5)) (.lst (pairs.map d5))= .ok (.bl false):=by
 refine Iu (n:=2) (dt.lst fun d hd=>?_) (by omega)
 obtain⟨q,_,rfl⟩:=List.mem_map.mp hd;refine dt.tup fun d hd=>?_
 simp only[List.mem_cons,List.not_mem_nil,or_false] at hd;rcases hd with rfl | rfl
 .exact dt.int _
 .exact dt.int _
end
theorem Jp{f g:FB}{δ:DE}{S:bc}{QB:Bool->bc->Prop}(h:W3 (f δ S) fun b S1=>b=false/\W3 (g δ S1) QB):W3 (Km f g δ S) QB:=W3.bind (h.mono fun _ _ ⟨e,h⟩=>by subst e;exact h)
abbrev vE(sc:D)(c:Int)(x2 x3 x4 x5 x6 x7 x8 x9 x10:Option V3):DE:=[some (.d sc),some (.d (.int c)),x2,x3,x4,x5,x6,x7,x8,x9,x10]
theorem Flat.three{S:bc}(h:Flat S)(a b c:List D):Flat (S++[.lst a, .lst b, .lst c]):=fun o ho=>by
 rcases List.mem_append.mp ho with z | z
 .exact h o z
 .simp only[List.mem_cons,List.not_mem_nil,or_false] at z;rcases z with rfl | rfl | rfl <;> exact fun _=>rfl
section
variable {sc:D} {c:Int} {ai ae:Tj} {gs1 gs2:List Gt} {aF os2:Tn} {pairs:List (Nat × Nat)} {S:bc} {x5 x6 x7 x8 x9 x10:Option V3}
theorem Iq{a b d:List D}{i k:Nat}{x9:Option V3}(ha:a.length < 10000)(hb:b.length < 10000)(hd:d.length < 10000)(hi:i < 3){x2 x3 x4:Option V3} :
 W3 (nY (vE sc c x2 x3 x4 x5 x6 x7 x8 x9 (some (.loc (S.length+i)))) (S++[.lst a, .lst b, .lst d])) fun o S2=>o= .nx (vE sc c x2 x3 x4 x5 x6 x7 x8 x9 (some (.loc (S.length+i))))/\∃a' b' d',S2=S++[SO.lst a',SO.lst b',SO.lst d']/\a'.length<=a.length+1/\b'.length<=b.length+1/\d'.length<=d.length+1:=by
 have hz:sizeLine=16777216:=sizeLine_eq;unfold nY
 match i,hi with
 | 0,_=>
   have g:(S++[SO.lst a,SO.lst b,SO.lst d])[S.length+0]? =some (.lst a):=by rw[d9];rfl
   refine nh (k:=S.length+0) rfl ⟨_,g⟩ (cX (d:= .tup [.str (Str.ofString "zebra"), .int 1]) (bb rfl (by simp;omega)) ⟨_,_,rfl,g,by omega,rfl,_,_,_,by rw[List.set_append_right _ _ (by omega),Nat.add_sub_cancel_left];rfl,by rw[List.length_append];exact Nat.le_refl _,by omega,by omega⟩)
 | 1,_=>
   have g:(S++[SO.lst a,SO.lst b,SO.lst d])[S.length+1]? =some (.lst b):=by rw[d9];rfl
   refine nh (k:=S.length+1) rfl ⟨_,g⟩ (cX (d:= .tup [.str (Str.ofString "zebra"), .int 1]) (bb rfl (by simp;omega)) ⟨_,_,rfl,g,by omega,rfl,_,_,_,by rw[List.set_append_right _ _ (by omega),Nat.add_sub_cancel_left];rfl,by omega,by rw[List.length_append];exact Nat.le_refl _,by omega⟩)
 | 2,_=>
   have g:(S++[SO.lst a,SO.lst b,SO.lst d])[S.length+2]? =some (.lst d):=by rw[d9];rfl
   refine nh (k:=S.length+2) rfl ⟨_,g⟩ (cX (d:= .tup [.str (Str.ofString "zebra"), .int 1]) (bb rfl (by simp;omega)) ⟨_,_,rfl,g,by omega,rfl,_,_,_,by rw[List.set_append_right _ _ (by omega),Nat.add_sub_cancel_left];rfl,by omega,by omega,by rw[List.length_append];exact Nat.le_refl _⟩)
end
end K34
end
section
namespace K34
open PySem PySem.Spec PyProof.Rows L2 L3 MT JT
section
variable {sc:D} {c:Int} {ai ae:Tj} {gs1 gs2:List Gt} {aF os2:Tn} {pairs:List (Nat × Nat)} {S:bc} {x5 x6 x7 x8 x9 x10:Option V3}
abbrev Qc:FZ:=(bD (b9 6 (jh iU (bO (xP (af 2)) (bO (xP (af 3)) (bO (xP (af 4)) iJ))))) (bD (b9 7 (fX (iP (bV (eNew (dP (ag (af 2) (ag (af 3) aD)))))) (gG 0) oU (xP (cN (ag (aG jH (ag (e2 bJ (af 0) (eC (.int 0))) aD)) (ag (aG jH (ag (e2 bJ (af 0) (eC (.int 1))) aD)) (ag (aG jH (ag (e2 bJ (af 0) (eC (.int 2))) aD)) aD))))) [(Str.ofString "net")] [])) (bD (b9 8 (xP (aG jH (ag (af 4) aD)))) (bD (b9 9 (jh f7 (bO (xP (e2 bJ (af 7) (eC (.int 0)))) (bO (xP (e2 bJ (af 7) (eC (.int 1)))) (bO (xP (af 8)) iJ))))) (bD (xG (bT (t5 (yx (qe (v7 "tuple" (af 9)))) (t5 (b2 n0 (af 9) (af 6)) (t5 (b2 n0 (af 7) (eNew (dP (ag (af 2) (ag (af 3) aD))))) (b2 n0 (af 8) (af 4)))))) (mC (xP (eC (.bl false)))) lV) (bD (xG (bT (b2 n0 (eNew (cb (bV (e2 bJ (af 9) (eC (.int 1)))) (aJ 0) (yx (qe (v7 "bool" (e2 bJ (af 0) (eC (.int 2)))))) (af 0) [(Str.ofString "gate")] [])) (eNew (dP aD)))) (mC (xP (eC (.bl false)))) lV) (bD (jT (BD (lr 9)) (gG 10) nY) (xG (Km (Kd n0 (jh kr (bO (xP (e2 bJ (af 7) (eC (.int 0)))) (bO (xP (e2 bJ (af 7) (eC (.int 1)))) (bO (xP (af 8)) iJ)))) (xP (af 6))) (bP (b2 n0 (af 7) (eNew (dP (ag (af 2) (ag (af 3) aD))))))) (mC (xP (eC (.bl false)))) lV))))))))
theorem AU{p q:aq->R Bool}{δ:aq}(h:p δ= .ok false)(h2:q δ= .ok false):t5 p q δ= .ok false:=by
 unfold t5;rw[h,R.aM,if_neg (by decide)];exact h2
theorem BF{δ:aq}(h2:af 2 δ= .ok (au ai gs1 aF))(h3:af 3 δ= .ok (au ae gs2 os2)):eNew (dP (ag (af 2) (ag (af 3) aD))) δ= .ok (.lst [au ai gs1 aF,au ae gs2 os2]):=by
 have hz:sizeLine=16777216:=sizeLine_eq;exact bE (nV (ao h2 (ao h3 rfl)) (by simp;omega))
theorem wV(T:Kq ai ae gs1 gs2 aF os2 pairs)(hS:Flat S) :
 W3 (Qc (vE sc c (some (.d (au ai gs1 aF))) (some (.d (au ae gs2 os2))) (some (.d (.lst (pairs.map d5)))) x5 x6 x7 x8 x9 x10) S) fun o S2=>(∃y2 y3 y4 y5 y6 y7 y8 y9 wq,o= .nx (vE sc c y2 y3 y4 y5 y6 y7 y8 y9 wq))/\Flat S2/\∃U,S2=S++U:=by
 have hz:sizeLine=16777216:=sizeLine_eq;have hgl:(jG ai ae gs1 gs2 aF pairs).length<=60:=by unfold jG gJ;rw [List.length_append,List.length_map,List.length_map];exact T.J.rg
 refine aZ <| bG (by simp) <| lq <| b7 <| cX (d:=au ai gs1 aF) rfl <| b7 <| cX (d:=au ae gs2 os2) rfl <| b7 <| cX (d:= .lst (pairs.map d5)) rfl <| jP <| FL T.N1 T.N2 T.J.F T.J.nd hS.clo ⟨_,rfl,?_⟩
 simp only[List.set];refine aZ <| bG (by simp) <| fY (fun j ds S2=>S2=S/\ds=[au ai gs1 aF,au ae gs2 os2].take j) <| hV (ds:=[au ai gs1 aF,au ae gs2 os2]) (gp (BF rfl rfl)) ⟨by simp;omega,⟨rfl,rfl⟩,?_,?_⟩
 .rintro j v ds S2 hv ⟨rfl,rfl⟩
  match j,hv with
  | 0,hv=>
    cases hv;refine⟨[some (.d (au ai gs1 aF))],rfl,pj ?_⟩;rw[if_pos rfl];exact cX (d:=au ai gs1 aF) (bb rfl (by simp;omega)) ⟨_,rfl,rfl,rfl⟩
  | 1,hv=>
    cases hv;refine⟨[some (.d (au ae gs2 os2))],rfl,pj ?_⟩;rw[if_pos rfl];exact cX (d:=au ae gs2 os2) (bb rfl (by simp;omega)) ⟨_,rfl,rfl,rfl⟩
 rintro ds S2 ⟨e2,e3⟩;have e3:ds=[au ai gs1 aF,au ae gs2 os2]:=e3;subst e2 e3;refine⟨_,rfl,?_⟩;simp only[List.set];refine aZ <| bG (by simp) <| cX (d:= .lst (pairs.map d5)) (av (ds:=[.lst (pairs.map d5)]) rfl rfl) ⟨_,rfl,?_⟩
 simp only[List.set];refine aZ <| bG (by simp) <| lq <| b7 <| cX (d:=au ai gs1 aF) (aw (a:= .lst [au ai gs1 aF,au ae gs2 os2]) (b:= .int 0) rfl rfl rfl) <| b7 <| cX (d:=au ae gs2 os2) (aw (a:= .lst [au ai gs1 aF,au ae gs2 os2]) (b:= .int 1) rfl rfl rfl) <| b7 <| cX (d:= .lst (pairs.map d5)) rfl <| jP <| oa T.N1 T.N2 T.J hS.clo ⟨_,rfl,?_⟩
 simp only[List.set];have hr:res (S2++[SO.lst ((jI ai ae pairs).map MT.inD),SO.lst ((jG ai ae gs1 gs2 aF pairs).map c9),SO.lst ((jO ai ae gs1 aF os2 pairs).map dq)]) (.tup [.loc S2.length, .loc (S2.length+1), .loc (S2.length+2)])=some (wh ai ae gs1 gs2 aF os2 pairs):=by
  unfold wh au;generalize (jI ai ae pairs).map MT.inD=lI;generalize (jG ai ae gs1 gs2 aF pairs).map c9=lG;generalize (jO ai ae gs1 aF os2 pairs).map dq=lO;have v0:res (S2++[SO.lst lI,SO.lst lG,SO.lst lO]) (.loc S2.length)=some (.lst lI):=mB (d9 S2 _ 0);have v1:res (S2++[SO.lst lI,SO.lst lG,SO.lst lO]) (.loc (S2.length+1))=some (.lst lG):=mB (d9 S2 _ 1);have v2:res (S2++[SO.lst lI,SO.lst lG,SO.lst lO]) (.loc (S2.length+2))=some (.lst lO):=mB (d9 S2 _ 2);unfold res lJ lJ lJ lJ;rw[v0,v1,v2];rfl
 have hwf:=FF T;refine aZ <| rV <| DC (b:=false) (AU ?_ (AU (cE (a:=wh ai ae gs1 gs2 aF os2 pairs) (b:=wh ai ae gs1 gs2 aF os2 pairs) (qD rfl hr) rfl (NT.ne_self hwf (by omega))) (AU (cE (a:= .lst [au ai gs1 aF,au ae gs2 os2]) (b:= .lst [au ai gs1 aF,au ae gs2 os2]) rfl (BF rfl rfl) (BN T)) (cE (a:= .lst (pairs.map d5)) (b:= .lst (pairs.map d5)) rfl rfl (Gq pairs))))) ?_
 .show(qe (v7 "tuple" (af 9)) _).bind _=_;have e:v7 "tuple" (af 9) (dW (S2++[SO.lst ((jI ai ae pairs).map MT.inD),SO.lst ((jG ai ae gs1 gs2 aF pairs).map c9),SO.lst ((jO ai ae gs1 aF os2 pairs).map dq)]) (vE sc c (some (.d (au ai gs1 aF))) (some (.d (au ae gs2 os2))) (some (.d (.lst (pairs.map d5)))) x5 (some (.d (wh ai ae gs1 gs2 aF os2 pairs))) (some (.d (.lst [au ai gs1 aF,au ae gs2 os2]))) (some (.d (.lst (pairs.map d5)))) (some (.tup [.loc S2.length, .loc (S2.length+1), .loc (S2.length+2)])) x10))= .ok (.bl true):=by
   show((af 9) _).bind _=_;rw[qD rfl hr];rfl
  unfold qe;rw[e];rfl
 rw[if_neg (by decide)]
 refine iY ⟨_,rfl,?_⟩;refine aZ <| rV <| DC (b:=false) (cE (a:= .lst []) (b:= .lst []) (bE (bK (ds:=(jG ai ae gs1 gs2 aF pairs).map c9) (gp (aw (a:=wh ai ae gs1 gs2 aF os2 pairs) (b:= .int 1) (qD rfl hr) rfl rfl)) (by rw[List.length_map];omega) ((NT.fq (fun _=>false) c9 c9 fun g hg=>⟨[.val (c9 g)],rfl,rfl,fun h=>by cases h⟩).trans (by rw[List.filter_eq_nil_iff.mpr fun _ _ h=>by cases h];rfl)))) rfl rfl) ?_
 rw[if_neg (by decide)]
 refine iY ⟨_,rfl,?_⟩;generalize hlI:(jI ai ae pairs).map MT.inD=lI;generalize hlG:(jG ai ae gs1 gs2 aF pairs).map c9=lG;generalize hlO:(jO ai ae gs1 aF os2 pairs).map dq=lO;have b1:lI.length<=6:=by rw[<-hlI,List.length_map];exact T.J.ri
 have b2':lG.length<=60:=by rw[<-hlG,List.length_map];exact hgl
 have b3:lO.length<=6:=by rw[<-hlO,List.length_map];exact T.J.ro
 refine aZ <| ik <| Hi <| w_var (v:= .tup [.loc S2.length, .loc (S2.length+1), .loc (S2.length+2)]) rfl ⟨_,rfl,?_⟩
 refine(cy (fun i δ S3=>∃wq a b d,δ=vE sc c (some (.d (au ai gs1 aF))) (some (.d (au ae gs2 os2))) (some (.d (.lst (pairs.map d5)))) x5 (some (.d (wh ai ae gs1 gs2 aF os2 pairs))) (some (.d (.lst [au ai gs1 aF,au ae gs2 os2]))) (some (.d (.lst (pairs.map d5)))) (some (.tup [.loc S2.length, .loc (S2.length+1), .loc (S2.length+2)])) wq/\S3=S2++[SO.lst a,SO.lst b,SO.lst d]/\a.length<=100+i/\b.length<=100+i/\d.length<=100+i)
  ⟨_,lI,lG,lO,rfl,rfl,by omega,by omega,by omega⟩ ?_).mono fun o S3 ⟨e8,iG,wq,a,b,d,hδ,Rt,_,_,_⟩=>⟨e8,iG,?_⟩
 .rintro i v δ S3 hv ⟨wq,a,b,d,rfl,rfl,ha,hb,hd⟩;have hi3:i < 3:=(List.getElem?_eq_some_iff.mp hv).1;have hv2:v= .loc (S2.length+i):=by
   match i,hv,hi3 with
   | 0,hv,_=>cases hv;rfl
   | 1,hv,_=>cases hv;rfl
   | 2,hv,_=>cases hv;rfl
  subst hv2;exact⟨_,rfl,(Iq (k:=0) (by omega) (by omega) (by omega) hi3).mono fun o S4 ⟨e1,a',b',d',e3,l1,l2,l3⟩=>⟨_,e1,_,a',b',d',rfl,e3,by omega,by omega,by omega⟩⟩
 subst hδ Rt;have hf3:=K34.Flat.three hS a b d;refine rV <| Jp <| L7 <| lq <| b7 <| cX (d:=au ai gs1 aF) (aw (a:= .lst [au ai gs1 aF,au ae gs2 os2]) (b:= .int 0) rfl rfl rfl) <| b7 <| cX (d:=au ae gs2 os2) (aw (a:= .lst [au ai gs1 aF,au ae gs2 os2]) (b:= .int 1) rfl rfl rfl) <| b7 <| cX (d:= .lst (pairs.map d5)) rfl <| jP <| vp T.N1 T.N2 T.J hf3.clo <| cX (d:=wh ai ae gs1 gs2 aF os2 pairs) rfl ⟨_,_,false,rfl,rfl,NT.ne_self hwf (by omega),rfl,?_⟩
 refine uT (b:=false) (cE (a:= .lst [au ai gs1 aF,au ae gs2 os2]) (b:= .lst [au ai gs1 aF,au ae gs2 os2]) rfl (BF rfl rfl) (BN T)) ?_;rw[if_neg (by decide)]
 exact iY ⟨⟨_,_,_,_,_,_,_,_,_,rfl⟩,hf3,_,rfl⟩
end
end K34
end
section
namespace K34
open PySem PySem.Spec PyProof.Rows L2 L3 MT JT
section
variable {sc:D} {c:Int} {S:bc}
theorem AE{x2 x3 x4 x5 x6 x7 x8 x9 x10:Option V3}(f0:Flat S) :
 W3 (rS (vE sc c x2 x3 x4 x5 x6 x7 x8 x9 x10) S) fun o S2=>(∃y2 y3 y4 y5 y6 y7 y8 y9 wq,o= .nx (vE sc c y2 y3 y4 y5 y6 y7 y8 y9 wq))/\Flat S2/\∃U,S2=S++U:=by
 have hz:sizeLine=16777216:=sizeLine_eq;unfold rS;refine aZ <| bG (by simp) <| lq <| b7 <| cX (d:= .int c) rfl <| b7 <| cX (d:=nI 0) rfl <| b7 <| cX (d:= .str LA) rfl <| b7 <| cX (d:=B6) rfl <| jP <| zF Lc f0 fun ai gs1 aF A1=>⟨_,rfl,?_⟩
 simp only[List.set];refine aZ <| bG (by simp) <| lq <| b7 <| cX (d:= .int c) rfl <| b7 <| cX (d:=nI 150) rfl <| b7 <| cX (d:= .str LN) rfl <| b7 <| cX (d:=B6) rfl <| jP <| zF KH f0 fun ae gs2 os2 A2=>⟨_,rfl,?_⟩
 simp only[List.set];refine aZ <| bG (by simp) <| lq <| b7 <| cX (d:= .int c) rfl <| b7 <| cX (d:=au ai gs1 aF) rfl <| b7 <| cX (d:=au ae gs2 os2) rfl <| jP <| An A1.N A2.N f0 fun pairs P=>⟨_,rfl,?_⟩
 simp only[List.set];obtain⟨du,gL,fA,ij,G,eg⟩:=Bo A1 A2 c;have F:=xk G P.F;have MK:=G.N1.hi;have Ii:=A2.N.hi;refine aZ <| bG (by simp) <| cX (d:= .tup [au du gL fA,au ae ij os2]) (av (ds:=[.int c,au ai gs1 aF,au ae gs2 os2]) rfl eg) ⟨_,rfl,?_⟩
 simp only[List.set];have hft:=Ak (gs1:=gL) (gs2:=ij) (os2:=os2) MK Ii P.l (xi F).1;generalize hb:ng du.length ae.length gL.length ij.length fA.length os2.length pairs.length (mS ((pairs.map (·.1)).map fun(u:Nat)=>(u:Int))).length=b at hft
 refine aZ <| rV <| uT (b:=b) ?_ ?_
 .unfold qe;rw[av (ds:=[au du gL fA,au ae ij os2, .lst (pairs.map d5)]) (ao (aw (a:= .tup [au du gL fA,au ae ij os2]) (b:= .int 0) rfl rfl rfl) (ao (aw (a:= .tup [au du gL fA,au ae ij os2]) (b:= .int 1) rfl rfl rfl) (ao rfl rfl))) hft];rfl
 cases b with
 | true=>
   rw[if_pos rfl];refine Jq <| cX (d:= .tup [au du gL fA,au ae ij os2]) rfl ⟨_,rfl,_,rfl,?_⟩
   exact wV (two A1 A2 P G hb) f0
 | false=>
   rw[if_neg (by decide)]
   refine iY ⟨_,rfl,?_⟩;exact wV (two A1 A2 P (xl A1 A2) (yn A1 A2 _ _)) f0
end
theorem Hm(ns:List Int):HZ (.lst (ns.map .int)) none (some 12)= .ok (.lst ((ns.take 12).map .int)):=by
 show R.ok (D.lst (L2.cutD (ns.map .int) none (some ((12:Nat):Int))))=_;unfold L2.cutD;rw[List.length_map,HT.DO,HT.Ad,List.map_take];congr 2;show(ns.map D.int).take (min 12 ns.length - 0)=(ns.map D.int).take 12;by_cases h:12<=ns.length
 .rw [Nat.min_eq_left h]
 .rw [Nat.min_eq_right (by omega),List.take_of_length_le (by rw[List.length_map];omega),List.take_of_length_le (by rw[List.length_map];omega)]
theorem Bx(ns:List Int)(hn:ns.length<=63):x_ [.lst (ns.map D.int)]= .ok (.bl true):=by
 have hz:sizeLine=16777216:=sizeLine_eq;have f0:Flat ([]:bc):=Flat.nil;have key:W3 (xJ nu pP [.d (.lst (ns.map .int))] []) fun v S1=>v= .d (.bl true)/\S1=[]:=by
  refine oi f0.clo (HU rfl ?_);simp only[eE,nu,List.map,List.length,List.replicate,List.cons_append,List.nil_append,Nat.reduceAdd,Nat.reduceSub];unfold pP;have ht:(ns.take 12).length<=12:=by rw[List.length_take];omega
  refine aZ <| ik <| hV (ds:=((0:Int) ::ns.take 12).map D.int) (gp (aw (a:= .lst [.int 0]) (b:= .lst ((ns.take 12).map .int)) rfl (zT (d:= .lst (ns.map .int)) (lo:=none) (hi:=some 12) rfl rfl (tP rfl) (Hm ns)) (Jj (by rw[List.length_map];simp;omega)))) ?_
  refine(cy (fun i δ S2=>(∃x1 y2 y3 y4 y5 y6 y7 y8 y9 wq,δ=[some (.d (.lst (ns.map .int))),x1,y2,y3,y4,y5,y6,y7,y8,y9,wq])/\Flat S2)
   ⟨⟨_,_,_,_,_,_,_,_,_,_,rfl⟩,f0⟩ ?_).mono fun o S2 ⟨e8,iG,⟨x1,y2,y3,y4,y5,y6,y7,y8,y9,wq,hδ⟩,nS⟩=>⟨e8,iG,?_⟩
  .rintro i v δ S2 hv ⟨⟨x1,y2,y3,y4,y5,y6,y7,y8,y9,wq,rfl⟩,fl⟩;obtain⟨c,hc,rfl⟩:=NT.dn hv;exact⟨_,rfl,(AE fl).mono fun o S3 ⟨⟨z2,z3,z4,z5,z6,z7,z8,z9,S8,e1⟩,e2,e3⟩=>⟨_,e1,⟨_,_,_,_,_,_,_,_,_,_,rfl⟩,e2⟩⟩
  subst hδ;exact q8 <| cX (d:= .bl true) rfl ⟨_,rfl,rfl,⟨_,(List.nil_append _).symm⟩,_,rfl,rfl,trivial⟩
 obtain⟨v,S1,e1,iG,e3⟩:=key;unfold x_ Ku;show(match xJ nu pP ([D.lst (ns.map D.int)].map V3.d) [] with | .ok (.d d) []=>R.aR d.atom (R.ok d) | _=> .no)=_
 rw[show [D.lst (ns.map D.int)].map V3.d=[V3.d (.lst (ns.map .int))] from rfl,e1,iG,e3]
 rfl
end K34
end
open PySem PySem.W PyProof.Rows
set_option maxRecDepth 100000 in
set_option maxHeartbeats 0 in
theorem PySem.Challenge.cw_bearfaults_k34_nets_joined_holds : PySem.Challenge.rw_bearfaults_k34_nets_joined.Holds := by
 w_on;o_law;k_head;(case hw=>w_witness2)
 k_fill
 refine L2.Jy (l:=PySem.Challenge.rw_bearfaults_k34_nets_joined) (n:=63) (k:=4) (x:="script") (g:=K34.x_) rfl (by decide) rfl ⟨rfl,by decide,by decide⟩ (fun w h Y=>PySem.W.kIn_of Y) ?F K34.Bx
 case F=>
  intro w mg fa h KX G J3
  have i9:L2.Def (L2.f9 KX) mg "check_fits" K34.eS:=by
   dsimp only[L2.f9]
   refine' L2.cR KX G ?a ?l ?c ?k
   (case a=>k_is);(case l=>k_is);(case c=>k_is);(case k=>k_is)
  have ig:L2.Def (L2.f9 KX) mg "outs_of_ins" K34.dQ:=by
   dsimp only[L2.f9]
   refine' L2.cR KX G ?a ?l ?c ?k
   (case a=>k_is);(case l=>k_is);(case c=>k_is);(case k=>k_is)
  have h_:L2.Def (L2.f9 KX) mg "check_names" K34.dU:=by
   dsimp only[L2.f9]
   refine' L2.cR KX G ?a ?l ?c ?k
   (case a=>k_is);(case l=>k_is);(case c=>k_is);(case k=>k_is)
  have i4:L2.Def (L2.f9 KX) mg "check_room" K34.eG:=by
   dsimp only[L2.f9]
   refine' L2.cR KX G ?a ?l ?c ?k
   (case a=>k_is);(case l=>k_is);(case c=>k_is);(case k=>k_is)
  have i_:L2.Def (L2.f9 KX) mg "many_wires" K34.eJ:=by
   dsimp only[L2.f9]
   refine' L2.cR KX G ?a ?l ?c ?k
   (case a=>k_is);(case l=>k_is);(case c=>k_is);(case k=>k_is)
  have m5:L2.Def (L2.f9 KX) mg "rewired" K34.iE:=by
   dsimp only[L2.f9]
   refine' L2.cR KX G ?a ?l ?c ?k
   (case a=>k_is);(case l=>k_is);(case c=>k_is);(case k=>k_is)
  have fV:L2.Def (L2.f9 KX) mg "rewired_gates" K34.dg:=by
   dsimp only[L2.f9]
   refine' L2.cR KX G ?a ?l ?c ?k
   (case a=>k_is);(case l=>k_is);(case c=>k_is);(case k=>k_is)
  have gu:L2.Def (L2.f9 KX) mg "rewired_outs" K34.dz:=by
   dsimp only[L2.f9]
   refine' L2.cR KX G ?a ?l ?c ?k
   (case a=>k_is);(case l=>k_is);(case c=>k_is);(case k=>k_is)
  have hW:L2.Def (L2.f9 KX) mg "one_numbers" K34.dY:=by
   dsimp only[L2.f9]
   refine' L2.cR KX G ?a ?l ?c ?k
   (case a=>k_is);(case l=>k_is);(case c=>k_is);(case k=>k_is)
  have fU:L2.Def (L2.f9 KX) mg "other_numbers" K34.dj:=by
   dsimp only[L2.f9]
   refine' L2.cR KX G ?a ?l ?c ?k
   (case a=>k_is);(case l=>k_is);(case c=>k_is);(case k=>k_is)
  have pV:L2.Def (L2.f9 KX) mg "joined" K34.jz:=by
   dsimp only[L2.f9]
   refine' L2.cR KX G ?a ?l ?c ?k
   (case a=>k_is);(case l=>k_is);(case c=>k_is);(case k=>k_is)
  have lM:L2.Def (L2.f9 KX) mg "_law_stir" K34.gb:=by
   dsimp only[L2.f9]
   refine' L2.cR KX G ?a ?l ?c ?k
   (case a=>k_is);(case l=>k_is);(case c=>k_is);(case k=>k_is)
  have ie:L2.Def (L2.f9 KX) mg "_law_any_net" K34.dR:=by
   dsimp only[L2.f9]
   refine' L2.cR KX G ?a ?l ?c ?k
   (case a=>k_is);(case l=>k_is);(case c=>k_is);(case k=>k_is)
  have j6:L2.Def (L2.f9 KX) mg "_law_pairs" K34.fL:=by
   dsimp only[L2.f9]
   refine' L2.cR KX G ?a ?l ?c ?k
   (case a=>k_is);(case l=>k_is);(case c=>k_is);(case k=>k_is)
  have i8:L2.Def (L2.f9 KX) mg "_law_labels" K34.eQ:=by
   dsimp only[L2.f9]
   refine' L2.cR KX G ?a ?l ?c ?k
   (case a=>k_is);(case l=>k_is);(case c=>k_is);(case k=>k_is)
  have m6:L2.Def (L2.f9 KX) mg "_law_due" K34.iq:=by
   dsimp only[L2.f9]
   refine' L2.cR KX G ?a ?l ?c ?k
   (case a=>k_is);(case l=>k_is);(case c=>k_is);(case k=>k_is)
  have j7:L2.Def (L2.f9 KX) mg "_law_moved" K34.fI:=by
   dsimp only[L2.f9]
   refine' L2.cR KX G ?a ?l ?c ?k
   (case a=>k_is);(case l=>k_is);(case c=>k_is);(case k=>k_is)
  have j4:L2.Def (L2.f9 KX) mg "_law_grown" K34.fK:=by
   dsimp only[L2.f9]
   refine' L2.cR KX G ?a ?l ?c ?k
   (case a=>k_is);(case l=>k_is);(case c=>k_is);(case k=>k_is)
  have lL:L2.Def (L2.f9 KX) mg "_law_fits" K34.gq:=by
   dsimp only[L2.f9]
   refine' L2.cR KX G ?a ?l ?c ?k
   (case a=>k_is);(case l=>k_is);(case c=>k_is);(case k=>k_is)
  have D_law:L2.Def (L2.f9 KX) mg "law" K34.wA:=by
   dsimp only[L2.f9]
   refine' L2.cR KX G ?a ?l ?c ?k
   (case a=>k_is);(case l=>k_is);(case c=>k_is);(case k=>k_is)
  have wo:L2.Glob (L2.f9 KX) mg "MOST_INS" K34.fw:=by
   dsimp only[L2.f9]
   refine' L2.og KX G ?a
   (case a=>k_is)
  have sU:L2.Glob (L2.f9 KX) mg "MOST_GATES" K34.dC:=by
   dsimp only[L2.f9]
   refine' L2.og KX G ?a
   (case a=>k_is)
  have vd:L2.Glob (L2.f9 KX) mg "MOST_OUTS" K34.eh:=by
   dsimp only[L2.f9]
   refine' L2.og KX G ?a
   (case a=>k_is)
  have T:K34.Tp (L2.f9 KX) mg:=by
   dsimp only[L2.f9]
   refine' ⟨PySem.W.mg_none_of KX G ?z_len,PySem.W.mg_none_of KX G ?z_sum,PySem.W.mg_none_of KX G ?z_tuple,PySem.W.mg_none_of KX G ?z_list,PySem.W.mg_none_of KX G ?z_range,PySem.W.mg_none_of KX G ?z_enumerate,PySem.W.mg_none_of KX G ?z_int,PySem.W.mg_none_of KX G ?z_min,PySem.W.mg_none_of KX G ?z_set,PySem.W.mg_none_of KX G ?z_isinstance,PySem.W.mg_none_of KX G ?z_bool,wo,sU,vd⟩
   (case z_len=>k_is);(case z_sum=>k_is);(case z_tuple=>k_is);(case z_list=>k_is);(case z_range=>k_is);(case z_enumerate=>k_is);(case z_int=>k_is);(case z_min=>k_is);(case z_set=>k_is);(case z_isinstance=>k_is);(case z_bool=>k_is)
  obtain⟨fl,fd,Fl,hl⟩:=D_law
  have e0:=J3.symm.trans hl
  cases e0
  refine' ⟨fd,?b,fun base kb nb=>K34.Hz T i9 ig h_ i4 i_ m5 fV gu hW fU pV lM ie j6 i8 m6 j7 j4 lL Fl⟩
  obtain⟨_,_,_,_,_,_,_,_,_,e,_,_⟩:=Fl.ex
  subst e
  exact fun s u=> .of_eq rfl
