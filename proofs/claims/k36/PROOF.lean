import PyProof.Rows.All
import Wide.All
import OpenK.AllK
import Wide.FinOn
import Lean
import PyProof.EqAt
import PyProof.EqKinds
import PyProof.TupleCall
import PyProof.Rows.StrJoin2
import PyProof.TupleOfGen
import PyProof.ListRange
import PyProof.Draws
import PyProof.Rows.StrClose3
import KE.KSortedM
import PyProof.Rows.SortWalk
import PyProof.WalkInts
import PyProof.Rows.Range3
import PyProof.ZipIter
import PyProof.ConsumeWalk
import PyProof.Rows.SeqMore
import KE.KRevIter
import KE.KRevSl
import KE.KUnpack
import KE.KDictSum
import KE.KTupSum
import KE.KSortTup
import KE.KDictOf
import PyProof.AttrMissSeq
import PySem.Challenge.RW_bearfaults_k36_whole_joined_runs_on
noncomputable section
set_option bootstrap.genMatcherCode false
section
open PySem
abbrev PM:=List (Addr×Obj)
abbrev PQ:=Value->Shared->Prop
abbrev PR:=List (Str×Nat)
abbrev PU:=List (Str×List Nat)
abbrev PV:=List (List Nat)
abbrev PY:=Str->Option Value
abbrev P0:=Nat->Addr
end
def PySem.W.Fast.tw6986190266376803269:=0
def PySem.W.Fast.tw16730303559545323328:=0
def PySem.W.Fast.tw10868038190773685745:=0
def PySem.W.Fast.tw16431823624326856690:=0
def PySem.W.Fast.tw11718541012222259553:=0
def PySem.W.Fast.tw6757938734421284158:=0
def PySem.W.Fast.tw16248975225921322335:=0
def PySem.W.Fast.tw9362568392230157181:=0
def PySem.W.Fast.tw13936508507309171467:=0
def PySem.W.Fast.tw13010716352348551934:=0
def PySem.W.Fast.tw9711667157205354569:=0
def PySem.W.Fast.tw7291050942824909328:=0
def PySem.W.Fast.tw14638674509152659405:=0
def PySem.W.Fast.tw16915777500674002231:=0
def PySem.W.Fast.tw13067349017094500128:=0
def PySem.W.Fast.tw5407494776876236408:=0
def PySem.W.Fast.tw938645536618914418:=0
def PySem.W.Fast.tw6009858656322013743:=0
def PySem.W.Fast.tw5455281203001747996:=0
def PySem.W.Fast.tw1782600157620945621:=0
def PySem.W.Fast.tw17715947856721922385:=0
def PySem.W.Fast.tw9267922986500530631:=0
def PySem.W.Fast.tw6611400444104608336:=0
def PySem.W.Fast.tw7150690425841430591:=0
def PySem.W.Fast.tw2418436992082505826:=0
def PySem.W.Fast.tw6861279017357286708:=0
def PySem.W.Fast.tw120741493418073770:=0
def PySem.W.Fast.tw9668133100993402122:=0
def PySem.W.Fast.tw6754357196237723198:=0
def PySem.W.Fast.tw18040451858460917848:=0
def PySem.W.Fast.tw3791755605917092483:=0
def PySem.W.Fast.tw5330544831380404214:=0
def PySem.W.Fast.tw357373024785129624:=0
def PySem.W.Fast.tw11197347626778255403:=0
def PySem.W.Fast.tw10672752322154621025:=0
def PySem.W.Fast.tw10067442543748782606:=0
def PySem.W.Fast.tw17041181566094858745:=0
def PySem.W.Fast.tw3359767964527722061:=0
def PySem.W.Fast.tw9648373810971467560:=0
def PySem.W.Fast.tw15338744922555261588:=0
set_option Elab.async false
set_option linter.all false
set_option maxRecDepth 100000
set_option maxHeartbeats 4000000
section
namespace L2
open PySem PySem.Spec PyProof.Rows
abbrev Key:=Sum Int Str
def qA:Key->Value->Bool
 | .inl k,v=>Value.isInt k v
 | .inr x,v=>Value.isStrOf x v
def Js(w:World):Key->Int
 | .inl k=>hashInt k
 | .inr x=>hashStr w x
theorem cM:∀{k:Key} {v:Value},qA k v=true->(∃i t,k=Sum.inl i/\v=Value.int i t)\/(∃x t,k=Sum.inr x/\v=Value.str x t)
 | .inl i,v,h=>by
   obtain⟨t,e⟩:=Value.isInt_shape (k:=i) (v:=v) h;exact .inl ⟨i,t,rfl,e⟩
 | .inr x,v,h=>by
   obtain⟨t,e⟩:=Value.isStrOf_shape (x:=x) (v:=v) h;exact .inr ⟨x,t,rfl,e⟩
theorem xC(i:Int)(t:Tok):qA (.inl i) (.int i t)=true:=by simp [qA,Value.isInt]
theorem w6(x:Str)(t:Tok):qA (.inr x) (.str x t)=true:=by simp [qA,Value.isStrOf]
theorem Fh(a b:Int):decide ((Sum.inl a:Key)=Sum.inl b)=(a==b):=by
 by_cases e:a=b
 .subst e;simp
 .have h:¬(Sum.inl a:Key)=Sum.inl b:=fun q=>e (Sum.inl.inj q)
  rw[decide_eq_false h];exact(beq_eq_false_iff_ne.mpr e).symm
theorem Fd(a b:Str):decide ((Sum.inr a:Key)=Sum.inr b)=decide (a=b):=by
 by_cases e:a=b
 .subst e;simp
 .have h:¬(Sum.inr a:Key)=Sum.inr b:=fun q=>e (Sum.inr.inj q)
  rw[decide_eq_false h,decide_eq_false e]
theorem FC(a:Int)(b:Str):decide ((Sum.inl a:Key)=Sum.inr b)=false:=decide_eq_false (fun q=>nomatch q)
theorem El(a:Str)(b:Int):decide ((Sum.inr a:Key)=Sum.inl b)=false:=decide_eq_false (fun q=>nomatch q)
def cn(prog:Program)(w:World):PySem.KeyKind prog w Key where
 is:=qA
 hash:=Js w
 inj:=fun v a b ha hb=>by
  rcases cM ha with⟨i,t,rfl,rfl⟩ | ⟨x,t,rfl,rfl⟩
  .rcases cM hb with⟨j,u,rfl,e⟩ | ⟨y,u,rfl,e⟩
   .injection e with e1 _;rw [e1]
   .exact nomatch e
  .rcases cM hb with⟨j,u,rfl,e⟩ | ⟨y,u,rfl,e⟩
   .exact nomatch e
   .injection e with e1 _;rw [e1]
 byValue:=fun k v h=>by
  rcases cM h with⟨i,t,rfl,rfl⟩ | ⟨x,t,rfl,rfl⟩ <;> rfl
 pyHash:=fun hv h=>by
  rcases cM hv with⟨i,t,rfl,rfl⟩ | ⟨x,t,rfl,rfl⟩
  .exact wpAny_pyHash_int h
  .exact wpAny_pyHash_str h
 eqBool:=fun hu hv h=>by
  rcases cM hu with⟨i,t,rfl,rfl⟩ | ⟨x,t,rfl,rfl⟩
  .rcases cM hv with⟨j,u,rfl,rfl⟩ | ⟨y,u,rfl,rfl⟩
   .rw [Fh] at h;exact wpAny_eqBool_int h
   .rw [FC] at h;exact SeqAt.EqAt.int_str i t y u _ _ _ _ h
  .rcases cM hv with⟨j,u,rfl,rfl⟩ | ⟨y,u,rfl,rfl⟩
   .rw [El] at h;exact SeqAt.EqAt.str_int x t j u _ _ _ _ h
   .rw [Fd] at h;exact wpAny_eqBool_str h
 «strs»:=fun k x t v h=>by
  rcases cM h with⟨i,u,rfl,e⟩ | ⟨y,u,rfl,e⟩
  .exact nomatch e
  .injection e with e1 _
   subst e1;cases v <;> rfl
theorem tQ(prog:Program)(w:World)(i:Int)(t:Tok):(cn prog w).is (.inl i) (.int i t)=true:=xC i t
theorem sU(prog:Program)(w:World)(x:Str)(t:Tok):(cn prog w).is (.inr x) (.str x t)=true:=w6 x t
inductive V where
 | cL | bl (b:Bool) | int (i:Int) | str (x:Str) | byt (b:Array UInt8) | flt (b:UInt64) | ref (a:Addr) | ty (n:String)
 deriving DecidableEq
def RelV:V->Value->Prop
 | .cL,u=>u=Value.none
 | .bl b,u=>u=Value.bool b
 | .int i,u=>∃t,u=Value.int i t
 | .str x,u=>∃t,u=Value.str x t
 | .byt b,u=>∃t,u=Value.bytes b t
 | .flt b,u=>∃t,u=Value.float b t
 | .ref a,u=>u=Value.ref a
 | .ty n,u=>u=Value.type n
abbrev Vals:List V->List Value->Prop:=Paired RelV
theorem Vals.length{xs:List V}{us:List Value}(r:Vals xs us):xs.length=us.length:=Paired.length r
theorem Vals.get:∀{xs:List V} {us:List Value} {i:Nat} {x:V},Vals xs us->xs[i]? =some x->∃u,us[i]? =some u/\RelV x u
 | _,_,_,_, .nil,e=>by simp at e
 | _,_,0,_, .cons r _,e=>by simp at e;subst e;exact⟨_,rfl,r⟩
 | _,_,i+1,x, .cons _ t,e=>by
   obtain⟨u,h1,h2⟩:=Vals.get (i:=i) (x:=x) t (by simpa using e)
   exact⟨u,by simpa using h1,h2⟩
theorem Vals.append:∀{xs ys:List V} {us ws:List Value},Vals xs us->Vals ys ws->Vals (xs++ys) (us++ws)
 | _,_,_,_, .nil,s=>s
 | _,_,_,_, .cons r t,s=> .cons r (Vals.append t s)
theorem Vals.take:∀{xs:List V} {us:List Value} (n:Nat),Vals xs us->Vals (xs.take n) (us.take n)
 | _,_,0,_=> .nil
 | _,_,_+1, .nil=> .nil
 | _,_,n+1, .cons r t=> .cons r (Vals.take n t)
theorem Vals.drop:∀{xs:List V} {us:List Value} (n:Nat),Vals xs us->Vals (xs.drop n) (us.drop n)
 | _,_,0,r=>r
 | _,_,_+1, .nil=> .nil
 | _,_,n+1, .cons _ t=>Vals.drop n t
def nu:Option V->Option Value->Prop
 | some v,some u=>RelV v u
 | none,none=>True
 | _,_=>False
def KV{κ:Type}:List (κ × V)->List (κ × Value)->Prop:=Paired fun(p:κ × V) (q:κ × Value)=>p.1=q.1/\RelV p.2 q.2
def kV:Key->V
 | .inl i=> .int i
 | .inr x=> .str x
inductive HO where
 | lst (xs:List V)
 | tup (xs:List V)
 | dK (kvs:List (Key × V)) | dT (kvs:List (List Key × V))
 | set (S:Int->Bool) (n:Nat)
 | ins (C dx:Addr) (fs:List (Str × V))
 | own (x:Addr)
 | xd (fs:List (Str × V))
 | met (f x:Addr)
 | rng (lo hi:Int)
 | ic (o:Obj) (u:HO)
 | tbl (ps:Array Value)
 | ext (φ:Heap->Prop)
abbrev Hp:=Addr->Option HO
def upd(H:Hp)(a:Addr)(o:HO):Hp:=fun b=>if b=a then some o else H b
theorem aV{a:Addr}{o:HO}:upd H a o a=some o:=by unfold upd;rw [if_pos rfl]
theorem ba{H:Hp}{a b:Addr}{o:HO}(h:b≠a):upd H a o b=H b:=by unfold upd;rw [if_neg h]
theorem Bw{a:Addr}{o u:HO}:upd (upd H a o) a u=upd H a u:=by
 funext b;unfold upd;split <;> rfl
theorem Hb{H:Hp}{a b:Addr}{o u:HO}(h:H a=some o)(h':H b=some u)(d:o≠u):a≠b:=by
 intro e;subst e;rw [h] at h';exact d (Option.some.inj h')
theorem b_{H:Hp}{a b:Addr}{o:HO}(h:H a=some o)(h':H b=none):a≠b:=by
 intro e;subst e;rw [h] at h';cases h'
section
variable (P:Program) (w:World)
def dF(H:Hp)(h:Heap)(a:Addr):HO->Prop
 | .lst xs=>xs.length<=sizeLine/\∃(its:List Value) (n:Nat),Vals xs its/\h.get? a=some {cls:= .type "list",data:= .seq its.toArray n}
 | .tup xs=>xs.length<=sizeLine/\∃its:List Value,Vals xs its/\IsTup h a its.toArray
 | .dK kvs=>kvs.length<=sizeLine/\(a==sysModules)=false/\∃vs,KV kvs vs/\h.DictOf (cn P w) a vs
 | .dT kvs=>kvs.length<=sizeLine/\(a==sysModules)=false/\∃xs:List (List Key × Addr × Value),
    Paired (fun(p:List Key × V) (q:List Key × Addr × Value)=>p.1=q.1/\H q.2.1=some (.tup (p.1.map kV))/\RelV p.2 q.2.2) kvs xs/\
    ∃o es ep,h.get? a=some o/\o.ExactDict/\o.data= .dict es ep/\es.toList=xs.map (entryOfKey (tupleKind (cn P w)))/\(xs.map (·.1)).Nodup
 | .set S n=>h.SetOf (intKind P w) a S n
 | .ins C dx fs=>H dx=some (.own a)/\fs.length<=1000/\dx≠a/\h.get? a=some (PySem.W.instObj C dx)/\
    ∃mA,h.Ns1 dx mA/\(∀f,nu (fs.lookup f) (mA f))/\PySem.Within mA (fs.map (·.1))
 | .own _=>∃o,h.get? a=some o
 | .xd fs=>∃mA,h.Ns1 a mA/\∀f,nu (fs.lookup f) (mA f)
 | .rng lo hi=>∃t u v,h.get? a=some {cls:= .type "range",data:= .fields #[.int lo t, .int hi u, .int 1 v]}
 | .ic o u=>h.get? a=some o/\dF H h a u
 | .tbl ps=>h.get? a=some {cls:= .none,data:= .fields ps}
 | .met f x=>h.get? a=some (PySem.W.methodObj (.ref f) (.ref x))
 | .ext φ=>φ h/\(∃o,h.get? a=some o)/\∀h1 h2:Heap,φ h1->(∀o,h1.get? a=some o->h2.get? a=some o)->φ h2
def lq(H:Hp)(h:Heap):Prop:=∀a o,H a=some o->dF P w H h a o
end
section
variable {P:Program} {w:World} {H H':Hp} {h h':Heap} {a:Addr} {o:HO}
theorem dF.lt(x:dF P w H h a o):a < h.objs.size:=by
 cases o with
 | lst xs=>obtain⟨_,_,_,_,e⟩:=x;exact Heap.lt_size e
 | tup xs=>obtain⟨_,_,_,p⟩:=x;exact p.lt
 | dK kvs=>obtain⟨_,_,_,_,o,_,_,e,_⟩:=x;exact Heap.lt_size e
 | dT kvs=>obtain⟨_,_,_,_,o,_,_,e,_⟩:=x;exact Heap.lt_size e
 | set S n=>obtain⟨o,_,_,_,e,_⟩:=x;exact Heap.lt_size e
 | ins C dx fs=>obtain⟨_,_,_,e,_⟩:=x;exact Heap.lt_size e
 | own y=>obtain⟨_,e⟩:=x;exact Heap.lt_size e
 | xd fs=>obtain⟨_,⟨_,_,_,e,_⟩,_⟩:=x;exact Heap.lt_size e
 | rng lo hi=>obtain⟨_,_,_,e⟩:=x;exact Heap.lt_size e
 | ic ob u=>obtain⟨e,_⟩:=x;exact Heap.lt_size e
 | tbl ps=>exact Heap.lt_size (show h.get? a=some _ from x)
 | met f y=>exact Heap.lt_size (show h.get? a=some _ from x)
 | ext φ=>obtain⟨_,⟨_,e⟩,_⟩:=x;exact Heap.lt_size e
theorem Paired.Ef{α β:Type}{F G:α->β->Prop}:∀{Im:List α} {Ic:List β},Paired F Im Ic->(∀a b,F a b->G a b)->Paired G Im Ic
 | _,_, .nil,_=> .nil
 | _,_, .cons r t,f=> .cons (f _ _ r) (Paired.Ef t f)
theorem dF.uZ(x:dF P w H h a o)(k:∀b u,(b=a\/H b=some (.own a))->h.get? b=some u->h'.get? b=some u)
 (ho:∀b,H b=some (.own a)->H' b=some (.own a)) (ht:∀b xs,H b=some (.tup xs)->H' b=some (.tup xs)):dF P w H' h' a o:=by
 induction o with
 | lst xs=>obtain⟨z,its,n,r,e⟩:=x;exact⟨z,its,n,r,k _ _ (.inl rfl) e⟩
 | tup xs=>obtain⟨z,its,r,ob,e,c⟩:=x;exact⟨z,its,r,ob,k _ _ (.inl rfl) e,c⟩
 | dK kvs=>obtain⟨z,y,vs,r,ob,es,ep,e,c⟩:=x;exact⟨z,y,vs,r,ob,es,ep,k _ _ (.inl rfl) e,c⟩
 | dT kvs=>
   obtain⟨z,y,xs,r,ob,es,ep,e,c⟩:=x;exact⟨z,y,xs,Paired.Ef r fun p q z=>⟨z.1,ht _ _ z.2.1,z.2.2⟩,ob,es,ep,k _ _ (.inl rfl) e,c⟩
 | set S n=>obtain⟨ob,es,ep,t,e,c⟩:=x;exact⟨ob,es,ep,t,k _ _ (.inl rfl) e,c⟩
 | ins C dx fs=>
   obtain⟨d,z,ne,e,mA,⟨od,es,ep,e2,c⟩,r⟩:=x;exact⟨ho _ d,z,ne,k _ _ (.inl rfl) e,mA,⟨od,es,ep,k _ _ (.inr d) e2,c⟩,r⟩
 | own y=>obtain⟨ob,e⟩:=x;exact⟨ob,k _ _ (.inl rfl) e⟩
 | xd fs=>obtain⟨mA,⟨od,es,ep,e,c⟩,r⟩:=x;exact⟨mA,⟨od,es,ep,k _ _ (.inl rfl) e,c⟩,r⟩
 | rng lo hi=>obtain⟨t,u,v,e⟩:=x;exact⟨t,u,v,k _ _ (.inl rfl) e⟩
 | ic ob u ih=>obtain⟨e,q⟩:=x;exact⟨k _ _ (.inl rfl) e,ih q⟩
 | tbl ps=>
   have e:h.get? a=some {cls:= .none,data:= .fields ps}:=x;show h'.get? a=some {cls:= .none,data:= .fields ps};exact k a _ (.inl rfl) e
 | met f y=>
   have e:h.get? a=some (PySem.W.methodObj (.ref f) (.ref y)):=x;show h'.get? a=some (PySem.W.methodObj (.ref f) (.ref y));exact k a _ (.inl rfl) e
 | ext φ=>obtain⟨p,⟨o,e⟩,st⟩:=x;exact⟨st _ _ p fun o q=>k _ _ (.inl rfl) q,⟨o,k _ _ (.inl rfl) e⟩,st⟩
theorem lq.lt(x:lq P w H h)(e:H a=some o):a < h.objs.size:=(x a o e).lt
theorem lq.fresh(x:lq P w H h)(e:h.objs.size<=a):H a=none:=by
 cases q:H a with
 | none=>rfl
 | some u=>exact absurd (Nat.lt_of_lt_of_le (x.lt q) e) (Nat.lt_irrefl _)
theorem lq.kept(x:lq P w H h)(k:∀b u,h.get? b=some u->h'.get? b=some u):lq P w H h':=fun a o e=>
 (x a o e).uZ (fun b u _ q=>k b u q) (fun _ q=>q) fun _ _ q=>q
theorem lq.laid(x:lq P w H h)(k:∀b u,h.get? b=some u->h'.get? b=some u)(hp:h.objs.size<=a)(new:dF P w (upd H a o) h' a o):lq P w (upd H a o) h':=fun b u e=>by
 have hn:=x.fresh hp;by_cases hb:b=a
 .subst hb;rw [aV] at e;cases e;exact new
 .rw [ba hb] at e;exact(x b u e).uZ (fun c v _ q=>k c v q) (fun c q=>by rw[ba (b_ q hn)];exact q) fun c xs q=>by rw[ba (b_ q hn)];exact q
end
def Rd(H:Hp)(a:Addr)(u:HO):Prop:=H a=some u\/∃o,H a=some (.ic o u)
theorem Rd.ok{a:Addr}{u:HO}(r:Rd H a u)(x:lq P w H h):dF P w H h a u:=by
 rcases r with r | ⟨o,r⟩
 .exact x a u r
 .obtain⟨_,q⟩:=x a _ r;exact q
def G8:Option HO->Prop
 | some (.lst _)=>True
 | some (.dK _)=>True
 | some (.dT _)=>True
 | some (.set _ _)=>True
 | some (.ins _ _ _)=>True
 | some (.ext _)=>True
 | _=>False
section
variable {P:Program} {w:World} {H:Hp} {h h':Heap} {x e:Addr} {o':HO}
theorem lq.write(ok:lq P w H h)(mu:G8 (H x))(he:e=x\/H e=some (.own x))(k:∀b u,b≠e->h.get? b=some u->h'.get? b=some u)(AS:∃u,h'.get? e=some u)
 (new:dF P w (upd H x o') h' x o'):lq P w (upd H x o') h':=fun b u q=>by
 have nown:∀c y,H c=some (.own y)->c≠x:=fun c y r z=>by subst z;rw [r] at mu;exact mu
 have ntup:∀c xs,H c=some (.tup xs)->c≠x:=fun c xs r z=>by subst z;rw [r] at mu;exact mu
 by_cases hb:b=x
 .subst hb;rw [aV] at q;cases q;exact new
 .rw [ba hb] at q;by_cases hbe:b=e
  .have q':H b=some (.own x):=by
    rcases he with z | z
    .exact absurd (hbe.trans z) hb
    .rw [hbe];exact z
   rw[q] at q';cases q';obtain⟨v,hv⟩:=AS;exact⟨v,by rw[hbe];exact hv⟩
  .refine(ok b u q).uZ (fun c v hc r=>k c v ?_ r) (fun c r=>by rw[ba (nown c b r)];exact r) fun c xs r=>by rw[ba (ntup c xs r)];exact r
   rcases hc with rfl | hc
   .exact hbe
   .rintro rfl;rcases he with z | z
    .exact nown c b hc z
    .rw [hc] at z;cases z;exact hb rfl
end
structure Un (fs ex:List Addr) (H H':Hp) (h h':Heap):Prop where
 keep:∀b o,h.get? b=some o->H b=none->b ∉ fs->b ∉ ex->h'.get? b=some o
 slot:∀b o,h.get? b=some o->H b=none->b∈fs->b ∉ ex->∃sl,h'.get? b=some {o with slots:=sl}
 free:∀b o,h.get? b=some o->H b=none->b ∉ ex->H' b=none
 there:∀b o,h.get? b=some o->b ∉ ex->∃o',h'.get? b=some o'
 tups:∀b xs,H b=some (.tup xs)->H' b=some (.tup xs)
 frzs:∀b o u,H b=some (.ic o u)->H' b=some (.ic o u)
 tbls:∀b ps,H b=some (.tbl ps)->∃more,H' b=some (.tbl (ps++more))
section
variable {fs Ip ex L9:List Addr} {H H1 H2:Hp} {h h1 h2 h':Heap} {a x e:Addr} {o:HO}
theorem Un.any(u:Un fs ex H H1 h h1){b:Addr}{ob:Obj}(q:h.get? b=some ob)(n:H b=none)(hx:b ∉ ex):∃sl,h1.get? b=some {ob with slots:=sl}:=by
 by_cases hb:b∈fs
 .exact u.slot b ob q n hb hx
 .exact⟨ob.slots,u.keep b ob q n hb hx⟩
theorem Un.kept(k:∀b u,h.get? b=some u->h'.get? b=some u):Un fs ex H H h h':=
 ⟨fun b ob q _ _ _=>k b ob q,fun b ob q _ _ _=>⟨ob.slots,k b ob q⟩,fun _ _ _ n _=>n,fun b ob q _=>⟨ob,k b ob q⟩,fun _ _ q=>q,fun _ _ _ q=>q,fun _ ps q=>⟨#[],by rw[q];simp⟩⟩
theorem Un.refl:Un fs ex H H h h:=Un.kept fun _ _ q=>q
theorem Un.laid(k:∀b u,h.get? b=some u->h'.get? b=some u)(hp:h.objs.size<=a)(hn:H a=none):Un fs ex H (upd H a o) h h' where
 keep:=fun b u q _ _ _=>k b u q
 slot:=fun b u q _ _ _=>⟨u.slots,k b u q⟩
 free:=fun b u q n _=>by rw[ba (Nat.ne_of_lt (Nat.lt_of_lt_of_le (Heap.lt_size q) hp))];exact n
 there:=fun b u q _=>⟨u,k b u q⟩
 tups:=fun b xs q=>by rw[ba (b_ q hn)];exact q
 frzs:=fun b u xs q=>by rw[ba (b_ q hn)];exact q
 tbls:=fun b ps q=>⟨#[],by rw[ba (b_ q hn),q];simp⟩
theorem Un.write(mu:G8 (H x))(he:e=x\/H e=some (.own x))(k:∀b u,b≠e->h.get? b=some u->h'.get? b=some u)(AS:∃u,h'.get? e=some u):Un fs ex H (upd H x o) h h':=by
 have hx:∀b,H b=none->b≠x:=fun b n z=>by subst z;rw [n] at mu;exact mu
 have hb:∀b,H b=none->b≠e:=fun b n z=>by
  subst z;rcases he with r | r
  .exact hx b n r
  .rw [n] at r;cases r
 have hm:∀b u,H b=some u->¬G8 (some u)->b≠x:=fun b u q nm z=>by subst z;rw [q] at mu;exact nm mu
 refine⟨fun b u q n _ _=>k b u (hb b n) q,fun b u q n _ _=>⟨u.slots,k b u (hb b n) q⟩,fun b u q n _=>by rw[ba (hx b n)];exact n,fun b u q _=>?_,
  fun b xs q=>by rw[ba (hm b _ q fun z=>z)];exact q,fun b u xs q=>by rw[ba (hm b _ q fun z=>z)];exact q,fun b ps q=>⟨#[],by rw[ba (hm b _ q fun z=>z),q];simp⟩⟩
 by_cases hbe:b=e
 .subst hbe;exact AS
 .exact⟨u,k b u hbe q⟩
end
def IH(h:Heap)(H:Hp):List Addr:=(List.range h.objs.size).filter fun a=>(H a).isSome
def q9(h:Heap)(H:Hp):Heap:=PySem.W.hideAll h (IH h H)
theorem xH(h:Heap)(H:Hp):(q9 h H).objs.size=h.objs.size:=PySem.W.hideAll_size _ _
theorem zH{h:Heap}{H:Hp}{b:Addr}{o:Obj}(e:h.get? b=some o)(n:H b=none):(q9 h H).get? b=some o:=
 PySem.W.hideAll_get _ e fun hm=>by
  have q:(H b).isSome=true:=(List.mem_filter.mp hm).2;rw[n] at q;simp at q
theorem BD{h:Heap}{H:Hp}{b:Addr}{o:Obj}(e:(q9 h H).get? b=some o):h.get? b=some o/\H b=none:=by
 have e':h.get? b=some o:=PySem.W.of_hideAll (IH h H) e;refine⟨e',?_⟩;cases q:H b with
 | none=>rfl
 | some x=>
   have hm:b∈IH h H:=List.mem_filter.mpr ⟨List.mem_range.mpr (Heap.lt_size e'),by simp [q]⟩
   have z:(q9 h H).get? b=none:=PySem.W.hideAll_none (IH h H) hm;rw[z] at e;cases e
def Be(g h:Heap)(L:Addr):PM:=(List.range h.objs.size).filterMap fun a=>if a=L\/(g.get? a).isSome=true then none else(h.get? a).map fun o=>(a,o)
def rest(g h:Heap)(L d:Addr):PM:=(Be g h L).filter fun p=>decide (p.1≠d)
structure Mod (K:W.Frag) (mg:PY) (base:Heap):Prop where
 kin:K.In base
 glob:base.Ns mainGlobals mg
 blt:∃mb,base.Ns builtinsNs mb/\∀x:Str,x≠"__name__"->mb x=bootBuiltins x
 nolimit:base.NoLimit
structure Cx where
 prog:Program
 w:World
 K:W.Frag
 mg:PY
 base:Heap
 A:Around
 N:List Str
 s₀:Shared
 H₀:Hp
 env:Env
 outer:List Env
 stack:List Env
 ex:List Addr
 fn:Str->Bool
 calm:Bool
 pn:PM
 xe:PQ
def yd(l:List Env):List Addr:=l.filterMap (·.frame)
abbrev Cx.fs(X:Cx):List Addr:=yd X.outer
def Cq(sc:Scope)(x:Str):Prop:=sc.names.lookup x=some .local\/sc.names.lookup x=some .cell\/sc.names.lookup x=some .free
def Loc(sc:Scope)(x:Str):Prop:=sc.names.lookup x=some .local\/sc.names.lookup x=some .cell
def Look(env:Env)(h:Heap)(m:PY)(x:Str)(u:Value):Prop:=
 (env.kindOf x=some .local/\m x=some u)\/((env.kindOf x=some .cell\/env.kindOf x=some .free)/\∃c,env.cells.lookup x=some c/\h.IsCell c (some u))
structure Cx.Ok (X:Cx):Prop where
 mod:Mod X.K X.mg X.base
 kind:X.env.scope.kind= .function
 glob:X.env.globals=mainGlobals
 blt:X.env.builtins=builtinsNs
 above:X.s₀.heap.objs.size<=X.env.locals
 inj:∀x y c,X.env.cells.lookup x=some c->X.env.cells.lookup y=some c->x=y
 has:∀x,(X.env.kindOf x=some .cell\/X.env.kindOf x=some .free)->∃c,X.env.cells.lookup x=some c
 cab:∀x c,X.fn x=true->X.env.cells.lookup x=some c->X.s₀.heap.objs.size<=c
 hd:X.calm=true->X.A.handled=none
 frames:X.A.frames=some X.stack
 stk:X.stack=X.outer\/(X.stack=X.env ::X.outer/\X.env.frame=some X.env.locals)
 exf:∀b∈X.ex,b≠X.env.locals/\∀x c,X.env.cells.lookup x=some c->c≠b
 bs:∀b o,X.base.get? b=some o->X.s₀.heap.get? b=some o/\X.H₀ b=none
 bsz:X.base.objs.size<=X.s₀.heap.objs.size
 noex:∀b o,X.base.get? b=some o->b ∉ X.ex
 exfs:∀b∈X.ex,b ∉ X.fs
 pf:X.s₀.heap.FunFrames X.base X.outer
 frf:∀b∈X.fs,X.H₀ b=none
structure Inv (X:Cx) (pins:PM) (σ:List (Option V)) (H:Hp) (s:Shared):Prop where
 ok:X.Ok
 os:s.os=X.s₀.os
 bare:AllBare s.gens
 base:Un X.fs X.ex X.H₀ H X.s₀.heap s.heap
 loc:∃m,s.heap.Ns X.env.locals m/\∀(i:Nat) (x:Str) (v:V),X.N[i]? =some x->σ[i]? =some (some v)->Cq X.env.scope x->∃u,RelV v u/\Look X.env s.heap m x u
 cell:∀x c,X.env.cells.lookup x=some c->∃v,s.heap.IsCell c v
 free:H X.env.locals=none
 freeC:∀x c,X.env.cells.lookup x=some c->H c=none
 pin:∀p∈X.pn++pins,s.heap.get? p.1=some p.2/\H p.1=none/\p.1≠X.env.locals/\p.1 ∉ X.fs/\∀v,p.2.data≠ .cell v
 hok:lq X.prog X.w H s.heap
 len:σ.length=X.N.length
section
variable {X:Cx} {pins:PM} {σ:List (Option V)} {H H':Hp} {s:Shared} {h':Heap}
theorem Cx.Ok.Jt(ok:X.Ok){b:Addr}{o:Obj}(e:X.base.get? b=some o):b ∉ X.fs:=fun hb=>by
 have:=(ok.pf.mem hb).1;rw[e] at this;cases this
theorem Inv.bs(I:Inv X pins σ H s):∀b o,X.base.get? b=some o->s.heap.get? b=some o/\H b=none:=fun b o e=>
 ⟨I.base.keep b o (I.ok.bs b o e).1 (I.ok.bs b o e).2 (I.ok.Jt e) (I.ok.noex b o e),I.base.free b o (I.ok.bs b o e).1 (I.ok.bs b o e).2 (I.ok.noex b o e)⟩
theorem Inv.bk(I:Inv X pins σ H s):∀b o,X.base.get? b=some o->s.heap.get? b=some o:=fun b o e=>(I.bs b o e).1
theorem Inv.mod(I:Inv X pins σ H s):Mod X.K X.mg X.base:=I.ok.mod
theorem Inv.EK(I:Inv X pins σ H s):X.K.In s.heap:=I.ok.mod.kin.keeps I.bk
theorem Inv.lt(I:Inv X pins σ H s):X.env.locals < s.heap.objs.size:=let⟨_,hn,_⟩:=I.loc;hn.lt
theorem Inv.sz(I:Inv X pins σ H s):X.s₀.heap.objs.size<=s.heap.objs.size:=Nat.le_trans I.ok.above (Nat.le_of_lt I.lt)
theorem Inv.Kj(I:Inv X pins σ H s){a:Addr}(h:s.heap.objs.size<=a):a ∉ X.fs:=fun hb=>by
 obtain⟨_,o,ho,_⟩:=I.ok.pf.mem hb;exact absurd (Nat.lt_of_lt_of_le (Heap.lt_size ho) (Nat.le_trans I.sz h)) (Nat.lt_irrefl _)
theorem Inv.D_(I:Inv X pins σ H s):∀x c,X.env.cells.lookup x=some c->c≠X.env.locals:=fun x c e z=>by
 obtain⟨v,o,ho,hd⟩:=I.cell x c e;obtain⟨m,⟨o',es,ep,FV,KS,_⟩,_⟩:=I.loc;rw[z,FV] at ho;cases ho;rw [KS] at hd;cases hd
theorem Inv.pf(I:Inv X pins σ H s):s.heap.FunFrames X.base X.outer:=by
 have all:∀(l:List Env),(∀b∈yd l,b∈X.fs)->X.s₀.heap.FunFrames X.base l->s.heap.FunFrames X.base l:=by
  intro l
  induction l with
  | nil=>intro _ _;trivial
  | cons env r ih=>
    intro hs hl;obtain⟨hk,⟨L,o,hf,hn,ho,hd⟩,hr⟩:=hl;have hL:L∈X.fs:=hs L (by unfold yd;rw [List.filterMap_cons,hf];exact List.mem_cons_self)
    obtain⟨sl,e⟩:=I.base.slot L o ho (I.ok.frf L hL) hL fun z=>I.ok.exfs L z hL
    exact⟨hk,⟨L,_,hf,hn,e,hd⟩,ih (fun b hb=>hs b (by unfold yd;rw [List.filterMap_cons,hf];exact List.mem_cons_of_mem _ hb)) hr⟩
 exact all X.outer (fun _ hb=>hb) I.ok.pf
theorem Inv.stack(I:Inv X pins σ H s):s.heap.FunFrames X.base X.stack:=by
 rcases I.ok.stk with e | ⟨e,hf⟩
 .rw [e];exact I.pf
 .rw [e];obtain⟨m,hn,_⟩:=I.loc;refine .cons (by rw[I.ok.kind];decide) hf hn ?_ I.pf
  exact Heap.get?_none_of_le (Nat.le_trans I.ok.bsz I.ok.above)
theorem Inv.uu(I:Inv X pins σ H s):∀b∈yd X.stack,b∈X.env.locals ::X.fs:=fun b hb=>by
 rcases I.ok.stk with e | ⟨e,hf⟩
 .rw [e] at hb;exact List.mem_cons_of_mem _ hb
 .rw [e] at hb;unfold yd at hb;rw[List.filterMap_cons,hf] at hb;exact hb
theorem Inv.we(I:Inv X pins σ H s):∀b∈yd X.stack,H b=none:=fun b hb=>by
 rcases List.mem_cons.mp (I.uu b hb) with e | hb
 .rw [e];exact I.free
 .obtain⟨_,o,ho,_⟩:=I.ok.pf.mem hb;exact I.base.free b o ho (I.ok.frf b hb) fun z=>I.ok.exfs b z hb
theorem Inv.step{g':Array GenState}{t':Nat}{d':Drawn}{ch:List Addr}(I:Inv X pins σ H s)
 (AU:∀b∈ch,(b∈X.ex\/X.s₀.heap.objs.size<=b)/\b≠X.env.locals/\(∀x c,X.env.cells.lookup x=some c->c≠b)/\∀p∈X.pn++pins,p.1≠b)
 (keep:∀b o,b≠X.env.locals->b ∉ X.fs->b ∉ ch->s.heap.get? b=some o->H b=none->h'.get? b=some o)
 (slot:∀b o,b≠X.env.locals->b∈X.fs->b ∉ ch->s.heap.get? b=some o->H b=none->∃sl,h'.get? b=some {o with slots:=sl}) (free:∀b o,b ∉ ch->s.heap.get? b=some o->H b=none->H' b=none)
 (there:∀b o,b ∉ ch->s.heap.get? b=some o->∃o',h'.get? b=some o')
 (tups:∀b xs,H b=some (.tup xs)->H' b=some (.tup xs)) (frzs:∀b o u,H b=some (.ic o u)->H' b=some (.ic o u)) (tbls:∀b ps,H b=some (.tbl ps)->∃more,H' b=some (.tbl (ps++more)))
 (ns:∀m,s.heap.Ns X.env.locals m->h'.Ns X.env.locals m) (hok:lq X.prog X.w H' h') (hg:AllBare g') :
 Inv X pins σ H' {s with heap:=h',gens:=g',drawn:=d',toks:=t'}:=by
 have neL:∀b o,X.s₀.heap.get? b=some o->b≠X.env.locals:=fun b o e=>Nat.ne_of_lt (Nat.lt_of_lt_of_le (Heap.lt_size e) I.ok.above)
 have neC:∀b o,X.s₀.heap.get? b=some o->b ∉ X.ex->b ∉ ch:=fun b o e hx hb=>by
  rcases(AU b hb).1 with z | z
  .exact hx z
  .exact absurd (Nat.lt_of_lt_of_le (Heap.lt_size e) z) (Nat.lt_irrefl _)
 have cellK:∀x c,X.env.cells.lookup x=some c->∀v,s.heap.IsCell c v->h'.IsCell c v:=fun x c e v ⟨o,ho,hd⟩=>by
  have nch:c ∉ ch:=fun z=>(AU c z).2.2.1 x c e rfl
  by_cases hc:c∈X.fs
  .obtain⟨sl,q⟩:=slot c o (I.D_ x c e) hc nch ho (I.freeC x c e);exact⟨_,q,hd⟩
  .exact⟨o,keep c o (I.D_ x c e) hc nch ho (I.freeC x c e),hd⟩
 refine⟨I.ok,I.os,hg,⟨fun b o e n hb hx=>?_,fun b o e n hb hx=>?_,fun b o e n hx=>?_,fun b o e hx=>?_,fun b xs e=>tups b xs (I.base.tups b xs e),fun b o xs e=>frzs b o xs (I.base.frzs b o xs e),fun b ps e=>?_⟩,?_,fun x c e=>?_,?_,fun x c e=>?_,fun p hp=>?_,hok,I.len⟩
 .exact keep b o (neL b o e) hb (neC b o e hx) (I.base.keep b o e n hb hx) (I.base.free b o e n hx)
 .obtain⟨sl,e1⟩:=I.base.slot b o e n hb hx;obtain⟨OO,e2⟩:=slot b _ (neL b o e) hb (neC b o e hx) e1 (I.base.free b o e n hx);exact⟨OO,e2⟩
 .obtain⟨o',e1⟩:=I.base.there b o e hx;exact free b o' (neC b o e hx) e1 (I.base.free b o e n hx)
 .obtain⟨o',e1⟩:=I.base.there b o e hx;exact there b o' (neC b o e hx) e1
 .obtain⟨m1,e1⟩:=I.base.tbls b ps e;obtain⟨m2,e2⟩:=tbls b _ e1;exact⟨m1++m2,by rw[e2,Array.append_assoc]⟩
 .obtain⟨m,hn,hl⟩:=I.loc;refine⟨m,ns m hn,fun i x v e1 e2 e3=>?_⟩
  obtain⟨u,r,l⟩:=hl i x v e1 e2 e3;refine⟨u,r,?_⟩;rcases l with l | ⟨k,c,e,z⟩
  .exact .inl l
  .exact .inr ⟨k,c,e,cellK x c e _ z⟩
 .obtain⟨v,z⟩:=I.cell x c e;exact⟨v,cellK x c e v z⟩
 .obtain⟨m,⟨o,_,_,ho,_⟩,_⟩:=I.loc;exact free _ o (fun z=>(AU _ z).2.1 rfl) ho I.free
 .obtain⟨v,o,ho,hd⟩:=I.cell x c e;exact free c o (fun z=>(AU c z).2.2.1 x c e rfl) ho (I.freeC x c e)
 .obtain⟨e,n,ne,nf,d⟩:=I.pin p hp;have nch:p.1 ∉ ch:=fun z=>(AU p.1 z).2.2.2 p hp rfl
  exact⟨keep p.1 p.2 ne nf nch e n,free p.1 p.2 nch e n,ne,nf,d⟩
theorem Inv.un{t':Nat}(I:Inv X pins σ H s)(u:Un X.fs [] H H' s.heap h')(hok:lq X.prog X.w H' h'):Inv X pins σ H' {s with heap:=h',toks:=t'}:=by
 obtain⟨m,⟨o,es,ep,ho,r⟩,_⟩:=id I.loc;obtain⟨sl,hL⟩:=u.any ho I.free (by simp)
 exact I.step (g':=s.gens) (d':=s.drawn) (ch:=[]) (fun _ z=>nomatch z) (fun b o _ hb _ e n=>u.keep b o e n hb (by simp)) (fun b o _ hb _ e n=>u.slot b o e n hb (by simp)) (fun b o _ e n=>u.free b o e n (by simp)) (fun b o _ e=>u.there b o e (by simp)) u.tups u.frzs u.tbls (fun m' hm=>by
  obtain⟨o',Kt,Kq,FV,r'⟩:=hm;rw[ho] at FV;cases FV;exact⟨_,Kt,Kq,hL,r'⟩) hok I.bare
theorem Inv.call{g':Array GenState}{t':Nat}{d':Drawn}{ch:List Addr}(I:Inv X pins σ H s)(u:Un (yd X.stack) ch H H' s.heap h')(hok:lq X.prog X.w H' h')(hg:AllBare g')
 (AU:∀b∈ch,(b∈X.ex\/X.s₀.heap.objs.size<=b)/\b≠X.env.locals/\(∀x c,X.env.cells.lookup x=some c->c≠b)/\∀p∈X.pn++pins,p.1≠b) :
 Inv X pins σ H' {s with heap:=h',gens:=g',drawn:=d',toks:=t'}:=by
 obtain⟨m,⟨o,es,ep,ho,r⟩,_⟩:=id I.loc;obtain⟨sl,hL⟩:=u.any ho I.free fun z=>(AU _ z).2.1 rfl
 exact I.step (ch:=ch) AU (fun b o hL hb hc e n=>u.keep b o e n (fun z=>(List.mem_cons.mp (I.uu b z)).elim hL hb) hc) (fun b o _ _ hc e n=>u.any e n hc) (fun b o hc e n=>u.free b o e n hc) (fun b o hc e=>u.there b o e hc) u.tups u.frzs u.tbls (fun m' hm=>by
  obtain⟨o',Kt,Kq,FV,r'⟩:=hm;rw[ho] at FV;cases FV;exact⟨_,Kt,Kq,hL,r'⟩) hok hg
theorem Inv.turned{t':Nat}{it:Addr}(I:Inv X pins σ H s)(k:∀b o,b≠it->s.heap.get? b=some o->h'.get? b=some o)(hn:H it=none)(hL:it≠X.env.locals)
 (h1:it∈X.ex\/X.s₀.heap.objs.size<=it) (h2:∀x c,X.env.cells.lookup x=some c->c≠it) (h3:∀p∈X.pn++pins,p.1≠it):Inv X pins σ H {s with heap:=h',toks:=t'}:=by
 have nit:∀b u,H b=some u->b≠it:=fun b u e z=>by rw[z,hn] at e;cases e
 refine I.step (g':=s.gens) (d':=s.drawn) (ch:=[it]) (fun b hb=>?_) (fun b o _ _ hc e _=>k b o (fun z=>hc (by simp [z])) e) (fun b o _ _ hc e _=>⟨o.slots,k b o (fun z=>hc (by simp [z])) e⟩) (fun _ _ _ _ n=>n)
  (fun b o hc e=>⟨o,k b o (fun z=>hc (by simp [z])) e⟩) (fun _ _ e=>e) (fun _ _ _ e=>e) (fun b ps e=>⟨#[],by rw[e];simp⟩) (fun m hm=>?_) (fun b u e=>?_) I.bare
 .have e:b=it:=by simpa using hb
  subst e;exact⟨h1,hL,h2,h3⟩
 .obtain⟨o,es,ep,ho,r⟩:=hm;exact⟨o,es,ep,k _ o (Ne.symm hL) ho,r⟩
 .refine(I.hok b u e).uZ (fun c v hc q=>k c v ?_ q) (fun _ q=>q) fun _ _ q=>q
  rcases hc with z | z
  .rw [z];exact nit b u e
  .exact nit c _ z
theorem Inv.tok(I:Inv X pins σ H s)(t:Nat):Inv X pins σ H {s with toks:=t}:=I.un (h':=s.heap) (t':=t) Un.refl I.hok
theorem Inv.kept{t':Nat}(I:Inv X pins σ H s)(k:∀b u,s.heap.get? b=some u->h'.get? b=some u):Inv X pins σ H {s with heap:=h',toks:=t'}:=I.un (Un.kept k) (I.hok.kept k)
theorem Inv.laid{a:Addr}{o:HO}{t':Nat}(I:Inv X pins σ H s)(k:∀b u,s.heap.get? b=some u->h'.get? b=some u)(hp:s.heap.objs.size<=a)(new:dF X.prog X.w (upd H a o) h' a o) :
 Inv X pins σ (upd H a o) {s with heap:=h',toks:=t'}:=I.un (Un.laid k hp (I.hok.fresh hp)) (I.hok.laid k hp new)
theorem Inv.write{x e:Addr}{o:HO}{t':Nat}(I:Inv X pins σ H s)(mu:G8 (H x))(he:e=x\/H e=some (.own x))(k:∀b u,b≠e->s.heap.get? b=some u->h'.get? b=some u)(AS:∃u,h'.get? e=some u)
 (new:dF X.prog X.w (upd H x o) h' x o):Inv X pins σ (upd H x o) {s with heap:=h',toks:=t'}:=I.un (Un.write mu he k AS) (I.hok.write mu he k AS new)
theorem Inv.vA{DG:PM}(I:Inv X pins σ H s)(h:∀p∈DG,s.heap.get? p.1=some p.2/\H p.1=none/\p.1≠X.env.locals/\p.1 ∉ X.fs/\∀v,p.2.data≠ .cell v):Inv X DG σ H s:=
 ⟨I.ok,I.os,I.bare,I.base,I.loc,I.cell,I.free,I.freeC,fun p hp=>(List.mem_append.mp hp).elim (fun z=>I.pin p (List.mem_append_left _ z)) (h p),I.hok,I.len⟩
theorem sN{N:List Str}(hN:N.Nodup){i j:Nat}(a:N[i]? =some x)(b:N[j]? =some x):i=j:=by
 obtain⟨h1,e1⟩:=List.getElem?_eq_some_iff.mp a;obtain⟨h2,e2⟩:=List.getElem?_eq_some_iff.mp b;exact(List.getElem_inj hN).mp (e1.trans e2.symm)
theorem qu{M:Model}{A:Around}{E:PQ}{i:Nat}{x:Str}{v:V}{u:Value}{Q:Unit->Shared->Prop}(I:Inv X pins σ H s)(hN:X.N.Nodup)(hi:X.N[i]? =some x)(hx:Loc X.env.scope x)(r:RelV v u)
 (h:∀s',Inv X pins (σ.set i (some v)) H s'->(∃a,Heap.SameBut a s.heap s'.heap/\(a=X.env.locals\/X.env.cells.lookup x=some a))->Q () s') (hf:X.fn x=true\/X.env.scope.names.lookup x=some .local:=by first | exact .inl rfl | exact .inr rfl | assumption):wpAny M A (storeName X.env x u) Q E s:=by
 obtain⟨m,hn,hl⟩:=id I.loc;have hcls:(X.env.scope.kind== .class || (X.env.scope.kind== .module && X.env.locals !=X.env.globals))=false:=by rw[I.ok.kind];rfl
 have hiσ:i < σ.length:=by rw[I.len];exact(List.getElem?_eq_some_iff.mp hi).1
 have D_:=I.D_;have tracked:∀{a:Addr} {h':Heap},(∃o,s.heap.get? a=some o/\H a=none)->Heap.SameBut a s.heap h'->lq X.prog X.w H h':=fun {a h'} ha hs b ob e=>by
  obtain⟨_,_,hfree⟩:=ha;refine(I.hok b ob e).uZ (fun c w' hc q=>(hs.2 c ?_).trans q) (fun _ q=>q) fun _ _ q=>q
  rintro rfl;rcases hc with rfl | hc
  .rw [hfree] at e;cases e
  .rw [hfree] at hc;cases hc
 rcases hx with hk | hk
 .refine wpAny_storeName_local hk hn (fun h' HV hs=>?_) hcls
  obtain⟨oL,_,_,hoL,_⟩:=id hn;refine h _ ⟨I.ok,I.os,I.bare,⟨fun b o e n hb hx=>?_,fun b o e n hb hx=>?_,I.base.free,fun b o e hx=>?_,I.base.tups,I.base.frzs,I.base.tbls⟩,⟨_,HV,fun j y v' e1 e2 e3=>?_⟩,fun y c e=>?_,I.free,I.freeC,fun p hp=>?_,tracked ⟨oL,hoL,I.free⟩ hs,by simpa using I.len⟩ ⟨_,hs, .inl rfl⟩
  .exact(hs.2 b (Nat.ne_of_lt (Nat.lt_of_lt_of_le (Heap.lt_size e) I.ok.above))).trans (I.base.keep b o e n hb hx)
  .obtain⟨sl,e1⟩:=I.base.slot b o e n hb hx;exact⟨sl,(hs.2 b (Nat.ne_of_lt (Nat.lt_of_lt_of_le (Heap.lt_size e) I.ok.above))).trans e1⟩
  .obtain⟨o',e1⟩:=I.base.there b o e hx;exact⟨o',(hs.2 b (Nat.ne_of_lt (Nat.lt_of_lt_of_le (Heap.lt_size e) I.ok.above))).trans e1⟩
  .by_cases hj:j=i
   .subst hj;rw[hi] at e1;cases e1;rw[List.getElem?_set_self hiσ] at e2;cases e2;exact⟨u,r, .inl ⟨hk,by simp⟩⟩
   .rw [List.getElem?_set_ne (Ne.symm hj)] at e2;obtain⟨u',r',q⟩:=hl j y v' e1 e2 e3;refine⟨u',r',?_⟩;rcases q with⟨k,e⟩ | ⟨k,c,e,z⟩
    .refine .inl ⟨k,?_⟩;have:y≠x:=fun e=>hj (sN hN e1 (e▸hi))
     simp [this,e]
    .exact .inr ⟨k,c,e,z.sameBut hs (D_ y c e)⟩
  .obtain⟨w',z⟩:=I.cell y c e;exact⟨w',z.sameBut hs (D_ y c e)⟩
  .obtain⟨e,n,ne,nf,d⟩:=I.pin p hp;exact⟨(hs.2 p.1 ne).trans e,n,ne,nf,d⟩
 .have hfn:X.fn x=true:=by
   rcases hf with z | z
   .exact z
   .rw [z] at hk;cases hk
  obtain⟨c,hc⟩:=I.ok.has x (.inl hk);obtain⟨w',z⟩:=I.cell x c hc;refine wpAny_storeName_cell I.ok.kind hk hc z (fun h' yh hs=>?_)
  obtain⟨oc,hoc,hocd⟩:=id z;refine h {s with heap:=h'} ⟨I.ok,I.os,I.bare,⟨fun b o e n hb hx=>?_,fun b o e n hb hx=>?_,I.base.free,fun b o e hx=>?_,I.base.tups,I.base.frzs,I.base.tbls⟩,⟨m,hn.sameBut hs (Ne.symm (D_ x c hc)),fun j y v' e1 e2 e3=>?_⟩,fun y c' e=>?_,I.free,I.freeC,fun p hp=>?_,tracked ⟨oc,hoc,I.freeC x c hc⟩ hs,by simpa using I.len⟩ ⟨c,hs, .inr hc⟩
  .exact(hs.2 b (Nat.ne_of_lt (Nat.lt_of_lt_of_le (Heap.lt_size e) (I.ok.cab x c hfn hc)))).trans (I.base.keep b o e n hb hx)
  .obtain⟨sl,e1⟩:=I.base.slot b o e n hb hx;exact⟨sl,(hs.2 b (Nat.ne_of_lt (Nat.lt_of_lt_of_le (Heap.lt_size e) (I.ok.cab x c hfn hc)))).trans e1⟩
  .obtain⟨o',e1⟩:=I.base.there b o e hx;exact⟨o',(hs.2 b (Nat.ne_of_lt (Nat.lt_of_lt_of_le (Heap.lt_size e) (I.ok.cab x c hfn hc)))).trans e1⟩
  .by_cases hj:j=i
   .subst hj;rw[hi] at e1;cases e1;rw[List.getElem?_set_self hiσ] at e2;cases e2;exact⟨u,r, .inr ⟨.inl hk,c,hc,yh⟩⟩
   .rw [List.getElem?_set_ne (Ne.symm hj)] at e2;obtain⟨u',r',q⟩:=hl j y v' e1 e2 e3;refine⟨u',r',?_⟩;rcases q with q | ⟨k,c',e,z'⟩
    .exact .inl q
    .refine .inr ⟨k,c',e,z'.sameBut hs ?_⟩;rintro rfl;exact hj (sN hN e1 (I.ok.inj _ _ _ e hc▸hi))
  .by_cases hcc:c'=c
   .subst hcc;exact⟨_,yh⟩
   .obtain⟨w2,z2⟩:=I.cell y c' e;exact⟨w2,z2.sameBut hs hcc⟩
  .obtain⟨e,n,ne,nf,d⟩:=I.pin p hp;refine⟨(hs.2 p.1 ?_).trans e,n,ne,nf,d⟩;intro q;rw[q,hoc] at e;have q':oc=p.2:=Option.some.inj e;exact d w' (by rw[<-q'];exact hocd)
theorem ud{M:Model}{A:Around}{E:PQ}{i:Nat}{x:Str}{v:V}{u:Value}{Q:Unit->Shared->Prop}(I:Inv X pins σ H s)(hN:X.N.Nodup)(hi:X.N[i]? =some x)(hx:Loc X.env.scope x)(r:RelV v u)
 (h:∀s',Inv X pins (σ.set i (some v)) H s'->Q () s') (hf:X.fn x=true\/X.env.scope.names.lookup x=some .local:=by first | exact .inl rfl | exact .inr rfl | assumption):wpAny M A (storeName X.env x u) Q E s:=
 qu I hN hi hx r (fun s' I' _=>h s' I') hf
theorem Inv.G9{s':Shared}{ch:List Addr}(I:Inv X pins σ H s)(ho:s'.os=s.os)(u:Un (yd X.stack) ch H H' s.heap s'.heap)(hok:lq X.prog X.w H' s'.heap)(hg:AllBare s'.gens)
 (AU:∀b∈ch,(b∈X.ex\/X.s₀.heap.objs.size<=b)/\b≠X.env.locals/\(∀x c,X.env.cells.lookup x=some c->c≠b)/\∀p∈X.pn++pins,p.1≠b):Inv X pins σ H' s':=by
 obtain⟨h',g',d',t',o'⟩:=s';have e:o'=s.os:=ho;subst e;exact I.call (g':=g') (t':=t') (d':=d') u hok hg AU
end
abbrev XK:=Value->Option Addr->Hp->Prop
abbrev St:=List (Option V)
abbrev VK:=V->Hp->Prop
abbrev TE:=St->Hp->VK->Prop
abbrev TT:=St->Hp->(Bool->Hp->Prop)->Prop
abbrev TA:=St->Hp->(List V->Hp->Prop)->Prop
structure Ends where
 nx:St->Hp->Prop
 rt:VK
 bk:St->Hp->Prop:=fun _ _=>False
 ct:St->Hp->Prop:=fun _ _=>False
abbrev TS:=Ends->St->Hp->Prop
def EP(X:Cx)(pins:PM)(σ:St)(Q:VK)(u:Value)(s':Shared):Prop:=∃v H',Inv X pins σ H' s'/\RelV v u/\Q v H'
def TP(X:Cx)(pins:PM)(σ:St)(Q:Bool->Hp->Prop)(b:Bool)(s':Shared):Prop:=∃H',Inv X pins σ H' s'/\Q b H'
def AP(X:Cx)(pins:PM)(σ:St)(Q:List V->Hp->Prop)(us:List Value)(s':Shared):Prop:=∃vs H',Inv X pins σ H' s'/\Vals vs us/\Q vs H'
def SP(X:Cx)(pins:PM)(D:Ends)(f:Flow)(s':Shared):Prop:=
 match f with
 | .next=>∃cN H',Inv X pins cN H' s'/\D.nx cN H'
 | .brk=>∃cN H',Inv X pins cN H' s'/\D.bk cN H'
 | .cont=>∃cN H',Inv X pins cN H' s'/\D.ct cN H'
 | .ret u=>∃v cN H',Inv X pins cN H' s'/\RelV v u/\D.rt v H'
def PE(X:Cx)(e:Expr)(t:TE):Prop:=
 ∀(pins:PM) (s:Shared) (σ:St) (H:Hp) (Q:VK),Inv X pins σ H s->t σ H Q->wpAny (model X.prog X.w) X.A (eval e X.env) (EP X pins σ Q) X.xe s
def PT(X:Cx)(e:Expr)(t:TT):Prop:=
 ∀(pins:PM) (s:Shared) (σ:St) (H:Hp) (Q:Bool->Hp->Prop),Inv X pins σ H s->t σ H Q->wpAny (model X.prog X.w) X.A (isTrue e X.env (eval e X.env)) (TP X pins σ Q) X.xe s
def PW(X:Cx)(e:Expr)(t:TT):Prop:=
 ∀(whole:Sem Value) (pins:PM) (s:Shared) (σ:St) (H:Hp) (Q:Bool->Hp->Prop),Inv X pins σ H s->t σ H Q->wpAny (model X.prog X.w) X.A (isTrue e X.env whole) (TP X pins σ Q) X.xe s
theorem PW.pt{X:Cx}{t:TT}(h:PW X e t):PT X e t:=h _
def PA(X:Cx)(es:List Expr)(t:TA):Prop:=
 ∀(pos:Pos) (pins:PM) (s:Shared) (σ:St) (H:Hp) (Q:List V->Hp->Prop),Inv X pins σ H s->t σ H Q->wpAny (model X.prog X.w) X.A (spliced (backTo pos (starEach es X.env))) (AP X pins σ Q) X.xe s
def PS(X:Cx)(st:Stmt)(t:TS):Prop:=
 ∀(pins:PM) (s:Shared) (σ:St) (H:Hp) (D:Ends),Inv X pins σ H s->t D σ H->wpAny (model X.prog X.w) X.A (exec st X.env) (SP X pins D) X.xe s
def sf(X:Cx)(st:List Stmt)(t:TS):Prop:=
 ∀(pins:PM) (s:Shared) (σ:St) (H:Hp) (D:Ends),Inv X pins σ H s->t D σ H->wpAny (model X.prog X.w) X.A (execs st X.env) (SP X pins D) X.xe s
theorem dG{α:Type}{t:Sem α}{Q Q':α->Shared->Prop}{M:Model}{E:PQ}{s:Shared}(h:wpAny M A t Q E s)(hQ:∀a s,Q a s->Q' a s):wpAny M A t Q' E s:=wpAny_mono h hQ fun _ _ x=>x
section
variable {X:Cx}
def JW(i:Nat):TE:=fun σ H Q=>∃v,σ[i]? =some (some v)/\Q v H
def tC(v:V):TE:=fun _ H Q=>Q v H
theorem oi{i:Nat}{pos:Pos}(hN:X.N[i]? =some x)(hv:Cq X.env.scope x)(hd:(x==("__debug__":Str))=false:=by decide)(pE:(x==("__classdict__":Str))=false:=by decide):PE X (.Name x pos) (JW i):=by
 intro pins s σ H Q I h;obtain⟨v,e,h⟩:=h;obtain⟨m,hn,hl⟩:=I.loc;obtain⟨u,r,l⟩:=hl i x v hN e hv;have fin:EP X pins σ Q u s:=⟨v,H,I,r,h⟩;rcases l with⟨hk,hm⟩ | ⟨hk,c,hc,hcell⟩
 .exact wpAny_Name (wpAny_loadName_local I.ok.kind hk hn hm fin) hd
 .rcases hk with hk | hk
  .exact wpAny_Name (wpAny_loadName_cell I.ok.kind hk hc hcell fin) hd
  .exact wpAny_Name (wpAny_loadName_free I.ok.kind hk hc hcell fin pE) hd
theorem oP{i j pos}:PE X (.Constant (.int i) j pos) (tC (.int i)):=fun _ _ _ H _ I h=>wpAny_Constant_int ⟨.int i,H,I.tok _,⟨_,rfl⟩,h⟩
theorem G2{b j pos}:PE X (.Constant (.bool b) j pos) (tC (.bl b)):=fun _ _ _ H _ I h=>Constant_bool ⟨.bl b,H,I,rfl,h⟩
theorem oX{x j pos}:PE X (.Constant (.str x) j pos) (tC (.str x)):=fun _ _ _ H _ I h=>Calls.Constant_str ⟨.str x,H,I.tok _,⟨_,rfl⟩,h⟩
def Gl(X:Cx)(x:Str):Prop:=X.env.kindOf x=some .globalImplicit
theorem vv{E:PQ}{pins:PM}{s:Shared}{σ:St}{H:Hp}{x:Str}{u:Value}{pos:Pos}{Q:PQ}(I:Inv X pins σ H s)(hg:Gl X x)(hm:X.mg x=some u)(h:Q u s)
 (hd:(x==("__debug__":Str))=false:=by decide):wpAny (model X.prog X.w) X.A (eval (.Name x pos) X.env) Q E s:=
 Calls.Name_function_global I.ok.kind hg (Calls.loadGlobal_global (by rw[I.ok.glob];exact I.mod.glob.keeps I.bk) hm h) hd
theorem jj{E:PQ}{pins:PM}{s:Shared}{σ:St}{H:Hp}{x:Str}{u:Value}{pos:Pos}{Q:PQ}(I:Inv X pins σ H s)(hg:Gl X x)(hm:X.mg x=none)(hv:bootBuiltins x=some u)(h:Q u s)
 (hn:x≠"__name__":=by decide) (hd:(x==("__debug__":Str))=false:=by decide):wpAny (model X.prog X.w) X.A (eval (.Name x pos) X.env) Q E s:=by
 obtain⟨mb,h1,h2⟩:=I.mod.blt;exact Calls.Name_function_global I.ok.kind hg (Calls.loadGlobal_builtin (by rw[I.ok.glob];exact I.mod.glob.keeps I.bk) hm (by rw[I.ok.blt];exact h1.keeps I.bk) ((h2 x hn).trans hv) h) hd
theorem Bv{v:V}{u:Value}{pos:Pos}(hg:Gl X x)(hm:X.mg x=some u)(r:RelV v u)(hd:(x==("__debug__":Str))=false:=by decide):PE X (.Name x pos) (tC v):=
 fun _ _ _ H _ I h=>vv I hg hm ⟨v,H,I,r,h⟩ hd
def Iw(ta tb:TE)(k:Int->Int->Hp->Prop):St->Hp->Prop:=fun σ H=>ta σ H fun x H1=>tb σ H1 fun y H2=>∃i j,x= .int i/\y= .int j/\k i j H2
def M_(ta tb:TE):TE:=fun σ H Q=>Iw ta tb (fun i j H2=>Q (.int (i+j)) H2) σ H
def MX(ta tb:TE):TE:=fun σ H Q=>Iw ta tb (fun i j H2=>Q (.int (i - j)) H2) σ H
def Mv(ta tb:TE):TE:=fun σ H Q=>Iw ta tb (fun i j H2=>(-(2 ^ 64) < i/\i < 2 ^ 64)/\Q (.int (i*j)) H2) σ H
variable {a b:Expr} {ta tb:TE} {pos:Pos}
def PC(X:Cx)(op:CmpOp)(a b:Expr)(t:TE):Prop:=
 ∀(pins:PM) (s:Shared) (σ:St) (H:Hp) (Q:VK),Inv X pins σ H s->t σ H Q->
  wpAny (model X.prog X.w) X.A (eval a X.env) (fun v s₁=>wpAny (model X.prog X.w) X.A (eval b X.env) (fun u uf=>wpAny (model X.prog X.w) X.A (compareOp op v u) (EP X pins σ Q) X.xe uf) X.xe s₁) X.xe s
def xw(p:Int->Int->Bool)(ta tb:TE):TE:=fun σ H Q=>Iw ta tb (fun i j H2=>Q (.bl (p i j)) H2) σ H
abbrev Pa:TE->TE->TE:=xw fun i j=>decide (i < j)
abbrev OP:TE->TE->TE:=xw fun i j=>decide (i<=j)
abbrev Pb:TE->TE->TE:=xw fun i j=>decide (j < i)
abbrev Pg:TE->TE->TE:=xw fun i j=>decide (j<=i)
abbrev MV:TE->TE->TE:=xw fun i j=>decide (i=j)
abbrev MB:TE->TE->TE:=xw fun i j=>!decide (i=j)
def N_(ta:TE):TE:=fun σ H Q=>ta σ H fun x H1=>Q (.bl (decide (x= .cL))) H1
def LU(ta:TE):TE:=fun σ H Q=>ta σ H fun x H1=>Q (.bl (!decide (x= .cL))) H1
def tB(t:TE):TT:=fun σ H Q=>t σ H fun x H1=>∃c,x= .bl c/\Q c H1
variable {tA IS:TT} {rest:List Expr}
def Kb(t u:TT):TT:=fun σ H Q=>t σ H fun c H1=>if c=true then u σ H1 Q else Q false H1
def Oc(t u:TT):TT:=fun σ H Q=>t σ H fun c H1=>if c=true then Q true H1 else u σ H1 Q
def MJ(t:TT):TT:=fun σ H Q=>t σ H fun c H1=>Q (!c) H1
theorem B_(ha:PT X a tA):PW X (.BoolOp .And [a] pos) tA:=by
 intro wh pins s σ H Q I h;refine isTrue_and (dG (ha pins s σ H Q I h) fun c s1 e=>?_)
 cases c with
 | true=>exact isTrue_and_nil e
 | false=>exact e
theorem E8(ha:PT X a tA):PW X (.BoolOp .Or [a] pos) tA:=by
 intro wh pins s σ H Q I h;refine isTrue_or (dG (ha pins s σ H Q I h) fun c s1 e=>?_)
 cases c with
 | false=>exact isTrue_or_nil e
 | true=>exact e
theorem EU(ha:PT X a tA)(hb:PW X (.BoolOp .And (b ::rest) pos) IS):PW X (.BoolOp .And (a ::b ::rest) pos) (Kb tA IS):=by
 intro wh pins s σ H Q I h;refine isTrue_and (dG (ha pins s σ H _ I h) fun c s1 ⟨H1,I1,q1⟩=>?_)
 cases c with
 | true=>exact hb wh pins s1 σ H1 Q I1 q1
 | false=>exact⟨H1,I1,q1⟩
theorem G_(ha:PT X a tA)(hb:PW X (.BoolOp .Or (b ::rest) pos) IS):PW X (.BoolOp .Or (a ::b ::rest) pos) (Oc tA IS):=by
 intro wh pins s σ H Q I h;refine isTrue_or (dG (ha pins s σ H _ I h) fun c s1 ⟨H1,I1,q1⟩=>?_)
 cases c with
 | true=>exact⟨H1,I1,q1⟩
 | false=>exact hb wh pins s1 σ H1 Q I1 q1
def Ld(ta tb:TE):TE:=fun σ H Q=>ta σ H fun x H1=>∃c,x= .bl c/\if c=true then tb σ H1 Q else Q (.bl false) H1
def Mq(ta tb:TE):TE:=fun σ H Q=>ta σ H fun x H1=>∃c,x= .bl c/\if c=true then Q (.bl true) H1 else tb σ H1 Q
def LO(ta:TE):TE:=fun σ H Q=>ta σ H fun x H1=>∃c,x= .bl c/\Q (.bl (!c)) H1
def NB(t:TT)(ta tb:TE):TE:=fun σ H Q=>t σ H fun c H1=>if c=true then ta σ H1 Q else tb σ H1 Q
theorem zC(hc:PT X c tA)(ha:PE X a ta)(hb:PE X b tb):PE X (.IfExp c a b pos) (NB tA ta tb):=by
 intro pins s σ H Q I h;refine wpAny_IfExp (dG (hc pins s σ H _ I h) fun d s1 ⟨H1,I1,q1⟩=>?_)
 cases d with
 | true=>exact ha pins s1 σ H1 Q I1 q1
 | false=>exact hb pins s1 σ H1 Q I1 q1
end
def lE(K:W.Frag)(H:Hp)(a:Addr)(xs:List V):Prop:=
 Rd H a (.lst xs)\/
  ∃(o:Obj) (its:Array Value) (n:Nat),K.lookup a=some o/\o.cls= .type "list"/\o.dict=none/\o.data= .seq its n/\its.size<=sizeLine/\Vals xs its.toList
def nh(K:W.Frag)(H:Hp)(a:Addr)(xs:List V):Prop:=
 Rd H a (.tup xs)\/
  ∃(o:Obj) (its:Array Value) (n:Nat),K.lookup a=some o/\o.cls= .type "tuple"/\o.data= .seq its n/\its.size<=sizeLine/\Vals xs its.toList
def Ji:Value->Option V
 | .none=>some .cL
 | .bool b=>some (.bl b)
 | .int i _=>some (.int i)
 | .str x _=>some (.str x)
 | .bytes b _=>some (.byt b)
 | .float b _=>some (.flt b)
 | .ref a=>some (.ref a)
 | .type n=>some (.ty n)
 | _=>none
theorem RelV.abs{x:V}{u:Value}(r:RelV x u):Ji u=some x:=by
 cases x with
 | cL=>cases r;rfl
 | bl _=>cases r;rfl
 | int _=>obtain⟨t,rfl⟩:=r;rfl
 | str _=>obtain⟨t,rfl⟩:=r;rfl
 | byt _=>obtain⟨t,rfl⟩:=r;rfl
 | flt _=>obtain⟨t,rfl⟩:=r;rfl
 | ref _=>cases r;rfl
 | ty _=>cases r;rfl
theorem RelV.inj{x y:V}{u:Value}(r:RelV x u)(q:RelV y u):x=y:=Option.some.inj (r.abs.symm.trans q.abs)
theorem Vals.inj:∀{xs ys:List V} {us:List Value},Vals xs us->Vals ys us->xs=ys
 | _,_,_, .nil, .nil=>rfl
 | _,_,_, .cons r t, .cons r' t'=>by rw[r.inj r',Vals.inj t t']
section
variable {X:Cx} {pins:PM} {σ:St} {H:Hp} {s:Shared} {a:Addr} {xs ys:List V}
theorem lE.of{K:W.Frag}(h:H a=some (.lst xs)):lE K H a xs:= .inl (.inl h)
theorem Inv.list(I:Inv X pins σ H s)(h:lE X.K H a xs):∃its:List Value,Vals xs its/\PlainL s.heap a its.toArray/\xs.length<=sizeLine:=by
 rcases h with h | ⟨o,its,n,hk,hc,hd,hs,hz,r⟩
 .obtain⟨z,its,n,r,e⟩:=h.ok I.hok;exact⟨its,r,⟨_,n,e,rfl,rfl,rfl⟩,z⟩
 .refine⟨its.toList,r,⟨o,n,I.EK a o hk,hc,hd,by simpa using hs⟩,?_⟩
  have e:=r.length;simp only[Array.length_toList] at e;omega
theorem Inv.tuple(I:Inv X pins σ H s)(h:nh X.K H a xs):∃its:List Value,Vals xs its/\IsTup s.heap a its.toArray/\xs.length<=sizeLine:=by
 rcases h with h | ⟨o,its,n,hk,hc,hs,hz,r⟩
 .obtain⟨z,its,r,p⟩:=h.ok I.hok;exact⟨its,r,p,z⟩
 .refine⟨its.toList,r,⟨o,I.EK a o hk,hc,n,by simpa using hs⟩,?_⟩
  have e:=r.length;simp only[Array.length_toList] at e;omega
theorem Inv.sx(I:Inv X pins σ H s)(h:lE X.K H a xs)(h':lE X.K H a ys):xs=ys:=by
 obtain⟨its,r,⟨o,n,e,_,_,d⟩,_⟩:=I.list h;obtain⟨its',r',⟨o',n',e',_,_,d'⟩,_⟩:=I.list h';rw[e] at e';cases e';rw[d] at d';injection d' with d1 _
 have:its=its':=by simpa using congrArg Array.toList d1
 subst this;exact r.inj r'
theorem Inv.qg(I:Inv X pins σ H s)(h:nh X.K H a xs)(h':nh X.K H a ys):xs=ys:=by
 obtain⟨its,r,⟨o,e,_,n,d⟩,_⟩:=I.tuple h;obtain⟨its',r',⟨o',e',_,n',d'⟩,_⟩:=I.tuple h';rw[e] at e';cases e';rw[d] at d';injection d' with d1 _
 have:its=its':=by simpa using congrArg Array.toList d1
 subst this;exact r.inj r'
end
abbrev Cx.pJ(X:Cx)(E:PQ):Cx:={X with xe:=E}
abbrev Cx.Cw(X:Cx):Cx:=X.pJ fun _ _=>False
theorem Cx.Ok.pJ{X:Cx}(ok:X.Ok)(E:PQ):(X.pJ E).Ok:=
 ⟨ok.mod,ok.kind,ok.glob,ok.blt,ok.above,ok.inj,ok.has,ok.cab,ok.hd,ok.frames,ok.stk,ok.exf,ok.bs,ok.bsz,ok.noex,ok.exfs,ok.pf,ok.frf⟩
theorem Cx.Ok.km{X:Cx}{E:PQ}(ok:(X.pJ E).Ok):X.Ok:=
 ⟨ok.mod,ok.kind,ok.glob,ok.blt,ok.above,ok.inj,ok.has,ok.cab,ok.hd,ok.frames,ok.stk,ok.exf,ok.bs,ok.bsz,ok.noex,ok.exfs,ok.pf,ok.frf⟩
section
variable {X:Cx} {pins:PM} {σ:St} {H:Hp} {s:Shared} {E:PQ}
theorem Inv.pJ(I:Inv X pins σ H s)(E:PQ):Inv (X.pJ E) pins σ H s:=⟨I.ok.pJ E,I.os,I.bare,I.base,I.loc,I.cell,I.free,I.freeC,I.pin,I.hok,I.len⟩
theorem Inv.km(I:Inv (X.pJ E) pins σ H s):Inv X pins σ H s:=⟨I.ok.km,I.os,I.bare,I.base,I.loc,I.cell,I.free,I.freeC,I.pin,I.hok,I.len⟩
theorem SP.km{D:Ends}{f:Flow}{s':Shared}(h:SP (X.pJ E) pins D f s'):SP X pins D f s':=by
 cases f with
 | next=>obtain⟨cN,H',I,q⟩:=h;exact⟨cN,H',I.km,q⟩
 | brk=>obtain⟨cN,H',I,q⟩:=h;exact⟨cN,H',I.km,q⟩
 | cont=>obtain⟨cN,H',I,q⟩:=h;exact⟨cN,H',I.km,q⟩
 | ret u=>obtain⟨v,cN,H',I,r,q⟩:=h;exact⟨v,cN,H',I.km,r,q⟩
theorem sf.Cw{st:List Stmt}{t:TS}(h:sf X.Cw st t):sf X st t:=fun pins s σ H D I hw=>
 wpAny_mono (h pins s σ H D (I.pJ _) hw) (fun _ _ q=>q.km) fun _ _ z=>False.elim z
end
section
variable {X:Cx} {st:Stmt} {rest:List Stmt} {t u:TS} {e:Expr} {te:TE} {pos:Pos}
def GV:TS:=fun D σ H=>D.nx σ H
def Hf(t u:TS):TS:=fun D σ H=>t {D with nx:=u D} σ H
theorem vT:sf X [] GV:=fun _ _ σ H _ I h=>wpAny_execs_nil ⟨σ,H,I,h⟩
theorem sH(h1:PS X st t)(h2:sf X rest u):sf X (st ::rest) (Hf t u):=by
 intro pins s σ H D I h;refine wpAny_execs_cons (dG (h1 pins s σ H {D with nx:=u D} I h) fun f s1 q=>?_)
 cases f with
 | next=>
   obtain⟨cN,H',I',q⟩:=q;exact h2 pins s1 cN H' D I' q
 | ret v=>exact q
 | brk=>exact q
 | cont=>exact q
theorem wa(h1:PS X st t):sf X [st] t:=by
 intro pins s σ H D I h;refine wpAny_execs_cons (dG (h1 pins s σ H D I h) fun f s1 q=>?_)
 cases f with
 | next=>exact wpAny_execs_nil q
 | ret v=>exact q
 | brk=>exact q
 | cont=>exact q
def Jm:TS:=fun D σ H=>D.bk σ H
def Lz:TS:=fun D σ H=>D.ct σ H
theorem Inv.quiet{pins:PM}{s:Shared}(I:Inv X pins σ H s):interactive X.env=false:=by simp [interactive,I.ok.kind]
def Hw(te:TE):TS:=fun D σ H=>te σ H fun _ H1=>D.nx σ H1
theorem nM(he:PE X e te)(hs:swapsWith e none pos.line X.env=pure false:=by rfl):PS X (.Expr e pos) (Hw te):=by
 intro pins s σ H D I h;exact wpAny_Expr_any (dG (he pins s σ H _ I h) fun v s1 ⟨x,H1,I1,r1,q1⟩=>⟨σ,H1,I1,q1⟩) I.quiet hs
def Jn(te:TE):TS:=fun D σ H=>te σ H D.rt
theorem yB(he:PE X e te):PS X (.Return (some e) pos) (Jn te):=by
 intro pins s σ H D I h;exact wpAny_Return_some (dG (he pins s σ H _ I h) fun v s1 ⟨x,H1,I1,r1,q1⟩=>⟨x,σ,H1,I1,r1,q1⟩)
def LX:TS:=fun D _ H=>D.rt .cL H
def JB(c:TT)(t u:TS):TS:=fun D σ H=>c σ H fun b H1=>if b=true then t D σ H1 else u D σ H1
theorem Di{tc:TT}(hc:PT X c tc)(ha:sf X a t)(hb:sf X b u):PS X (.If c a b pos) (JB tc t u):=by
 intro pins s σ H D I h;refine wpAny_If (dG (hc pins s σ H _ I h) fun d s1 ⟨H1,I1,q1⟩=>?_)
 cases d with
 | true=>exact ha pins s1 σ H1 D I1 q1
 | false=>exact hb pins s1 σ H1 D I1 q1
def JZ:TS:=fun _ _ _=>False
end
abbrev TG:=V->St->Hp->(St->Hp->Prop)->Prop
abbrev yk:=List V->St->Hp->(St->Hp->Prop)->Prop
def PG(X:Cx)(target:Expr)(t:TG):Prop:=
 ∀(pins:PM) (s:Shared) (σ:St) (H:Hp) (v:V) (u:Value) (Q:St->Hp->Prop),Inv X pins σ H s->RelV v u->t v σ H Q->
  wpAny (model X.prog X.w) X.A (assign target X.env u) (fun _ s'=>∃cN H',Inv X pins cN H' s'/\Q cN H') X.xe s
def AZ(X:Cx)(ts:List Expr)(t:yk):Prop:=
 ∀(pins:PM) (s:Shared) (σ:St) (H:Hp) (vs:List V) (us:List Value) (Q:St->Hp->Prop),Inv X pins σ H s->Vals vs us->t vs σ H Q->
  wpAny (model X.prog X.w) X.A (assignInOrder ((assignEach ts X.env).map (·.2)) us) (fun _ s'=>∃cN H',Inv X pins cN H' s'/\Q cN H') X.xe s
abbrev EE:=V->V->V->Hp->(Hp->Prop)->Prop
def NY(X:Cx)(t:EE):Prop:=
 ∀(pins:PM) (s:Shared) (σ:St) (H:Hp) (o i v:V) (ov iv u:Value) (Q:Hp->Prop),Inv X pins σ H s->RelV o ov->RelV i iv->RelV v u->t o i v H Q->
  wpAny (model X.prog X.w) X.A (setItem ov iv u) (fun _ s'=>∃H',Inv X pins σ H' s'/\Q H') X.xe s
abbrev II:=V->V->Hp->VK->Prop
def O1(X:Cx)(op:Operator)(t:II):Prop:=
 ∀(pins:PM) (s:Shared) (σ:St) (H:Hp) (x y:V) (v u:Value) (Q:VK),Inv X pins σ H s->RelV x v->RelV y u->t x y H Q->
  wpAny (model X.prog X.w) X.A (inplaceOp op v u) (EP X pins σ Q) X.xe s
section
variable {X:Cx} {pos:Pos}
def oJ(i:Nat):TG:=fun v σ H Q=>Q (σ.set i (some v)) H
theorem vy{i:Nat}(hN:X.N.Nodup)(hi:X.N[i]? =some x)(hx:Loc X.env.scope x)(hf:X.fn x=true\/X.env.scope.names.lookup x=some .local:=by first | exact .inl rfl | exact .inr rfl | assumption):PG X (.Name x pos) (oJ i):=by
 intro pins s σ H v u Q I r h;exact wpAny_assign_Name (ud I hN hi hx r (fun s' I'=>⟨_,H,I',h⟩) hf)
def Jj:yk:=fun vs σ H Q=>vs=[]/\Q σ H
def Hs(t:TG)(u:yk):yk:=fun vs σ H Q=>∃v r,vs=v ::r/\t v σ H fun cN H'=>u r cN H' Q
theorem vQ:AZ X [] Jj:=by
 intro pins s σ H vs us Q I r h;obtain⟨e,h⟩:=h;subst e;cases r;exact assignInOrder_nil ⟨σ,H,I,h⟩
theorem tF{e:Expr}{es:List Expr}{t:TG}{u:yk}(h1:PG X e t)(h2:AZ X es u)
 (hs:(assignEach (e ::es) X.env).map (·.2)=assign e X.env ::(assignEach es X.env).map (·.2):=by rfl):AZ X (e ::es) (Hs t u):=by
 intro pins s σ H vs us Q I r h;obtain⟨v,vr,e1,h⟩:=h;subst e1;cases r with
 | cons r rr=>
   rw[hs];refine assignInOrder_cons (dG (h1 pins s σ H _ _ _ I r h) fun _ s1 ⟨Ir,H1,I1,q1⟩=>?_)
   exact h2 pins s1 Ir H1 _ _ Q I1 rr q1
def JC(K:W.Frag)(n:Nat)(t:yk):TG:=fun v σ H Q=>∃a xs,v= .ref a/\nh K H a xs/\xs.length=n/\t xs σ H Q
theorem zG{es:List Expr}{k:Nat}{t:yk}{n:Nat}(hc:X.calm=true)(h:AZ X es t)
 (hn:(assignEach es X.env).length=n:=by rfl) (CN:(assignEach es X.env).findIdx? (·.1)=none:=by rfl):PG X (.Tuple es k pos) (JC X.K n t):=by
 intro pins s σ H v u Q I r hw;obtain⟨a,xs,e1,hq,hl,hw⟩:=hw;subst e1;cases r;obtain⟨its,rv,ht,hz⟩:=I.tuple hq;refine assign_Tuple_tuple (I.ok.hd hc) ht (by simp [hn,<-hl,rv.length]) CN fun h' hx=>?_
 have I1:Inv X pins σ H {s with heap:=h'}:=I.kept (t':=s.toks) fun b o e=>hx b o (Nat.ne_of_lt (Heap.lt_size e)) e
 exact h pins _ σ H xs _ Q I1 (by simpa using rv) hw
def M9(to ti:TE)(t:EE):TG:=fun v σ H Q=>to σ H fun o H1=>ti σ H1 fun i H2=>t o i v H2 fun H3=>Q σ H3
def Ak(te:TE)(g:TG):TS:=fun D σ H=>te σ H fun x H1=>g x σ H1 D.nx
theorem uU{i:Nat}{te:TE}(hN:X.N.Nodup)(hi:X.N[i]? =some x)(hx:Loc X.env.scope x)(he:PE X e te)(hs:swapsWith e (some (.Name x pos')) pos.line X.env=pure false:=by rfl)(hf:X.fn x=true\/X.env.scope.names.lookup x=some .local:=by first | exact .inl rfl | exact .inr rfl | assumption) :
 PS X (.Assign [.Name x pos'] e pos) (Ak te (oJ i)):=by
 intro pins s σ H D I h;refine wpAny_Assign_Name (dG (he pins s σ H _ I h) fun v s1 ⟨y,H1,I1,r1,q1⟩=>?_) hs
 exact ud I1 hN hi hx r1 (fun s2 I2=>⟨_,H1,I2,q1⟩) hf
def NH(i j:Nat)(ta:TA):TS:=fun D σ H=>ta σ H fun vs H1=>∃v w,vs=[v,w]/\D.nx ((σ.set i (some v)).set j (some w)) H1
def Ng(i:Nat)(te:TE)(ti:II):TS:=fun D σ H=>∃x,σ[i]? =some (some x)/\te σ H fun y H1=>ti x y H1 fun z H2=>D.nx (σ.set i (some z)) H2
def LM(to ti te:TE)(KO:V->V->Hp->VK->Prop)(OH:II)(KJ:EE):TS:=fun D σ H=>to σ H fun o H1=>ti σ H1 fun i H2=>KO o i H2 fun x H3=>te σ H3 fun y H4=>OH x y H4 fun z H5=>KJ o i z H5 fun H6=>D.nx σ H6
def M8(X:Cx)(t:V->V->Hp->VK->Prop):Prop:=
 ∀(pins:PM) (s:Shared) (σ:St) (H:Hp) (o i:V) (ov iv:Value) (Q:VK),Inv X pins σ H s->RelV o ov->RelV i iv->t o i H Q->
  wpAny (model X.prog X.w) X.A (getItem ov iv) (EP X pins σ Q) X.xe s
def OU(f:Int->Int->Int):II:=fun x y H Q=>∃i j,x= .int i/\y= .int j/\Q (.int (f i j)) H
end
section
variable {X:Cx} {pos:Pos}
def JY(c:TT)(tb:TS):TS:=fun D σ H=>∃W:Nat->St->Hp->Prop,(∃m,W m σ H)/\∀m σ H,W m σ H->
 c σ H fun b H1=>if b=true then ∃N:St->Hp->Prop,(∀cN H',N cN H'->∃m',m' < m/\W m' cN H')/\tb {D with nx:=N,ct:=N,bk:=D.nx} σ H1 else D.nx σ H1
end
structure It where
 go:Nat->Hp->Prop
 yld:Nat->Hp->V->Hp->Prop
 stop:Nat->Hp->Prop
def m6(X:Cx)(pins:PM)(H:Hp)(b:Addr):Prop:=
 H b=none/\b≠X.env.locals/\b ∉ X.fs/\(b∈X.ex\/X.s₀.heap.objs.size<=b)/\(∀x c,X.env.cells.lookup x=some c->c≠b)/\∀p∈X.pn++pins,p.1≠b
theorem Inv.uW{X:Cx}{pins:PM}{H H':Hp}{s:Shared}{b:Addr}(I:Inv X pins σ H s)(hb:s.heap.objs.size<=b)(hn:H' b=none):m6 X pins H' b:=by
 refine⟨hn,Nat.ne_of_gt (Nat.lt_of_lt_of_le I.lt hb),I.Kj hb, .inr (Nat.le_trans I.sz hb),fun x c e z=>?_,fun p hp z=>?_⟩
 .obtain⟨v,q⟩:=I.cell x c e;exact absurd (Nat.lt_of_lt_of_le q.lt (by rw[z];exact hb)) (Nat.lt_irrefl _)
 .exact absurd (Nat.lt_of_lt_of_le (Heap.lt_size (I.pin p hp).1) (by rw[z];exact hb)) (Nat.lt_irrefl _)
structure Turn (P:Program) (w:World) (K:W.Frag) (tg:Expr) (J:It) (fp:List Addr) (it:Addr) (tn:Nat->Heap->Prop):Prop where
 mem:it∈fp
 obj:∀i h,tn i h->∀b∈fp,∃o,h.get? b=some o/\∀v,o.data≠ .cell v
 keep:∀i h h',tn i h->(∀b∈fp,∀o,h.get? b=some o->h'.get? b=some o)->tn i h'
 item:∀(X:Cx),X.prog=P->X.w=w->X.K=K->X.calm=true->∀(i:Nat) (pins:PM) (s:Shared) (σ:St) (H:Hp) (E:PQ),Inv X pins σ H s->(∀b∈fp,m6 X pins H b)->tn i s.heap->J.go i H->
  wpAny (model P w) X.A (pyNext (.ref it)) (fun r s1=>∃u,r=some u/\
   wpAny (model P w) X.A (letOwnedTupleGo tg (.ref it) u) (fun _ s2=>∃x H',Inv X pins σ H' s2/\RelV x u/\J.yld i H x H'/\tn (i+1) s2.heap/\∀b∈fp,H' b=none) E s1) E s
 done:∀(X:Cx),X.prog=P->X.w=w->X.K=K->X.calm=true->∀(i:Nat) (pins:PM) (s:Shared) (σ:St) (H:Hp) (E:PQ),Inv X pins σ H s->(∀b∈fp,m6 X pins H b)->tn i s.heap->J.stop i H->
  wpAny (model P w) X.A (pyNext (.ref it)) (fun r s1=>r=none/\Inv X pins σ H s1) E s
 self:∀(A:Around) (i:Nat) (s:Shared) (Q:PQ) (E:PQ),tn i s.heap->Q (.ref it) s->wpAny (model P w) A (pyIter (.ref it)) Q E s
abbrev TI:=St->Hp->(It->Hp->Prop)->Prop
def LF(X:Cx)(pins:PM)(σ:St)(tg:Expr)(R:It->Hp->Prop)(IQ:Value)(s2:Shared):Prop:=
 ∃(it:Addr) (fp:List Addr) (tn:Nat->Heap->Prop) (J:It) (H':Hp),IQ= .ref it/\Inv X pins σ H' s2/\Turn X.prog X.w X.K tg J fp it tn/\tn 0 s2.heap/\(∀b∈fp,m6 X pins H' b)/\R J H'
def PI(X:Cx)(tg iter:Expr)(wi:TI):Prop:=
 ∀(pins:PM) (s:Shared) (σ:St) (H:Hp) (R:It->Hp->Prop),Inv X pins σ H s->wi σ H R->
  wpAny (model X.prog X.w) X.A (eval iter X.env) (fun v s1=>wpAny (model X.prog X.w) X.A (pyIter v) (LF X pins σ tg R) X.xe s1) X.xe s
theorem yI{M:Model}{A:Around}{E:PQ}{s:Shared}{tg:Expr}{it:Addr}{u:Value}{o:Obj}{n:String}{vs:Array Value}{Q:Unit->Shared->Prop}(ho:s.heap.get? it=some o)(hc:o.cls= .type n)(hd:o.data= .fields vs)
 (hn:["enumerate","zip","dict_itemiterator","dict_reverseitemiterator","odict_iterator","itertools.zip_longest","itertools.pairwise"].contains n=false) (hQ:Q () s):wpAny M A (letOwnedTupleGo tg (.ref it) u) Q E s:=by
 unfold letOwnedTupleGo;cases tg <;> first
  | exact wpAny_pure hQ
  | (cases u <;> first
      | exact wpAny_pure hQ
      | (refine wpAny_bind (wpAny_load ho ?_)
         rw[hc,hd];show wpAny M A (if(["enumerate","zip","dict_itemiterator","dict_reverseitemiterator","odict_iterator","itertools.zip_longest","itertools.pairwise"].contains n && vs[0]? ==some (rawInt _))=true then _ else _) Q E s
         rw[if_neg (by intro h;rw [hn,Bool.false_and] at h;cases h)]
         exact wpAny_pure hQ))
def Lw(K:W.Frag)(a:Addr):It:=
 ⟨fun i H=>∃xs x,lE K H a xs/\xs[i]? =some x,fun i H x H'=>H'=H/\∀xs,lE K H a xs->xs[i]? =some x,fun i H=>∃xs,lE K H a xs/\xs.length<=i⟩
def LJ(K:W.Frag)(a:Addr):It:=
 ⟨fun i H=>∃xs x,nh K H a xs/\xs[i]? =some x,fun i H x H'=>H'=H/\∀xs,nh K H a xs->xs[i]? =some x,fun i H=>∃xs,nh K H a xs/\xs.length<=i⟩
def G1(lo:Int)(n:Nat):It:=⟨fun i _=>i < n,fun i H x H'=>H'=H/\x= .int (lo+i),fun i _=>n<=i⟩
theorem i4{K:W.Frag}(a it:Addr):Turn P w K tg (Lw K a) [it] it (fun i h=>h.IsListIter it a i) where
 mem:=by simp
 obj:=fun i h st b hb=>by
  have e:b=it:=by simpa using hb
  subst e;obtain⟨o,e,c,d⟩:=st;exact⟨o,e,fun v z=>by rw[d] at z;cases z⟩
 keep:=fun i h h' st k=>st.at fun o e=>k it (by simp) o e
 item:=by
  intro X hP hw hK hc i pins s σ H E I hf st hg;subst hP hw hK;obtain⟨xs,x,hq,hx⟩:=hg;obtain⟨its,rv,p,hz⟩:=I.list hq;obtain⟨u,hu,ru⟩:=rv.get hx;obtain⟨f0,f1,f2,f3,f4,f5⟩:=hf it (by simp)
  refine wpAny_pyNext_list_item st p.isList (x:=u) (by simpa using hu) fun h' Az sb=>?_
  have I1:Inv X pins σ H {s with heap:=h'}:=I.turned (t':=s.toks) (fun b o hb e=>(sb.2 b hb).trans e) f0 f1 f3 f4 f5
  obtain⟨o,e,c,d⟩:=id Az;exact⟨u,rfl,yI (s:={s with heap:=h'}) e c d (by decide) ⟨x,H,I1,ru,⟨rfl,fun ys hy=>by rw[I.sx hy hq];exact hx⟩,Az,fun b hb=>(hf b hb).1⟩⟩
 done:=by
  intro X hP hw hK hc i pins s σ H E I hf st hg;subst hP hw hK;obtain⟨xs,hq,hx⟩:=hg;obtain⟨its,rv,p,hz⟩:=I.list hq;obtain⟨f0,f1,f2,f3,f4,f5⟩:=hf it (by simp)
  have hl:=rv.length;exact wpAny_pyNext_list_end (I.ok.hd hc) st p.isList (by simp;omega) fun h' eb=>⟨rfl,I.turned (t':=s.toks) (fun b o hb e=>eb b o hb e) f0 f1 f3 f4 f5⟩
 self:=fun _ _ _ _ _ st h=>wpAny_pyIter_listiter st h
theorem uD{K:W.Frag}(a it:Addr):Turn P w K tg (LJ K a) [it] it (fun i h=>h.IsTupleIter it a i) where
 mem:=by simp
 obj:=fun i h st b hb=>by
  have e:b=it:=by simpa using hb
  subst e;obtain⟨o,e,c,d⟩:=st;exact⟨o,e,fun v z=>by rw[d] at z;cases z⟩
 keep:=fun i h h' st k=>st.at fun o e=>k it (by simp) o e
 item:=by
  intro X hP hw hK hc i pins s σ H E I hf st hg;subst hP hw hK;obtain⟨xs,x,hq,hx⟩:=hg;obtain⟨its,rv,p,hz⟩:=I.tuple hq;obtain⟨u,hu,ru⟩:=rv.get hx;obtain⟨f0,f1,f2,f3,f4,f5⟩:=hf it (by simp)
  refine wpAny_pyNext_tuple_item st (show s.heap.IsTuple a its.toArray from p) (x:=u) (by simpa using hu) fun h' Az sb=>?_
  have I1:Inv X pins σ H {s with heap:=h'}:=I.turned (t':=s.toks) (fun b o hb e=>(sb.2 b hb).trans e) f0 f1 f3 f4 f5
  obtain⟨o,e,c,d⟩:=id Az;exact⟨u,rfl,yI (s:={s with heap:=h'}) e c d (by decide) ⟨x,H,I1,ru,⟨rfl,fun ys hy=>by rw[I.qg hy hq];exact hx⟩,Az,fun b hb=>(hf b hb).1⟩⟩
 done:=by
  intro X hP hw hK hc i pins s σ H E I hf st hg;subst hP hw hK;obtain⟨xs,hq,hx⟩:=hg;obtain⟨its,rv,p,hz⟩:=I.tuple hq;obtain⟨f0,f1,f2,f3,f4,f5⟩:=hf it (by simp)
  have hl:=rv.length;exact wpAny_pyNext_tuple_end (I.ok.hd hc) st (show s.heap.IsTuple a its.toArray from p) (by simp;omega) fun h' eb=>⟨rfl,I.turned (t':=s.toks) (fun b o hb e=>eb b o hb e) f0 f1 f3 f4 f5⟩
 self:=fun _ _ _ _ _ st h=>wpAny_pyIter_tupleiter st h
theorem vf{K:W.Frag}(it:Addr)(lo:Int)(n:Nat):Turn P w K tg (G1 lo n) [it] it (fun i h=>IsRangeIter h it (lo+(i:Nat)*1) ((n:Int) - (i:Nat)) 1) where
 mem:=by simp
 obj:=fun i h st b hb=>by
  have e:b=it:=by simpa using hb
  subst e;exact⟨_,st,fun v z=>by
   have z':Data.fields _=Data.cell v:=z;cases z'⟩
 keep:=fun i h h' st k=>k it (by simp) _ st
 item:=by
  intro X hP hw hK hc i pins s σ H E I hf st hg;subst hP hw hK;obtain⟨f0,f1,f2,f3,f4,f5⟩:=hf it (by simp)
  have W:=Walks.range (prog:=X.prog) (w:=X.w) (I.ok.hd hc) it lo 1 n;refine W.item i s _ _ hg st fun v h' tk hv Az kk=>?_
  obtain⟨t,rfl⟩:=hv;have I1:Inv X pins σ H {s with heap:=h',toks:=tk}:=I.turned (fun b o hb e=>kk b o (by simpa using hb) e) f0 f1 f3 f4 f5
  refine⟨_,rfl,yI (s:={s with heap:=h',toks:=tk}) (n:="range_iterator") Az rfl rfl (by decide) ⟨.int (lo+i),H,I1,⟨t,?_⟩,⟨rfl,rfl⟩,Az,fun b hb=>(hf b hb).1⟩⟩
  rw[Int.mul_one]
 done:=by
  intro X hP hw hK hc i pins s σ H E I hf st hg;subst hP hw hK;obtain⟨f0,f1,f2,f3,f4,f5⟩:=hf it (by simp)
  exact wpAny_pyNext_range_end (I.ok.hd hc) st (by have:n<=i:=hg;omega) fun h' eb=>⟨rfl,I.turned (t':=s.toks) (fun b o hb e=>eb b o hb e) f0 f1 f3 f4 f5⟩
 self:=fun _ _ _ _ _ st h=>wpAny_pyIter_rangeiter st h
section
variable {X:Cx} {tg:Expr}
def L6(K:W.Frag)(tl:TE):TI:=fun σ H R=>tl σ H fun x H1=>∃a,x= .ref a/\(∃xs,lE K H1 a xs)/\R (Lw K a) H1
def JX(K:W.Frag)(tl:TE):TI:=fun σ H R=>tl σ H fun x H1=>∃a,x= .ref a/\(∃xs,nh K H1 a xs)/\R (LJ K a) H1
theorem zu{pins:PM}{σ:St}{H:Hp}{s:Shared}{R:It->Hp->Prop}{E:PQ}{lo hi:Int}{t u v:Tok}{tk:Nat}(I:Inv X pins σ H s)(h1: -(2 ^ 62)<=lo)(h2:lo < 2 ^ 62)(h3: -(2 ^ 62)<=hi)(h4:hi < 2 ^ 62)
 (q:R (G1 lo (hi - lo).toNat) H):wpAny (model X.prog X.w) X.A (pyIter (.ref s.heap.objs.size)) (LF X pins σ tg R) E {s with heap:=s.heap.push {cls:= .type "range",data:= .fields #[.int lo t, .int hi u, .int 1 v]},toks:=tk}:=by
 refine wpAny_pyIter_range (IsRange.new ..) (small_one h1 h2 h3 h4) ?_;have I1:Inv X pins σ H {s with heap:=s.heap.push {cls:= .type "range",data:= .fields #[.int lo t, .int hi u, .int 1 v]},toks:=tk}:=I.kept fun b o e=>Heap.get?_push_of_some _ e
 refine⟨(s.heap.push {cls:= .type "range",data:= .fields #[.int lo t, .int hi u, .int 1 v]}).objs.size,[(s.heap.push {cls:= .type "range",data:= .fields #[.int lo t, .int hi u, .int 1 v]}).objs.size],_,_,H,rfl,
  I1.kept (t':=tk) fun b o e=>Heap.get?_push_of_some _ e,vf _ lo (hi - lo).toNat,?_,fun b hb=>?_,q⟩
 .have e1:lo+((0:Nat):Int)*1=lo:=by simp
  have e2:(((hi - lo).toNat:Nat):Int) - ((0:Nat):Int)=Builtin.Range.rangeSize lo hi 1:=by rw[rangeSize_one];split <;> omega
  show IsRangeIter _ _ (lo+((0:Nat):Int)*1) ((((hi - lo).toNat:Nat):Int) - ((0:Nat):Int)) 1;rw[e1,e2];exact Heap.get?_push_size _ rfl
 .have e:b=(s.heap.push {cls:= .type "range",data:= .fields #[.int lo t, .int hi u, .int 1 v]}).objs.size:=by simpa using hb
  subst e;exact I1.uW (Nat.le_refl _) (I1.hok.fresh (Nat.le_refl _))
def C8(ta:TA):TI:=fun σ H R=>ta σ H fun vs H1=>∃j:Int,vs=[.int j]/\ -(2 ^ 62)<=j/\j < 2 ^ 62/\R (G1 0 j.toNat) H1
def Li(ta:TA):TI:=fun σ H R=>ta σ H fun vs H1=>∃i j:Int,vs=[.int i, .int j]/\(-(2 ^ 62)<=i/\i < 2 ^ 62/\ -(2 ^ 62)<=j/\j < 2 ^ 62)/\R (G1 i (j - i).toNat) H1
theorem w_{ta:TA}{p pos:Pos}(hg:Gl X "range")(hm:X.mg "range"=none)(ha:PA X [a] ta)(hs:starEach [a] X.env=[(false,eval a X.env)]:=by rfl):PI X tg (.Call (.Name "range" p) [a] [] pos) (C8 ta):=by
 intro pins s σ H R I h;refine Call_ (jj I hg hm boot_range (PyProof.Rows.callWith_type1 (dG (ha pos pins s σ H _ I h) fun us s1 ⟨vs,H1,I1,r1,q1⟩=>?_) hs rfl))
 obtain⟨j,e,q1,q2,q⟩:=q1;subst e;cases r1 with
 | cons r rr=>
   cases rr;obtain⟨t,rfl⟩:=r;exact call_range_1 (zu I1 (by omega) (by omega) q1 q2 (by simpa using q))
def Jc(wi:TI)(g:TG)(tb:TS):TS:=fun D σ H=>wi σ H fun J H1=>∃W:Nat->Nat->St->Hp->Prop,(∃m,W 0 m σ H1)/\∀i m σ H,W i m σ H->
 (J.stop i H/\D.nx σ H)\/(J.go i H/\∃N:St->Hp->Prop,(∀cN H',N cN H'->∃m',m' < m/\W (i+1) m' cN H')/\∀x H',J.yld i H x H'->g x σ H' fun r9 H2=>tb {D with nx:=N,ct:=N,bk:=D.nx} r9 H2)
def la(fp:List Addr)(h:Heap):PM:=fp.filterMap fun b=>(h.get? b).map fun o=>(b,o)
theorem jd{fp:List Addr}{h:Heap}{b:Addr}{o:Obj}(hb:b∈fp)(e:h.get? b=some o):(b,o)∈la fp h:=List.mem_filterMap.mpr ⟨b,hb,by rw[e];rfl⟩
theorem wU{fp:List Addr}{h:Heap}{p:Addr × Obj}(hp:p∈la fp h):p.1∈fp/\h.get? p.1=some p.2:=by
 obtain⟨b,hb,e⟩:=List.mem_filterMap.mp hp;cases q:h.get? b with
 | none=>rw [q] at e;cases e
 | some o=>
   rw[q] at e;have e':(b,o)=p:=Option.some.inj e;subst e';exact⟨hb,q⟩
theorem Inv.pinned{pins:PM}{s:Shared}{fp:List Addr}(I:Inv X pins σ H s)(hf:∀b∈fp,m6 X pins H b)(ho:∀b∈fp,∃o,s.heap.get? b=some o/\∀v,o.data≠ .cell v):Inv X (pins++la fp s.heap) σ H s:=
 I.vA fun p hp=>(List.mem_append.mp hp).elim (fun z=>I.pin p (List.mem_append_right _ z)) fun z=>by
  obtain⟨hb,e⟩:=wU z;obtain⟨f0,f1,f2,_⟩:=hf p.1 hb;obtain⟨o,e',d⟩:=ho p.1 hb;rw[e] at e';cases e';exact⟨e,f0,f1,f2,d⟩
theorem Inv.lX{pins pl:PM}{s:Shared}(I:Inv X (pins++pl) σ H s):Inv X pins σ H s:=I.vA fun p hp=>I.pin p (List.mem_append_right _ (List.mem_append_left _ hp))
theorem yA{iter:Expr}{body:List Stmt}{wi:TI}{g:TG}{tb:TS}{pos:Pos}(hp:PassesOwn (model X.prog X.w) X.A X.env X.xe)(hc:X.calm=true)(hi:PI X tg iter wi)(hg:PG X tg g)(hb:sf X body tb)
 (hs:∀x,foldedSetIterable iter X.env x=pure x:=by intro _;rfl):PS X (.For tg iter body [] pos) (Jc wi g tb):=by
 intro pins s σ H D I h;refine wpAny_For (dG (hi pins s σ H _ I h) fun v s1 h1=>dG h1 fun IQ s2 h2=>?_) hs
 obtain⟨it,fp,tn,J,H2,e,I2,T,FQ,f2,W,⟨m0,w0⟩,turn⟩:=h2;subst e;have stat:∀{H':Hp},(∀b∈fp,H' b=none)->∀b∈fp,m6 X pins H' b:=fun hn b hb=>⟨hn b hb,(f2 b hb).2⟩
 refine codeAny_forLoop_any (fun n s'=>∃i cN H',Inv X pins cN H' s'/\tn i s'.heap/\(∀b∈fp,H' b=none)/\W i n cN H') ?_ m0 ⟨0,σ,H2,I2,FQ,fun b hb=>(f2 b hb).1,w0⟩
 rintro n s3 ⟨i,CP,H3,I3,CV,H0,w3⟩;rcases turn i n CP H3 w3 with⟨stop,qn⟩ | ⟨go,N,hN,step⟩
 .refine wpAny_passesOwn hp (dG (T.done X rfl rfl rfl hc i pins s3 CP H3 X.xe I3 (stat H0) CV stop) fun r s4 ⟨hr,I4⟩=>?_)
  subst hr;exact wpAny_execs_nil ⟨CP,H3,I4,qn⟩
 .refine wpAny_passesOwn hp (dG (T.item X rfl rfl rfl hc i pins s3 CP H3 X.xe I3 (stat H0) CV go) fun r s4 ⟨u,hr,h4⟩=>?_)
  subst hr;refine wpAny_passesOwn hp (dG h4 fun _ s5 ⟨x,H5,I5,r5,y5,FP,Kv⟩=>?_)
  have I5':=I5.pinned (stat Kv) (T.obj _ _ FP);refine wpAny_passesOwn hp (dG (hg _ s5 CP H5 x u _ I5' r5 (step x H5 y5)) fun _ s6 ⟨H_,H6,I6,q6⟩=>?_)
  refine wpAny_passesOwn hp (dG (hb _ s6 H_ H6 _ I6 q6) fun f s7 q7=>?_)
  have again:∀{uh:St} {H7:Hp},Inv X (pins++la fp s5.heap) uh H7 s7->N uh H7->∃m,m < n/\∃i cN H',Inv X pins cN H' s7/\tn i s7.heap/\(∀b∈fp,H' b=none)/\W i m cN H':=fun {uh H7} I7 n7=>by
   obtain⟨m',hm,w7⟩:=hN uh H7 n7;refine⟨m',hm,i+1,uh,H7,I7.lX,T.keep _ _ _ FP fun b hb o e=>(I7.pin (b,o) (List.mem_append_right _ (List.mem_append_right _ (jd hb e)))).1,fun b hb=>?_,w7⟩
   obtain⟨o,e,d⟩:=T.obj _ _ FP b hb;exact(I7.pin (b,o) (List.mem_append_right _ (List.mem_append_right _ (jd hb e)))).2.1
  cases f with
  | next=>obtain⟨uh,H7,I7,n7⟩:=q7;exact again I7 n7
  | cont=>obtain⟨uh,H7,I7,n7⟩:=q7;exact again I7 n7
  | brk=>obtain⟨uh,H7,I7,q7⟩:=q7;exact⟨uh,H7,I7.lX,q7⟩
  | ret v=>obtain⟨x7,uh,H7,I7,r7,q7⟩:=q7;exact⟨x7,uh,H7,I7.lX,r7,q7⟩
end
abbrev R2:=V->V->Hp->VK->Prop
def jT(X:Cx)(f:Value->Value->Sem Value)(r:R2):Prop:=
 ∀(pins:PM) (s:Shared) (σ:St) (H:Hp) (x y:V) (v u:Value) (Q:VK),Inv X pins σ H s->RelV x v->RelV y u->r x y H Q->
  wpAny (model X.prog X.w) X.A (f v u) (EP X pins σ Q) X.xe s
def Jf(X:Cx)(f:Value->Sem Value)(r:V->Hp->VK->Prop):Prop:=
 ∀(pins:PM) (s:Shared) (σ:St) (H:Hp) (x:V) (v:Value) (Q:VK),Inv X pins σ H s->RelV x v->r x H Q->
  wpAny (model X.prog X.w) X.A (f v) (EP X pins σ Q) X.xe s
def j4(X:Cx)(f:Value)(r:List V->Hp->VK->Prop):Prop:=
 ∀(pins:PM) (s:Shared) (σ:St) (H:Hp) (xs:List V) (us:List Value) (Q:VK),Inv X pins σ H s->Vals xs us->r xs H Q->
  wpAny (model X.prog X.w) X.A (call f us) (EP X pins σ Q) X.xe s
def NG(X:Cx)(r:V->Hp->(Bool->Hp->Prop)->Prop):Prop:=
 ∀(pins:PM) (s:Shared) (σ:St) (H:Hp) (x:V) (v:Value) (Q:Bool->Hp->Prop),Inv X pins σ H s->RelV x v->r x H Q->
  wpAny (model X.prog X.w) X.A (truthy v) (TP X pins σ Q) X.xe s
def Ge(r:R2)(ta tb:TE):TE:=fun σ H Q=>ta σ H fun x H1=>tb σ H1 fun y H2=>r x y H2 Q
def NC(r:V->Hp->VK->Prop)(ta:TE):TE:=fun σ H Q=>ta σ H fun x H1=>r x H1 Q
def rI(C:Int->Int->Prop)(g:Int->Int->V):R2:=fun x y H Q=>∃i j,x= .int i/\y= .int j/\C i j/\Q (g i j) H
def zE(g:Int->Int->V):R2:=fun x y H Q=>∃i j,x= .int i/\y= .int j/\Q (g i j) H
def rU(g:Int->V):V->Hp->VK->Prop:=fun x H Q=>∃i,x= .int i/\Q (g i) H
section
variable {X:Cx} {a b c:Expr} {ta tb tc:TE} {pos:Pos}
theorem Fx(ha:PE X a ta)(hb:PE X b tb){pins:PM}{s:Shared}{σ:St}{H:Hp}{R:V->V->Hp->Prop}(I:Inv X pins σ H s)
 (h:ta σ H fun x H1=>tb σ H1 fun y H2=>R x y H2) {Q:PQ} {f:Value->Value->Sem Value}
 (hf:∀v u s2 x y H2,Inv X pins σ H2 s2->RelV x v->RelV y u->R x y H2->wpAny (model X.prog X.w) X.A (f v u) Q X.xe s2) :
 wpAny (model X.prog X.w) X.A (eval a X.env) (fun v s₁=>wpAny (model X.prog X.w) X.A (eval b X.env) (fun u uf=>wpAny (model X.prog X.w) X.A (f v u) Q X.xe uf) X.xe s₁) X.xe s:=by
 refine dG (ha pins s σ H _ I h) fun v s1 ⟨x,H1,I1,r1,q1⟩=>?_
 refine dG (hb pins s1 σ H1 _ I1 q1) fun u s2 ⟨y,H2,I2,r2,q2⟩=>?_
 exact hf v u s2 x y H2 I2 r1 r2 q2
theorem Dw{op:Operator}{r:R2}(ho:jT X (binaryOp op) r)(ha:PE X a ta)(hb:PE X b tb):PE X (.BinOp a op b pos) (Ge r ta tb):=by
 intro pins s σ H Q I h;exact wpAny_BinOp (Fx ha hb I h fun v u s2 x y H2 I2 rx ry q=>ho pins s2 σ H2 x y v u Q I2 rx ry q)
theorem GP{op:UnaryOp}{r:V->Hp->VK->Prop}(ho:Jf X (unaryOp op) r)(ha:PE X a ta):PE X (.UnaryOp op a pos) (NC r ta):=by
 intro pins s σ H Q I h;exact UnaryOp_ (dG (ha pins s σ H _ I h) fun v s1 ⟨x,H1,I1,r1,q1⟩=>ho pins s1 σ H1 x v Q I1 r1 q1)
theorem Gf{f:Value->Value->Sem Value}{C:Int->Int->Prop}{g:Int->Int->Int}
 (rule:∀(i j:Int) (t u:Tok) (s:Shared) (Q:PQ) (E:PQ),C i j->Q (.int (g i j) s.toks) {s with toks:=s.toks+1}->wpAny (model X.prog X.w) X.A (f (.int i t) (.int j u)) Q E s) :
 jT X f (rI C fun i j=> .int (g i j)):=by
 intro pins s σ H x y v u Q I rx ry h;obtain⟨i,j,rfl,rfl,hc,q⟩:=h;obtain⟨t,rfl⟩:=rx;obtain⟨t',rfl⟩:=ry;exact rule i j t t' s _ _ hc ⟨.int (g i j),H,I.tok _,⟨_,rfl⟩,q⟩
theorem yK{f:Value->Value->Sem Value}{g:Int->Int->Int}
 (rule:∀(i j:Int) (t u:Tok) (s:Shared) (Q:PQ) (E:PQ),Q (.int (g i j) s.toks) {s with toks:=s.toks+1}->wpAny (model X.prog X.w) X.A (f (.int i t) (.int j u)) Q E s) :
 jT X f (zE fun i j=> .int (g i j)):=by
 intro pins s σ H x y v u Q I rx ry h;obtain⟨i,j,rfl,rfl,q⟩:=h;obtain⟨t,rfl⟩:=rx;obtain⟨t',rfl⟩:=ry;exact rule i j t t' s _ _ ⟨.int (g i j),H,I.tok _,⟨_,rfl⟩,q⟩
theorem Hg{f:Value->Value->Sem Value}{g:Int->Int->Bool}
 (rule:∀(i j:Int) (t u:Tok) (s:Shared) (Q:PQ) (E:PQ),Q (.bool (g i j)) s->wpAny (model X.prog X.w) X.A (f (.int i t) (.int j u)) Q E s) :
 jT X f (zE fun i j=> .bl (g i j)):=by
 intro pins s σ H x y v u Q I rx ry h;obtain⟨i,j,rfl,rfl,q⟩:=h;obtain⟨t,rfl⟩:=rx;obtain⟨t',rfl⟩:=ry;exact rule i j t t' s _ _ ⟨.bl (g i j),H,I,rfl,q⟩
def Jh(i j:Int):Prop:=0 < j/\j < 1073741824
def Ln(i j:Int):Prop:=j≠0/\j.natAbs < 1073741824
def G3(i j:Int):Prop:=0<=j/\j<=1000000/\i.natAbs < 2 ^ 64
def DK(i j:Int):Prop:=(-(2 ^ 64) < i/\i < 2 ^ 64)\/(-(2 ^ 64) < j/\j < 2 ^ 64)
theorem DK.ok{i j:Int}(h:DK i j):IntMulOk i j:=by
 rcases h with⟨h1,h2⟩ | ⟨h1,h2⟩
 .exact .of_left (intBits_le_64 h1 h2)
 .exact .of_right (intBits_le_64 h1 h2)
theorem uy(k:Nat):(0:Int)<=2 ^ k:=by
 rw[two_pow_cast];exact Int.natCast_nonneg _
theorem Ea:jT X (binaryOp .Add) (zE fun i j=> .int (i+j)):=yK fun _ _ _ _ _ _ _ q=>add_int q
theorem D0:jT X (binaryOp .Sub) (zE fun i j=> .int (i - j)):=yK fun _ _ _ _ _ _ _ q=>sub_int q
theorem E7:jT X (binaryOp .Mult) (rI DK fun i j=> .int (i*j)):=Gf fun _ _ _ _ _ _ _ hc q=>mul_int q hc.ok
theorem BN:jT X (binaryOp .FloorDiv) (rI Jh fun i j=> .int (i / j)):=Gf fun i j _ _ _ _ _ hc q=>by
 have h1:(0:Int) < j:=hc.1;have h2:j < 1073741824:=hc.2;exact floordiv_int (by omega) (by rw[Int.fdiv_eq_ediv_of_nonneg i (by omega)];exact q) (.inl (PyProof.noPylong_small (by omega)))
theorem DQ:jT X (binaryOp .Mod) (rI (fun _ j=>0 < j) fun i j=> .int (i % j)):=Gf fun i j _ _ _ _ _ hc q=>by
 have h1:(0:Int) < j:=hc;exact mod_int' (by omega) (by rw[Int.fmod_eq_emod_of_nonneg i (by omega)];exact q)
theorem ER:jT X (binaryOp .Pow) (rI G3 fun i j=> .int (i ^ j.toNat)):=Gf fun _ _ _ _ _ _ _ hc q=>pow_int_small hc.1 hc.2.1 hc.2.2 q
theorem DV:jT X (binaryOp .LShift) (rI G3 fun i j=> .int (i*2 ^ j.toNat)):=Gf fun _ _ _ _ _ _ _ hc q=>lshift_int_small hc.1 hc.2.1 hc.2.2 q
theorem EZ:jT X (binaryOp .RShift) (rI (fun _ j=>0<=j) fun i j=> .int (i / 2 ^ j.toNat)):=Gf fun i j _ _ _ _ _ hc q=>
 rshift_int hc (by rw[Int.fdiv_eq_ediv_of_nonneg i (uy _)];exact q)
theorem Fu:jT X (binaryOp .BitAnd) (zE fun i j=> .int (Builtin.bitAnd i j)):=yK fun _ _ _ _ _ _ _ q=>and_int q
theorem GY:jT X (binaryOp .BitOr) (zE fun i j=> .int (Builtin.bitOr i j)):=yK fun _ _ _ _ _ _ _ q=>or_int q
theorem En:jT X (binaryOp .BitXor) (zE fun i j=> .int (Builtin.bitXor i j)):=yK fun _ _ _ _ _ _ _ q=>xor_int q
theorem MW{f:Value->Sem Value}{g:Int->Int}
 (rule:∀(i:Int) (t:Tok) (s:Shared) (Q:PQ) (E:PQ),Q (.int (g i) s.toks) {s with toks:=s.toks+1}->wpAny (model X.prog X.w) X.A (f (.int i t)) Q E s) :
 Jf X f (rU fun i=> .int (g i)):=by
 intro pins s σ H x v Q I rx h;obtain⟨i,rfl,q⟩:=h;obtain⟨t,rfl⟩:=rx;exact rule i t s _ _ ⟨.int (g i),H,I.tok _,⟨_,rfl⟩,q⟩
theorem DJ:Jf X (unaryOp .USub) (rU fun i=> .int (-i)):=MW fun _ _ _ _ _ q=>neg_int q
end
def GN:V->V->Bool
 | .cL, .cL=>true | .cL, .int _=>true | .int _, .cL=>true | .cL, .bl _=>true | .bl _, .cL=>true | .cL, .str _=>true | .str _, .cL=>true
 | .int _, .int _=>true | .bl _, .bl _=>true | .str _, .str _=>true | .byt _, .byt _=>true
 | .int _, .str _=>true | .str _, .int _=>true | .bl _, .str _=>true | .str _, .bl _=>true
 | _,_=>false
def M5:R2:=fun x y H Q=>GN x y=true/\Q (.bl (decide (x=y))) H
def Nd:R2:=fun x y H Q=>GN x y=true/\Q (.bl (!decide (x=y))) H
theorem wH{i j:Int}:decide (V.int i=V.int j)=(i==j):=by
 rw[Bool.eq_iff_iff];simp
theorem zm{i j:Bool}:decide (V.bl i=V.bl j)=(i==j):=by
 rw[Bool.eq_iff_iff];simp
theorem wC:decide (V.str i=V.str j)=(i==j):=by
 rw[Bool.eq_iff_iff];simp
theorem vB{i j:Array UInt8}:decide (V.byt i=V.byt j)=(i.toList==j.toList):=by
 rw[Bool.eq_iff_iff];cases i;cases j;simp
section
variable {X:Cx} {a b c:Expr} {ta tb tc:TE} {pos:Pos}
theorem bN{pins:PM}{s:Shared}{Q:VK}{k k':Bool}(I:Inv X pins σ H s)(q:Q (.bl k) H)(e:k=k'):EP X pins σ Q (.bool k') s:=by
 subst e;exact⟨.bl k,H,I,rfl,q⟩
theorem Ao:jT X (compareOp .Eq) M5:=by
 intro pins s σ H x y v u Q I rx ry h;obtain⟨hs,q⟩:=h;cases x with
 | cL=>
   cases rx;cases y with
   | cL=>cases ry;exact PySem.EqNone.eq_none_none (bN I q (by simp))
   | bl j=>cases ry;exact PySem.EqNone.eq_none_bool (bN I q (by simp))
   | int j=>obtain⟨t',rfl⟩:=ry;exact PySem.EqNone.eq_none_int (bN I q (by simp))
   | str j=>obtain⟨t',rfl⟩:=ry;exact PySem.EqNone.eq_none_str (bN I q (by simp))
   | _=>exact absurd (show false=true from hs) Bool.false_ne_true
 | bl i=>
   cases rx;cases y with
   | cL=>cases ry;exact PySem.EqNone.eq_bool_none (bN I q (by simp))
   | bl j=>cases ry;exact eq_bool (bN I q zm)
   | str j=>obtain⟨t',rfl⟩:=ry;exact PySem.EqMixed.eq_bool_str (bN I q (by simp))
   | _=>exact absurd (show false=true from hs) Bool.false_ne_true
 | int i=>
   obtain⟨t,rfl⟩:=rx;cases y with
   | cL=>cases ry;exact PySem.EqNone.eq_int_none (bN I q (by simp))
   | int j=>obtain⟨t',rfl⟩:=ry;exact eq_int (bN I q wH)
   | str j=>obtain⟨t',rfl⟩:=ry;exact PySem.EqMixed.eq_int_str (bN I q (by simp))
   | _=>exact absurd (show false=true from hs) Bool.false_ne_true
 | str i=>
   obtain⟨t,rfl⟩:=rx;cases y with
   | cL=>cases ry;exact PySem.EqNone.eq_str_none (bN I q (by simp))
   | bl j=>cases ry;exact PySem.EqMixed.eq_str_bool (bN I q (by simp))
   | int j=>obtain⟨t',rfl⟩:=ry;exact PySem.EqMixed.eq_str_int (bN I q (by simp))
   | str j=>obtain⟨t',rfl⟩:=ry;exact eq_str (bN I q wC)
   | _=>exact absurd (show false=true from hs) Bool.false_ne_true
 | byt i=>
   obtain⟨t,rfl⟩:=rx;cases y with
   | byt j=>obtain⟨t',rfl⟩:=ry;exact PySem.W.eq_bytes (bN I q vB)
   | _=>exact absurd (show false=true from hs) Bool.false_ne_true
 | _=>cases y <;> exact absurd (show false=true from hs) Bool.false_ne_true
theorem yY:jT X (compareOp .NotEq) Nd:=by
 intro pins s σ H x y v u Q I rx ry h;obtain⟨hs,q⟩:=h;cases x with
 | cL=>
   cases rx;cases y with
   | cL=>cases ry;exact PySem.EqNone.ne_none_none (bN I q (by simp))
   | bl j=>cases ry;exact PySem.EqNone.ne_none_bool (bN I q (by simp))
   | int j=>obtain⟨t',rfl⟩:=ry;exact PySem.EqNone.ne_none_int (bN I q (by simp))
   | str j=>obtain⟨t',rfl⟩:=ry;exact PySem.EqNone.ne_none_str (bN I q (by simp))
   | _=>exact absurd (show false=true from hs) Bool.false_ne_true
 | bl i=>
   cases rx;cases y with
   | cL=>cases ry;exact PySem.EqNone.ne_bool_none (bN I q (by simp))
   | bl j=>cases ry;exact ne_bool (bN I q (congrArg not zm))
   | str j=>obtain⟨t',rfl⟩:=ry;exact PySem.EqMixed.ne_bool_str (bN I q (by simp))
   | _=>exact absurd (show false=true from hs) Bool.false_ne_true
 | int i=>
   obtain⟨t,rfl⟩:=rx;cases y with
   | cL=>cases ry;exact PySem.EqNone.ne_int_none (bN I q (by simp))
   | int j=>obtain⟨t',rfl⟩:=ry;exact ne_int (bN I q (congrArg not wH))
   | str j=>obtain⟨t',rfl⟩:=ry;exact PySem.EqMixed.ne_int_str (bN I q (by simp))
   | _=>exact absurd (show false=true from hs) Bool.false_ne_true
 | str i=>
   obtain⟨t,rfl⟩:=rx;cases y with
   | cL=>cases ry;exact PySem.EqNone.ne_str_none (bN I q (by simp))
   | bl j=>cases ry;exact PySem.EqMixed.ne_str_bool (bN I q (by simp))
   | int j=>obtain⟨t',rfl⟩:=ry;exact PySem.EqMixed.ne_str_int (bN I q (by simp))
   | str j=>obtain⟨t',rfl⟩:=ry;exact ne_str (bN I q (congrArg not wC))
   | _=>exact absurd (show false=true from hs) Bool.false_ne_true
 | byt i=>
   obtain⟨t,rfl⟩:=rx;cases y with
   | byt j=>obtain⟨t',rfl⟩:=ry;exact PySem.W.ne_bytes (bN I q (congrArg not vB))
   | _=>exact absurd (show false=true from hs) Bool.false_ne_true
 | _=>cases y <;> exact absurd (show false=true from hs) Bool.false_ne_true
theorem GO:jT X (compareOp .Gt) (zE fun i j=> .bl (decide (j < i))):=Hg fun _ _ _ _ _ _ _ q=>gt_int q
theorem Hm:jT X (compareOp .GtE) (zE fun i j=> .bl (decide (j<=i))):=Hg fun _ _ _ _ _ _ _ q=>ge_int q
theorem xQ:jT X (compareOp .In) (fun x y H Q=>∃i j,x= .str i/\y= .str j/\Q (.bl (!(Builtin.Str.occurrences j i 0 j.length 1).isEmpty)) H):=by
 intro pins s σ H x y v u Q I rx ry h;obtain⟨i,j,rfl,rfl,q⟩:=h;obtain⟨t,rfl⟩:=rx;obtain⟨t',rfl⟩:=ry;exact in_str (bN I q rfl)
theorem rn:jT X (compareOp .NotIn) (fun x y H Q=>∃i j,x= .str i/\y= .str j/\Q (.bl (!(!(Builtin.Str.occurrences j i 0 j.length 1).isEmpty))) H):=by
 intro pins s σ H x y v u Q I rx ry h;obtain⟨i,j,rfl,rfl,q⟩:=h;obtain⟨t,rfl⟩:=rx;obtain⟨t',rfl⟩:=ry;exact notIn_str (bN I q rfl)
def isObj:HO->Bool
 | .lst _=>true
 | .ins _ _ _=>true
 | _=>false
theorem cP(b:Expr){op:CmpOp}(h:op≠ .In:=by decide)(h2:op≠ .NotIn:=by decide):behindInMarks op b=false:=by
 have e1:(op==CmpOp.In)=false:=by cases op <;> first | rfl | exact absurd rfl h
 have e2:(op==CmpOp.NotIn)=false:=by cases op <;> first | rfl | exact absurd rfl h2
 cases b <;> simp [behindInMarks,e1,e2]
theorem CI{op:CmpOp}{r:R2}(ho:jT X (compareOp op) r)(ha:PE X a ta)(hb:PE X b tb)(hm:behindInMarks op b=false):PE X (.Compare a [op] [b] pos) (Ge r ta tb):=by
 intro pins s σ H Q I h;exact wpAny_Compare1 (Fx ha hb I h fun v u s2 x y H2 I2 rx ry q=>ho pins s2 σ H2 x y v u Q I2 rx ry q) hm
def GC(t:TE):TT:=fun σ H Q=>t σ H fun x H'=>∃k,x= .bl k/\Q k H'
theorem vG{op:CmpOp}{r:R2}(ho:jT X (compareOp op) r)(ha:PE X a ta)(hb:PE X b tb)(hm:behindInMarks op b=false):PT X (.Compare a [op] [b] pos) (GC (Ge r ta tb)):=by
 intro pins s σ H Q I h;refine wpAny_isTrue_Compare1 (dG (ha pins s σ H _ I h) fun v s1 ⟨x,H1,I1,r1,q1⟩=>dG (hb pins s1 σ H1 _ I1 q1) fun u s2 ⟨y,H2,I2,r2,q2⟩=>
  dG (ho pins s2 σ H2 x y v u _ I2 r1 r2 q2) fun c s3 ⟨z,H3,I3,r3,k,e,q3⟩=>?_) hm
 subst e;cases r3;exact wpAny_truthy_bool ⟨H3,I3,q3⟩
def J7(r r':R2)(ta tb tc:TE):TE:=fun σ H Q=>ta σ H fun x H1=>tb σ H1 fun y H2=>r x y H2 fun z H3=>∃k,z= .bl k/\
 (if k=true then tc σ H3 fun w' H4=>r' y w' H4 Q else Q (.bl false) H3)
def N5(K:W.Frag)(x:V)(H:Hp)(k:Bool):Prop:=
 match x with
 | .cL=>k=false
 | .bl b=>k=b
 | .int i=>k=(i !=0)
 | .str y=>y.length<=sizeLine/\k=((y.length:Int) !=0)
 | .byt y=>y.size<=sizeLine/\k=((y.size:Int) !=0)
 | .ref p=>(∃xs,lE K H p xs/\k=!xs.isEmpty)\/(∃xs,nh K H p xs/\k=!xs.isEmpty)\/∃kvs,H p=some (.dK kvs)/\k=!kvs.isEmpty
 | _=>False
theorem qM:(sizeLine:Nat) < 2 ^ 63:=by rw[sizeLine_eq];decide
theorem ve:jT X (binaryOp .Add) (fun x y H Q=>∃i j,x= .str i/\y= .str j/\i.length+j.length<=sizeLine/\Q (.str (i++j)) H):=by
 intro pins s σ H x y v u Q I rx ry h;obtain⟨i,j,rfl,rfl,hz,q⟩:=h;obtain⟨t,rfl⟩:=rx;obtain⟨t',rfl⟩:=ry;exact add_str (fun t' tk=>⟨.str (i++j),H,I.tok _,⟨_,rfl⟩,q⟩) hz
def Hy(b:Expr):Prop:=∀o i,subscripted b false o i=operate [o,i] (getItem o i)
theorem vals1{x:V}{us:List Value}(r:Vals [x] us):∃u,us=[u]/\RelV x u:=by
 cases r with
 | cons r1 r2=>cases r2;exact⟨_,rfl,r1⟩
theorem vals2{x y:V}{us:List Value}(r:Vals [x,y] us):∃u w',us=[u,w']/\RelV x u/\RelV y w':=by
 cases r with
 | cons r1 r2=>
   cases r2 with
   | cons r3 r4=>cases r4;exact⟨_,_,rfl,r1,r3⟩
theorem xO(hc:X.calm=true):j4 X (.builtin "max") (fun xs H Q=>∃i j,xs=[.int i, .int j]/\Q (.int (if j > i then j else i)) H):=by
 intro pins s σ H xs us Q I r h;obtain⟨i,j,rfl,q⟩:=h;obtain⟨u,w',rfl,⟨t,rfl⟩,⟨t',rfl⟩⟩:=vals2 r;refine max_two_ints (I.ok.hd hc) fun h' tk k=>⟨_,H,I.kept k,?_,q⟩
 by_cases hj:j > i
 .rw [if_pos hj,if_pos hj];exact⟨_,rfl⟩
 .rw [if_neg hj,if_neg hj];exact⟨_,rfl⟩
theorem xk(hc:X.calm=true):j4 X (.builtin "min") (fun xs H Q=>∃i j,xs=[.int i, .int j]/\Q (.int (if j < i then j else i)) H):=by
 intro pins s σ H xs us Q I r h;obtain⟨i,j,rfl,q⟩:=h;obtain⟨u,w',rfl,⟨t,rfl⟩,⟨t',rfl⟩⟩:=vals2 r;refine min_two_ints (I.ok.hd hc) fun h' tk k=>⟨_,H,I.kept k,?_,q⟩
 by_cases hj:j < i
 .rw [if_pos hj,if_pos hj];exact⟨_,rfl⟩
 .rw [if_neg hj,if_neg hj];exact⟨_,rfl⟩
theorem xh:j4 X (.type "int") (fun xs H Q=>(∃i,xs=[.int i]/\Q (.int i) H)\/∃k,xs=[.bl k]/\Q (.int (if k then 1 else 0)) H):=by
 intro pins s σ H xs us Q I r h;rcases h with⟨i,rfl,q⟩ | ⟨k,rfl,q⟩
 .obtain⟨u,rfl,t,rfl⟩:=vals1 r;exact call_int_int ⟨.int i,H,I,⟨_,rfl⟩,q⟩
 .obtain⟨u,rfl,r1⟩:=vals1 r;cases r1;exact call_int_bool ⟨.int (if k then 1 else 0),H,I.tok _,⟨_,rfl⟩,q⟩
def Kg(K:W.Frag)(x:V)(H:Hp)(n:Nat):Prop:=
 match x with
 | .str y=>y.length<=sizeLine/\n=y.length
 | .byt y=>y.size<=sizeLine/\n=y.size
 | .ref p=>(∃xs,lE K H p xs/\n=xs.length)\/∃xs,nh K H p xs/\n=xs.length
 | _=>False
theorem Av:j4 X (.builtin "len") (fun xs H Q=>∃x n,xs=[x]/\Kg X.K x H n/\Q (.int n) H):=by
 intro pins s σ H xs us Q I r h;obtain⟨x,n,rfl,e,q⟩:=h;obtain⟨u,rfl,rx⟩:=vals1 r;have hl:=qM;have hs:sizeLine=16777216:=sizeLine_eq;cases x with
 | str y=>
   obtain⟨t,rfl⟩:=rx;obtain⟨hy,e'⟩:y.length<=sizeLine/\n=y.length:=e;subst e';exact len_str (by omega) ⟨.int _,H,I.tok _,⟨_,rfl⟩,q⟩
 | byt y=>
   obtain⟨t,rfl⟩:=rx;obtain⟨hy,e'⟩:y.size<=sizeLine/\n=y.size:=e;subst e';exact PySem.W.len_bytes (by omega) ⟨.int _,H,I.tok _,⟨_,rfl⟩,q⟩
 | ref p=>
   cases rx;have e':(∃xs,lE X.K H p xs/\n=xs.length)\/∃xs,nh X.K H p xs/\n=xs.length:=e;rcases e' with⟨xs,hx,e'⟩ | ⟨xs,hx,e'⟩
   .subst e';obtain⟨its,r',pl,hz⟩:=I.list hx;have hlen:=r'.length;exact Calls.call_len_list pl.isList (by simp only[List.size_toArray];omega) ⟨.int xs.length,H,I.tok _,⟨_,by simp only[List.size_toArray];rw [hlen]⟩,q⟩
   .subst e';obtain⟨its,r',pl,hz⟩:=I.tuple hx;have hlen:=r'.length;exact len_tuple pl (by simp only[List.size_toArray];omega) ⟨.int xs.length,H,I.tok _,⟨_,by simp only[List.size_toArray];rw [hlen]⟩,q⟩
 | _=>exact(show False from e).elim
end
structure Ms (h:Heap) (x dx C:Addr) (mA:PY):Prop where
 obj:h.get? x=some (PySem.W.instObj C dx)
 ns:h.Ns1 dx mA
 ne:dx≠x
section
variable {prog:Program} {w:World} {A:Around} {E:PQ} {s:Shared} {K:W.Frag} {x dx C f:Addr} {mA:PY} {name:Str} {v:Value}
end
def DM(f:Str)(v:V):List (Str × V)->List (Str × V)
 | []=>[(f,v)]
 | (g,x) ::r=>if g=f then(g,v) ::r else(g,x) ::DM f v r
theorem nu.some_of{v:V}{o:Option Value}(r:nu (some v) o):∃u,o=some u/\RelV v u:=by
 cases o with
 | none=>exact(show False from r).elim
 | some u=>exact⟨u,rfl,r⟩
section
variable {P:Program} {w:World} {H H':Hp} {h h':Heap} {a C dx:Addr} {fs Ip:List (Str × V)}
end
structure Gb (K:W.Frag) (C:Addr):Prop where
 pg:PySem.W.plainGet K C Str.empty=true
 hd:PySem.W.hasDictIn K C=true
 po:PySem.W.plainOver K C=true
 sa:PySem.W.findIn K (.ref C) "__setattr__"=some (some (.builtin "object.__setattr__"))
def uS(K:W.Frag)(C:Addr)(f:Str):Prop:=PySem.W.findIn K (.ref C) f=some none
structure NF (K:W.Frag) (C:Addr) (f:Str) (v:V) (u:Value):Prop where
 at_:PySem.W.findIn K (.ref C) f=some (some u)
 rel:RelV v u
 get:PySem.W.specialIn K u "__get__"=some none
 cp:PySem.W.copiedNames.contains f=false
structure Meth (K:W.Frag) (C:Addr) (m:Str) (f:Addr):Prop where
 at_:PySem.W.findIn K (.ref C) m=some (some (.ref f))
 fn:PySem.W.isFn K (.ref f)=true
 kp:PySem.W.keepIn K (.ref f)=true
section
variable {X:Cx} {pins:PM} {σ:St} {H:Hp} {s:Shared} {a C dx:Addr} {fs:List (Str × V)} {f:Str} {v:V} {A:Around} {E:PQ}
end
def Nz(K:W.Frag)(ta:TE)(f:Str):TE:=fun σ H Q=>ta σ H fun x H1=>∃a C dx fs v,x= .ref a/\H1 a=some (.ins C dx fs)/\Gb K C/\uS K C f/\fs.lookup f=some v/\Q v H1
def MA(K:W.Frag)(ta:TE)(f:Str):TE:=fun σ H Q=>ta σ H fun x H1=>∃a C dx fs v u,x= .ref a/\H1 a=some (.ins C dx fs)/\Gb K C/\NF K C f v u/\fs.lookup f=none/\Q v H1
def Nc(K:W.Frag)(ta tv:TE)(f:Str):TS:=fun D σ H=>tv σ H fun y H1=>ta σ H1 fun x H2=>∃a C dx fs,x= .ref a/\H2 a=some (.ins C dx fs)/\Gb K C/\uS K C f/\fs.length < 1000/\
 D.nx σ (upd H2 a (.ins C dx (DM f y fs)))
def N0(X:Cx)(op:Operator)(rd:V->V->Hp->VK->Prop):Prop:=
 ∀(pins:PM) (s:Shared) (σ:St) (H:Hp) (x y:V) (u v:Value) (Q:VK),Inv X pins σ H s->RelV x u->RelV y v->rd x y H Q->wpAny (model X.prog X.w) X.A (inplaceOp op u v) (EP X pins σ Q) X.xe s
def IJ(K:W.Frag)(ta tv:TE)(rd:V->V->Hp->VK->Prop)(f:Str):TS:=fun D σ H=>ta σ H fun x H1=>∃a C dx fs v,x= .ref a/\H1 a=some (.ins C dx fs)/\Gb K C/\uS K C f/\fs.lookup f=some v/\
 tv σ H1 fun y H2=>rd v y H2 fun z H3=>∃dx' Ip,H3 a=some (.ins C dx' Ip)/\Ip.length < 1000/\D.nx σ (upd H3 a (.ins C dx' (DM f z Ip)))
section
variable {X:Cx} {o e value:Expr} {f:Str} {pos pos' rZ:Pos} {ta tv:TE}
def Mx:V->V->Hp->VK->Prop:=fun x y H Q=>∃i j,x= .int i/\y= .int j/\Q (.int (i+j)) H
def Nn:V->V->Hp->VK->Prop:=fun x y H Q=>∃i j,x= .int i/\y= .int j/\Q (.int (i - j)) H
end
section
variable {X:Cx} {pins:PM} {σ:St} {H:Hp} {s:Shared} {A:Around} {E:PQ} {Q:PQ} {c:Value} {b:Bool}
inductive oK (K:W.Frag) (H:Hp):V->Value->Prop where
 | cL:oK K H .cL (.type "NoneType")
 | bl (x:Bool):oK K H (.bl x) (.type "bool")
 | int (i:Int):oK K H (.int i) (.type "int")
 | str (x:Str):oK K H (.str x) (.type "str")
 | flt (x:UInt64):oK K H (.flt x) (.type "float")
 | lst {a:Addr} {xs:List V} (e:H a=some (.lst xs)):oK K H (.ref a) (.type "list")
 | ic {a:Addr} {o:Obj} {xs:List V} (e:H a=some (.ic o (.lst xs))):oK K H (.ref a) (.type "list")
 | tup {a:Addr} {xs:List V} (e:H a=some (.tup xs)):oK K H (.ref a) (.type "tuple")
 | dK {a:Addr} {kvs:List (Key × V)} (e:H a=some (.dK kvs)):oK K H (.ref a) (.type "dict")
 | dT {a:Addr} {kvs:List (List Key × V)} (e:H a=some (.dT kvs)):oK K H (.ref a) (.type "dict")
 | ins {a C dx:Addr} {fs:List (Str × V)} (e:H a=some (.ins C dx fs)) (cl:Gb K C) (ha:PySem.W.findIn K (.ref C) "__class__"=some (some (.builtin "object.__class__")))
    (hn:PySem.W.specialIn K (.builtin "object.__class__") "__get__"=some (some (.builtin "getset_descriptor.__get__"))) (Px:PySem.W.takesIn K (.builtin "object.__class__")=some true)
    (hm:PySem.W.mroIn K C (.type "object")=some true):oK K H (.ref a) (.ref C)
end
structure fF (k:Nat) (A:Around):Prop where
 hd:A.handled=none
 dp:A.depth+3*k+5 < recursionLimit
 un:A.units+16*k+200 < cLine
theorem fF.mono{j k:Nat}(r:fF k A)(h:j<=k):fF j A:=⟨r.hd,by have:=r.dp;omega,by have:=r.un;omega⟩
theorem fF.deeper{k:Nat}{A:Around}(r:fF (k+1) A)(env:Env):fF k (A.deeper env):=
 ⟨r.hd,by have:=r.dp;show A.depth+1+3*k+5 < _;omega,by have:=r.un;show A.units+3+16*k+200 < _;omega⟩
theorem fF.depth{k:Nat}{A:Around}(r:fF k A):A.depth < recursionLimit:=by have:=r.dp;omega
theorem fF.units{k:Nat}{A:Around}(r:fF k A):A.units+64 < cLine:=by have:=r.un;omega
def JK:TA:=fun _ H Q=>Q [] H
def HR(ta:TE)(tr:TA):TA:=fun σ H Q=>ta σ H fun x H1=>tr σ H1 fun xs H2=>Q (x ::xs) H2
section
variable {X:Cx} {e:Expr} {es:List Expr} {te:TE} {t:TA} {pos:Pos}
theorem gO:PA X [] JK:=fun _ _ _ _ H Q I h=>Calls.spliced_nil ⟨[],H,I, .nil,h⟩
theorem et(ha:PE X e te)(hr:PA X es t)(hs:starEach (e ::es) X.env=(false,eval e X.env) ::starEach es X.env:=by rfl):PA X (e ::es) (HR te t):=by
 intro pos pins s σ H Q I h;rw[hs];show wpAny _ _ (spliced ((false,eval e X.env) ::backTo pos (starEach es X.env))) _ _ s;refine Calls.spliced_cons (dG (ha pins s σ H _ I h) fun u s1 ⟨x,H1,I1,r1,q1⟩=>?_)
 exact dG (hr pos pins s1 σ H1 _ I1 q1) fun us s2 ⟨xs,H2,I2,r2,q2⟩=>⟨x ::xs,H2,I2, .cons r1 r2,q2⟩
def Ki(t:TA):TE:=fun σ H Q=>t σ H fun xs H1=>xs.length<=sizeLine/\∀p,H1 p=none->Q (.ref p) (upd H1 p (.tup xs))
def Jz(t:TA):TE:=fun σ H Q=>t σ H fun xs H1=>xs.length<=sizeLine/\∀p,H1 p=none->Q (.ref p) (upd H1 p (.lst xs))
theorem ED{x1}(h:PA X es t):PE X (.Tuple es x1 pos) (Ki t):=by
 intro pins s σ H Q I hq;refine wpAny_Tuple_spliced (dG (h pos pins s σ H _ I hq) fun us s1 ⟨xs,H1,I1,r,z,q⟩=>⟨by rw[<-r.length];exact z,?_⟩)
 have hf:H1 s1.heap.objs.size=none:=I1.hok.fresh (Nat.le_refl _);refine⟨.ref s1.heap.objs.size,upd H1 s1.heap.objs.size (.tup xs),I1.laid (t':=s1.toks) (fun b u e=>Heap.get?_push_of_some _ e) (Nat.le_refl _) ?_,rfl,q _ hf⟩
 exact⟨z,us,r,⟨_,Heap.get?_push_size _ rfl,rfl,_,rfl⟩⟩
theorem Es(h:PA X es t):PE X (.List es pos) (Jz t):=by
 intro pins s σ H Q I hq;refine wpAny_List_spliced (dG (h pos pins s σ H _ I hq) fun us s1 ⟨xs,H1,I1,r,z,q⟩=>⟨by rw[<-r.length];exact z,?_⟩)
 have hf:H1 s1.heap.objs.size=none:=I1.hok.fresh (Nat.le_refl _);refine⟨.ref s1.heap.objs.size,upd H1 s1.heap.objs.size (.lst xs),I1.laid (t':=s1.toks) (fun b u e=>Heap.get?_push_of_some _ e) (Nat.le_refl _) ?_,rfl,q _ hf⟩
 exact⟨z,us,0,r,Heap.get?_push_size _ rfl⟩
end
abbrev Sp:=List V->Hp->VK->XK->Prop
abbrev yL:=List Env->Hp->Shared->XK->Value->Shared->Prop
structure Cu (P:Program) (w:World) (K:W.Frag) (mg:PY) (base:Heap) (A:Around) (outer:List Env) (s:Shared) (H:Hp):Prop where
 frames:A.frames=some outer
 mod:Mod K mg base
 bs:∀b o,base.get? b=some o->s.heap.get? b=some o/\H b=none
 bsz:base.objs.size<=s.heap.objs.size
 pf:s.heap.FunFrames base outer
 frf:∀b∈yd outer,H b=none
 hok:lq P w H s.heap
 bare:AllBare s.gens
def CE(outer:List Env)(P:Program)(w:World)(H:Hp)(s:Shared)(Q:VK)(u:Value)(s':Shared):Prop:=
 ∃v H',s'.os=s.os/\AllBare s'.gens/\Un (yd outer) [] H H' s.heap s'.heap/\lq P w H' s'.heap/\RelV v u/\Q v H'
def CR(CX:yL)(outer:List Env)(P:Program)(w:World)(H:Hp)(s:Shared)(Q:VK)(E:XK)(r:Result)(s':Shared):Prop:=
 match r with
 | .ok (.ret u)=>CE outer P w H s Q u s'
 | .ok _=>False
 | .error e=>CX outer H s E e s'
structure iY (P:Program) (w:World) (K:W.Frag) (mg:PY) (base:Heap) (CX:yL) (k:Nat) (f:Addr) (fd:FuncData) (ps:List Str) (sp:Sp):Prop where
 len:∀vs H Q E,sp vs H Q E->vs.length=ps.length
 run:∀(A:Around) (outer:List Env) (s:Shared) (H:Hp) (args:Args) (us:List Value) (vs:List V) (Q:VK) (E:XK),fF k A->Cu P w K mg base A outer s H->BindsTo s fd args (ps.zip us)->Vals vs us->sp vs H Q E->
  codeAny (model P w) A (.call (.ref f) args) (CR CX outer P w H s Q E) s
theorem iY.imp{P:Program}{w:World}{K:W.Frag}{mg:PY}{base:Heap}{CX:yL}{k:Nat}{f:Addr}{fd:FuncData}{ps:List Str}{sp Ml:Sp}(F:iY P w K mg base CX k f fd ps sp)
 (h:∀vs H Q E,Ml vs H Q E->sp vs H Q E):iY P w K mg base CX k f fd ps Ml:=
 ⟨fun vs H Q E q=>F.len vs H Q E (h _ _ _ _ q),fun A outer s H args us vs Q E hr he hb hv hs=>F.run A outer s H args us vs Q E hr he hb hv (h _ _ _ _ hs)⟩
section
variable {X:Cx} {pins:PM} {σ:St} {H:Hp} {s s':Shared}
theorem Inv.JL(I:Inv X pins σ H s):Cu X.prog X.w X.K X.mg X.base X.A X.stack s H:=
 ⟨I.ok.frames,I.ok.mod,I.bs,Nat.le_trans I.ok.bsz I.sz,I.stack,I.we,I.hok,I.bare⟩
theorem Inv.after{Q:VK}{u:Value}(I:Inv X pins σ H s)(h:CE X.stack X.prog X.w H s Q u s'):EP X pins σ Q u s':=by
 obtain⟨v,H',os,bare,un,hok,r,q⟩:=h;obtain⟨hh,g,d,t,Om⟩:=s';obtain rfl:Om=s.os:=os;exact⟨v,H',I.call (h':=hh) (g':=g) (d':=d) (t':=t) (ch:=[]) un hok bare (fun b z=>absurd z (by simp)),r,q⟩
end
def GD(sp:Sp)(yi:List V)(E:XK)(t:TA):TE:=fun σ H Q=>t σ H fun vs H1=>sp (vs++yi) H1 Q E
def Lr(C:Addr)(m:Str)(sp:Sp)(yi:List V)(E:XK)(ta:TE)(t:TA):TE:=fun σ H Q=>ta σ H fun x H1=>∃a dx fs,x= .ref a/\H1 a=some (.ins C dx fs)/\fs.lookup m=none/\
 t σ H1 fun vs H2=>sp (x ::(vs++yi)) H2 Q E
def Lh(C:Addr)(sp:Sp)(yi:List V)(E:XK)(t:TA):TE:=fun σ H Q=>t σ H fun vs H1=>∀x dx,H1 x=none->H1 dx=none->dx≠x->
 sp (.ref x ::(vs++yi)) (upd (upd H1 dx (.own x)) x (.ins C dx [])) (fun v H2=>v= .cL/\Q (.ref x) H2) E
def Binds(K:W.Frag)(fd:FuncData)(ps:List Str)(ds:List Value):Prop:=
 ∀(s:Shared) (us:List Value),K.In s.heap->(us++ds).length=ps.length->BindsTo s fd ⟨us,[]⟩ (ps.zip (us++ds))
theorem Binds.all{K:W.Frag}{fd:FuncData}{ps:List Str}(h:∀us:List Value,us.length=ps.length->bindArgs fd ⟨us,[]⟩=pure (ps.zip us)):Binds K fd ps []:=fun s us _ hl=>by
 rw[List.append_nil] at hl ⊢;exact .of_eq (h us hl)
def Passes(CX:yL)(X:Cx)(E:XK):Prop:=∀(pins:PM) (σ:St) (H:Hp) (s:Shared) (e:Value) (s':Shared),Inv X pins σ H s->CX X.stack H s E e s'->X.xe e s'
section
variable {X:Cx} {CX:yL} {k:Nat} {f C:Addr} {fd:FuncData} {ps:List Str} {sp:Sp} {yi:List V} {ds:List Value} {E:XK} {x m:Str} {p pos apos:Pos} {e o:Expr} {es:List Expr} {ta:TE} {t:TA}
theorem Fm{pins:PM}{σ:St}{H:Hp}{s:Shared}{Q:VK}{us:List Value}{vs:List V}(F:iY X.prog X.w X.K X.mg X.base CX k f fd ps sp)(hr:fF k X.A)(hb:Binds X.K fd ps ds)(hd:Vals yi ds)(hx:Passes CX X E)
 (I:Inv X pins σ H s) (r:Vals vs us) (h:sp (vs++yi) H Q E):wpAny (model X.prog X.w) X.A (call (.ref f) us) (EP X pins σ Q) X.xe s:=by
 have r2:Vals (vs++yi) (us++ds):=r.append hd;have hl:(us++ds).length=ps.length:=by rw[<-r2.length];exact F.len _ _ _ _ h
 refine wpAny_call (codeAny_mono (F.run X.A X.stack s H ⟨us,[]⟩ (us++ds) (vs++yi) Q E hr I.JL (hb s us I.EK hl) r2 h) fun r s' hq=>?_)
 cases r with
 | error e=>exact hx pins σ H s e s' I hq
 | ok fl=>
   cases fl with
   | ret u=>exact I.after hq
   | next=>exact False.elim hq
   | brk=>exact False.elim hq
   | cont=>exact False.elim hq
theorem vP(F:iY X.prog X.w X.K X.mg X.base CX k f fd ps sp)(hr:fF k X.A)(hg:Gl X x)(hm:X.mg x=some (.ref f))(hk:PySem.W.keepIn X.K (.ref f)=true)(hb:Binds X.K fd ps ds)(hd:Vals yi ds)(hx:Passes CX X E)
 (ha:PA X (e ::es) t) (pY:(x==("__debug__":Str))=false:=by decide) (he:starEach (e ::es) X.env=(false,eval e X.env) ::starEach es X.env:=by rfl) (kN:(backTo pos (starEach es X.env)).any (·.1)=false:=by rfl) :
 PE X (.Call (.Name x p) (e ::es) [] pos) (GD sp yi E t):=by
 intro pins s σ H Q I h;refine wpAny_Call_Name_kw (vv I hg hm ?_ pY);refine PySem.W.callWith_K (h₀:=X.base) I.ok.mod.kin hk (dG (ha pos pins s σ H _ I h) fun us s1 ⟨vs,H1,I1,r,q⟩=>⟨I1.EK,?_⟩) he kN
 exact Fm F hr hb hd hx I1 r q
structure Mk (K:W.Frag) (C f:Addr):Prop where
 makes:PySem.W.makesIn K C=true
 init:PySem.W.findIn K (.ref C) "__init__"=some (some (.ref f))
 fn:PySem.W.isFn K (.ref f)=true
 kp:PySem.W.keepIn K (.ref C)=true
end
def PK(X:Cx)(Mf:List Keyword)(t:TA):Prop:=
 ∀(pos:Pos) (pins:PM) (s:Shared) (σ:St) (H:Hp) (Q:List V->Hp->Prop),Inv X pins σ H s->t σ H Q->wpAny (model X.prog X.w) X.A (evalAll ((backToKw pos (keywordEach Mf X.env)).map (·.2))) (AP X pins σ Q) X.xe s
section
variable {X:Cx} {CX:yL} {k:Nat} {f C:Addr} {fd:FuncData} {ps ks:List Str} {sp:Sp} {E:XK} {x m:Str} {p pos apos OD:Pos} {e o:Expr} {es:List Expr} {Mf:List Keyword} {te ta:TE} {t tk:TA} {nm:Option Str}
structure Jx (K:W.Frag) (fd:FuncData) (ps ks:List Str) (g:List Value->List Value->List Value) (gV:List V->List V->List V):Prop where
 to:∀(s:Shared) (us ws:List Value),K.In s.heap->(g us ws).length=ps.length->BindsTo s fd ⟨us,ks.zip ws⟩ (ps.zip (g us ws))
 rel:∀{vs:List V} {us:List Value} {zs:List V} {ws:List Value},Vals vs us->Vals zs ws->Vals (gV vs zs) (g us ws)
def JE(sp:Sp)(gV:List V->List V->List V)(E:XK)(t tk:TA):TE:=fun σ H Q=>t σ H fun vs H1=>tk σ H1 fun zs H2=>sp (gV vs zs) H2 Q E
variable {g:List Value->List Value->List Value} {gV:List V->List V->List V}
end
structure bp (N P:List Str) (sc:Scope):Prop where
 kind:sc.kind= .function
 co:sc.isCoroutine=false
 gen:sc.isGenerator=false
 nd:N.Nodup
 pre:N.take P.length=P
 par:∀x∈P,sc.names.lookup x=some .local\/sc.names.lookup x=some .cell
 nofree:∀y∈sc.names,y.2≠ .free
theorem qk{kindOf:Str->Option NameKind}:∀{binds:List (Str × Value)} {m:PY},(∀v,(x,v) ∉ binds)->bindL kindOf binds m x=m x
 | [],_,_=>rfl
 | (n,v) ::r,m,h=>by
   unfold bindL;rw[qk fun w hw=>h w (List.mem_cons_of_mem _ hw)]
   split
   .have:x≠n:=by rintro rfl;exact h v List.mem_cons_self
    simp [this]
   .rfl
theorem p7{kindOf:Str->Option NameKind}:∀{binds:List (Str × Value)} {m:PY},(∀v,(x,v) ∉ binds)->bindC kindOf binds m x=m x
 | [],_,_=>rfl
 | (n,v) ::r,m,h=>by
   unfold bindC;rw[p7 fun w hw=>h w (List.mem_cons_of_mem _ hw)]
   split
   .rfl
   .have:x≠n:=by rintro rfl;exact h v List.mem_cons_self
    simp [this]
theorem qv{kindOf:Str->Option NameKind}{v:Value}:∀{P:List Str} {vs:List Value} {i:Nat} {m:PY},P.Nodup->P[i]? =some x->vs[i]? =some v->kindOf x=some .local->
 bindL kindOf (P.zip vs) m x=some v
 | [],_,_,_,_,h,_,_=>by simp at h
 | _ ::_,[],_,_,_,_,h,_=>by simp at h
 | p ::P,w ::vs,0,m,nd,h1,h2,hk=>by
   simp at h1 h2;subst h1;subst h2;show bindL kindOf ((p,w) ::P.zip vs) m p=_;unfold bindL;rw[qk fun v hv=>(List.nodup_cons.mp nd).1 (List.of_mem_zip hv).1,if_pos hk]
   simp
 | p ::P,w ::vs,i+1,m,nd,h1,h2,hk=>by
   show bindL kindOf ((p,w) ::P.zip vs) m x=_;unfold bindL;exact qv (i:=i) (List.nodup_cons.mp nd).2 (by simpa using h1) (by simpa using h2) hk
theorem p8{kindOf:Str->Option NameKind}{v:Value}:∀{P:List Str} {vs:List Value} {i:Nat} {m:PY},P.Nodup->P[i]? =some x->vs[i]? =some v->kindOf x≠some .local->
 bindC kindOf (P.zip vs) m x=some v
 | [],_,_,_,_,h,_,_=>by simp at h
 | _ ::_,[],_,_,_,_,h,_=>by simp at h
 | p ::P,w ::vs,0,m,nd,h1,h2,hk=>by
   simp at h1 h2;subst h1;subst h2;show bindC kindOf ((p,w) ::P.zip vs) m p=_;unfold bindC;rw[p7 fun v hv=>(List.nodup_cons.mp nd).1 (List.of_mem_zip hv).1,if_neg hk]
   simp
 | p ::P,w ::vs,i+1,m,nd,h1,h2,hk=>by
   show bindC kindOf ((p,w) ::P.zip vs) m x=_;unfold bindC;exact p8 (i:=i) (List.nodup_cons.mp nd).2 (by simpa using h1) (by simpa using h2) hk
def start(N:List Str)(vs:List V):St:=vs.map some++List.replicate (N.length - vs.length) none
def og(CX:yL)(P:Program)(w:World)(K:W.Frag)(mg:PY)(base:Heap)(N:List Str)(qual:Str)(scope:Scope)(f:Addr)(cd:Value)(A:Around)(outer:List Env)(s:Shared)(H:Hp)(E:XK):Cx where
 prog:=P
 w:=w
 K:=K
 mg:=mg
 base:=base
 A:=A.deeper (envOfC qual scope s.heap.objs.size f cd)
 N:=N
 s₀:=s
 H₀:=H
 env:=envOfC qual scope s.heap.objs.size f cd
 outer:=outer
 stack:=envOfC qual scope s.heap.objs.size f cd ::outer
 ex:=[]
 calm:=true
 fn:=fun _=>true
 pn:=[]
 xe:=fun e s'=>wpAny (model P w) (A.deeper (envOfC qual scope s.heap.objs.size f cd)) (leaving (envOfC qual scope s.heap.objs.size f cd) e) (fun _ KG=>CX outer H s E e KG) (fun e' KG=>CX outer H s E e' KG) s'
theorem oy{sc:Scope}{n:Nat}(h:sc.names.lookup x=some .cell):∃c,(cellsFrom n sc.names []).lookup x=some c:=by
 have q:=PySem.W.cellsFrom_some sc.names n [] (.inl h);exact Option.isSome_iff_exists.mp q
theorem xc{CX:yL}{P:Program}{w:World}{K:W.Frag}{mg:PY}{base:Heap}{N ps:List Str}{qual:Str}{scope:Scope}{f:Addr}{cd:Value}{A:Around}{outer:List Env}{s s1:Shared}{H:Hp}{E:XK}{us:List Value}{vs:List V}
 (S:bp N ps scope) (hd:A.handled=none) (e0:Cu P w K mg base A outer s H) (hl:vs.length=ps.length) (r:Vals vs us)
 (x:InCallC s s.heap.objs.size (bindL (envOfC qual scope s.heap.objs.size f cd).kindOf (ps.zip us) fun _=>none) (cellsFrom (s.heap.objs.size+1) scope.names []) (bindC (envOfC qual scope s.heap.objs.size f cd).kindOf (ps.zip us) fun _=>none) s1) :
 Inv (og CX P w K mg base N qual scope f cd A outer s H E) [] (start N vs) H s1:=by
 have kN:ps.length<=N.length:=by have:=congrArg List.length S.pre;rw [List.length_take] at this;omega
 obtain⟨h1,tk,rfl,hk⟩:=x.done;have noA:∀b:Addr,b ∉ (og CX P w K mg base N qual scope f cd A outer s H E).ex:=fun b z=>absurd (show b∈([]:List Addr) from z) (by simp)
 refine⟨⟨e0.mod,S.kind,rfl,rfl,Nat.le_refl _,fun y z c h1 h2=>?_,fun y hy=>?_,fun y c _ h=>?_,fun _=>hd,Around.frames_deeper e0.frames, .inr ⟨rfl,rfl⟩,fun b z=>absurd z (noA b),e0.bs,e0.bsz,fun b _ _=>noA b,fun b z=>absurd z (noA b),e0.pf,e0.frf⟩,
  rfl,e0.bare,Un.kept hk,⟨_,x.toInCall.ns,fun i y v h1 h2 h3=>?_⟩,fun y c h=>⟨_,x.cell y c h⟩,e0.hok.fresh (Nat.le_refl _),fun y c h=>?_,fun p hp=>absurd (show p∈([]:PM) from hp) (by simp),e0.hok.kept hk,?_⟩
 .exact name_of_addr x.apart (PySem.mem_of_lookup h1) (PySem.mem_of_lookup h2)
 .have hy:scope.names.lookup y=some .cell\/scope.names.lookup y=some .free:=hy;rcases hy with hy | hy
  .exact oy hy
  .exact absurd rfl (S.nofree _ (PySem.mem_of_lookup hy))
 .exact Nat.le_of_lt (x.above y c (PySem.mem_of_lookup h))
 .have hi:i < vs.length:=by
   unfold start at h2;by_cases hi:i < vs.length
   .exact hi
   .rw [List.getElem?_append_right (by simpa using hi)] at h2
    rw[List.getElem?_replicate] at h2;split at h2 <;> cases h2
  have ha:vs[i]? =some v:=by
   unfold start at h2;rw[List.getElem?_append_left (by simpa using hi),List.getElem?_map] at h2
   cases e:vs[i]? with
   | none=>rw [e] at h2;cases h2
   | some a=>rw [e] at h2;cases h2;rfl
  obtain⟨u,hu,rv⟩:=r.get ha;have hp:ps[i]? =some y:=by
   rw[<-S.pre,List.getElem?_take_of_lt (by omega)];exact h1
  have ndP:ps.Nodup:=by rw[<-S.pre];exact S.nd.sublist (List.take_sublist _ _)
  refine⟨u,rv,?_⟩;rcases S.par y (List.mem_of_getElem? hp) with k | k
  .exact .inl ⟨k,qv ndP hp hu k⟩
  .obtain⟨c,e⟩:=oy (n:=s.heap.objs.size+1) k;refine .inr ⟨.inl k,c,e,?_⟩;have q:=x.cell y c e;rw[p8 ndP hp hu (by show scope.names.lookup y≠_;rw [k];decide)] at q
   exact q
 .exact e0.hok.fresh (Nat.le_of_lt (x.above y c (PySem.mem_of_lookup h)))
 .unfold start;show _=N.length;rw[List.length_append,List.length_map,List.length_replicate];omega
theorem GH{CX:yL}{P:Program}{w:World}{K:W.Frag}{mg:PY}{base:Heap}{k:Nat}{f:Addr}{name qual:Str}{params:Arguments}{body:List Stmt}{scope:Scope}{dV kV doc pm dC ct oc:Value}{an od:Option Addr}
 {yc:Array (Option Value)} {N ps:List Str} {sp:Sp} (lk:K.lookup f=some ⟨oc,od, .func (PySem.W.fnOf name qual params body scope dV kV doc pm an dC ct),yc⟩) (pE:PySem.W.codeIn K dC qual=true) (S:bp N ps scope)
 (len:∀vs H Q E,sp vs H Q E->vs.length=ps.length)
 (i9:∀(A:Around) (outer:List Env) (s:Shared) (H:Hp) (vs:List V) (Q:VK) (E:XK),fF k (A.deeper (envOfC qual scope s.heap.objs.size f dC))->sp vs H Q E->
   ∃t,sf (og CX P w K mg base N qual scope f dC A outer s H E) body t/\t {nx:=fun _ H'=>Q .cL H',rt:=Q} (start N vs) H) :
 iY P w K mg base CX (k+1) f (PySem.W.fnOf name qual params body scope dV kV doc pm an dC ct) ps sp:=by
 refine⟨len,fun A outer s H args us vs Q E hr e0 hb r Gm=>?_⟩
 have hl:=len _ _ _ _ Gm;have KX:K.In s.heap:=e0.mod.kin.keeps fun b o e=>(e0.bs b o e).1
 have lim:s.heap.NoLimit:=e0.mod.nolimit.keeps fun b o e=>(e0.bs b o e).1
 have hkind:∀y∈ps.zip us,scope.names.lookup y.1=some .local\/(scope.names.lookup y.1=some .cell/\((cellsFrom (s.heap.objs.size+1) scope.names []).lookup y.1).isSome=true):=fun⟨n,v⟩ hy=>by
  rcases S.par n (List.of_mem_zip hy).1 with q | q
  .exact .inl q
  .exact .inr ⟨q,PySem.W.cellsFrom_some _ _ _ (.inl q)⟩
 refine codeAny_call_function hr.depth (KX _ _ lk) rfl S.co S.gen rfl (PySem.W.codeRec_of KX pE) (hb _ _ _ _ ?_);refine wpAny_newFunctionEnv_cells S.kind hkind fun env he s1 x=>?_
 subst he;refine⟨lim.keeps x.toInCall.keep,codeAny_func ?_⟩;obtain⟨t,ht,hq⟩:=i9 A outer s H vs Q E (hr.deeper _) Gm;have I:Inv (og CX P w K mg base N qual scope f dC A outer s H E) [] (start N vs) H s1:=xc S hr.hd e0 hl r x;refine wpAny_mono (ht [] s1 (start N vs) H _ I hq) (fun fl s' hs=>?_) fun e s' hs=>hs
 have fin:∀{cN:St} {H':Hp} {v:V} {u:Value},Inv (og CX P w K mg base N qual scope f dC A outer s H E) [] cN H' s'->RelV v u->Q v H'->CE outer P w H s Q u s':=
  fun {cN H' v u} J rv q=>⟨v,H',J.os,J.bare,J.base,J.hok,rv,q⟩
 cases fl with
 | ret u=>
   obtain⟨v,cN,H',J,rv,q⟩:=hs;exact fin J rv q
 | next=>
   obtain⟨cN,H',J,q⟩:=hs;exact fin (v:=V.cL) (u:=Value.none) J rfl q
 | brk=>
   obtain⟨_,_,_,q⟩:=hs;exact False.elim q
 | cont=>
   obtain⟨_,_,_,q⟩:=hs;exact False.elim q
section
variable {X:Cx} {x:Str} {p pos:Pos} {e:Expr} {es:List Expr} {t:TA} {id T:String} {r:List V->Hp->VK->Prop}
def LG(r:List V->Hp->VK->Prop)(t:TA):TE:=fun σ H Q=>t σ H fun vs H1=>r vs H1 Q
theorem yF(hc:j4 X (.builtin id) r)(hg:Gl X x)(hm:X.mg x=none)(hv:bootBuiltins x=some (.builtin id))(ha:PA X (e ::es) t)(hn:x≠"__name__":=by decide)(pY:(x==("__debug__":Str))=false:=by decide)
 (he:starEach (e ::es) X.env=(false,eval e X.env) ::starEach es X.env:=by rfl) (kN:(backTo pos (starEach es X.env)).any (·.1)=false:=by rfl):PE X (.Call (.Name x p) (e ::es) [] pos) (LG r t):=by
 intro pins s σ H Q I h;refine wpAny_Call_Name_kw (jj I hg hm hv ?_ hn pY);exact PyProof.Rows.callWith_builtin1 (dG (ha pos pins s σ H _ I h) fun us s1 ⟨vs,H1,I1,r1,q1⟩=>hc pins s1 σ H1 vs us Q I1 r1 q1) he kN
theorem qp(hc:j4 X (.type T) r)(hg:Gl X x)(hm:X.mg x=none)(hv:bootBuiltins x=some (.type T))(ha:PA X (e ::es) t)(hn:x≠"__name__":=by decide)(pY:(x==("__debug__":Str))=false:=by decide)
 (he:starEach (e ::es) X.env=(false,eval e X.env) ::starEach es X.env:=by rfl) (kN:(backTo pos (starEach es X.env)).any (·.1)=false:=by rfl):PE X (.Call (.Name x p) (e ::es) [] pos) (LG r t):=by
 intro pins s σ H Q I h;refine wpAny_Call_Name_kw (jj I hg hm hv ?_ hn pY);exact PyProof.Rows.callWith_type1 (dG (ha pos pins s σ H _ I h) fun us s1 ⟨vs,H1,I1,r1,q1⟩=>hc pins s1 σ H1 vs us Q I1 r1 q1) he kN
end
section
variable {κ:Type} [DecidableEq κ]
def ij(kvs:List (κ × V))(k:κ):Option V:=(kvs.find? fun kv=>decide (kv.1=k)).map (·.2)
def putK(kvs:List (κ × V))(k:κ)(v:V):List (κ × V):=
 if(kvs.any fun kv=>decide (kv.1=k))=true then kvs.map (fun kv=>if kv.1=k then(kv.1,v) else kv) else kvs++[(k,v)]
def zO(kvs:List (κ × V))(k:κ):List (κ × V):=kvs.filter fun kv=>decide (kv.1≠k)
theorem oF{p:κ × V}{r:List (κ × V)}{k:κ}(e:p.1=k):ij (p ::r) k=some p.2:=by simp [ij,List.find?_cons,e]
theorem nW{p:κ × V}{r:List (κ × V)}{k:κ}(e:¬p.1=k):ij (p ::r) k=ij r k:=by simp [ij,List.find?_cons,e]
theorem sS(k:κ):∀kvs:List (κ × V),(kvs.any fun kv=>decide (kv.1=k))=(ij kvs k).isSome
 | []=>rfl
 | p ::r=>by
   rw[List.any_cons];by_cases e:p.1=k
   .simp only[oF e,decide_eq_true e,Bool.true_or,Option.isSome_some]
   .rw [nW e,decide_eq_false e,Bool.false_or];exact sS k r
theorem kg(kvs:List (κ × V))(k:κ)(v:V):(putK kvs k v).length<=kvs.length+1:=by
 unfold putK;split
 .rw [List.length_map];omega
 .rw [List.length_append,List.length_cons,List.length_nil];omega
theorem nu.iO{o:Option V}{u:Option Value}(r:nu o u):o.isSome=u.isSome:=by
 cases o with
 | none=>cases u with
   | none=>rfl
   | some _=>exact(show False from r).elim
 | some _=>cases u with
   | none=>exact(show False from r).elim
   | some _=>rfl
theorem nu.getD{o:Option V}{u:Option Value}{d:V}{d':Value}(r:nu o u)(rd:RelV d d'):RelV (o.getD d) (u.getD d'):=by
 cases o with
 | none=>cases u with
   | none=>exact rd
   | some _=>exact(show False from r).elim
 | some _=>cases u with
   | none=>exact(show False from r).elim
   | some _=>exact r
theorem KV.val{kvs:List (κ × V)}{vs:List (κ × Value)}(r:KV kvs vs)(k:κ):nu (ij kvs k) (valueAt vs k):=by
 unfold KV at r
 induction r with
 | nil=>exact True.intro
 | @cons p q ps qs h t ih=>
   obtain⟨h1,h2⟩:=h;by_cases e:p.1=k
   .have e':q.1=k:=h1.symm.trans e;have b:valueAt (q ::qs) k=some q.2:=by simp [valueAt,List.find?_cons,e']
    rw[oF e,b];exact h2
   .have e':¬q.1=k:=fun z=>e (h1.trans z)
    have b:valueAt (q ::qs) k=valueAt qs k:=by simp [valueAt,List.find?_cons,e']
    rw[nW e,b];exact ih
theorem KV.any{kvs:List (κ × V)}{vs:List (κ × Value)}(r:KV kvs vs)(k:κ):(kvs.any fun kv=>decide (kv.1=k))=vs.any fun kv=>decide (kv.1=k):=by
 unfold KV at r
 induction r with
 | nil=>rfl
 | cons h t ih=>rw [List.any_cons,List.any_cons,ih,h.1]
theorem KV.DX{kvs:List (κ × V)}{vs:List (κ × Value)}(r:KV kvs vs)(k:κ){y:V}{u:Value}(ry:RelV y u) :
 KV (kvs.map fun kv=>if kv.1=k then(kv.1,y) else kv) (vs.map fun kv=>if kv.1=k then(kv.1,u) else kv):=by
 unfold KV at r ⊢
 induction r with
 | nil=>exact .nil
 | @cons p q ps qs h t ih=>
   rw[List.map_cons,List.map_cons];refine .cons ?_ ih;obtain⟨h1,h2⟩:=h;by_cases e:p.1=k
   .rw [if_pos e,if_pos (h1.symm.trans e)];exact⟨h1,ry⟩
   .rw [if_neg e,if_neg (fun z=>e (h1.trans z))];exact⟨h1,h2⟩
theorem KV.put{kvs:List (κ × V)}{vs:List (κ × Value)}(r:KV kvs vs)(k:κ){y:V}{u:Value}(ry:RelV y u):KV (putK kvs k y) (stored vs k u):=by
 unfold putK stored;rw[r.any k];by_cases e:(vs.any fun kv=>decide (kv.1=k))=true
 .rw [if_pos e,if_pos e];exact r.DX k ry
 .rw [if_neg e,if_neg e];exact Paired.snoc r ⟨rfl,ry⟩
theorem KV.length{kvs:List (κ × V)}{vs:List (κ × Value)}(r:KV kvs vs):kvs.length=vs.length:=Paired.length r
end
theorem mW{k:Key}{u:Value}(r:RelV (kV k) u):(cn P w).is k u=true:=by
 cases k with
 | inl i=>obtain⟨t,e⟩:=(show ∃t,u=Value.int i t from r);subst e;exact tQ P w i t
 | inr x=>obtain⟨t,e⟩:=(show ∃t,u=Value.str x t from r);subst e;exact sU P w x t
theorem qz:∀{ks:List Key} {us:List Value},Vals (ks.map kV) us->ItemsAre (cn P w) ks us
 | [],_,r=>by rw[List.map_nil] at r;cases r;exact .nil
 | k ::ks,_,r=>by
   rw[List.map_cons] at r;cases r with
   | cons h t=>exact .cons (mW h) (qz t)
abbrev KT(H:Hp):List (List Key × V)->List (List Key × Addr × Value)->Prop:=Paired fun p q=>p.1=q.1/\H q.2.1=some (.tup (p.1.map kV))/\RelV p.2 q.2.2
theorem KT.val{kvs:List (List Key × V)}{xs:List (List Key × Addr × Value)}(r:KT H kvs xs)(k:List Key):nu (ij kvs k) ((atKey xs k).map (·.2)):=by
 induction r with
 | nil=>exact True.intro
 | @cons p q ps qs h t ih=>
   obtain⟨h1,_,h2⟩:=h;by_cases e:p.1=k
   .have e':q.1=k:=h1.symm.trans e;have b:atKey (q ::qs) k=some q.2:=by simp [atKey,List.find?_cons,e']
    rw[oF e,b];exact h2
   .have e':¬q.1=k:=fun z=>e (h1.trans z)
    have b:atKey (q ::qs) k=atKey qs k:=by simp [atKey,List.find?_cons,e']
    rw[nW e,b];exact ih
theorem KT.DX{kvs:List (List Key × V)}{xs:List (List Key × Addr × Value)}(r:KT H kvs xs)(k:List Key){y:V}{u:Value}(ry:RelV y u) :
 KT H (kvs.map fun kv=>if kv.1=k then(kv.1,y) else kv) (xs.map (putAt k u)):=by
 induction r with
 | nil=>exact .nil
 | @cons p q ps qs h t ih=>
   rw[List.map_cons,List.map_cons];refine .cons ?_ ih;obtain⟨h1,h2,h3⟩:=h;unfold putAt;by_cases e:p.1=k
   .rw [if_pos e,if_pos (h1.symm.trans e)];exact⟨h1,h2,ry⟩
   .rw [if_neg e,if_neg (fun z=>e (h1.trans z))];exact⟨h1,h2,h3⟩
theorem KT.put{H:Hp}{kvs:List (List Key × V)}{xs:List (List Key × Addr × Value)}(r:KT H kvs xs)(k:List Key){b:Addr}{y:V}{u:Value}(hb:H b=some (.tup (k.map kV)))(ry:RelV y u) :
 KT H (putK kvs k y) (storedH xs k b u):=by
 have e:(kvs.any fun kv=>decide (kv.1=k))=(atKey xs k).isSome:=by
  rw[sS,(r.val k).iO,Option.isSome_map]
 unfold putK storedH;rw[e];by_cases q:(atKey xs k).isSome=true
 .rw [if_pos q,if_pos q];exact r.DX k ry
 .rw [if_neg q,if_neg q];exact Paired.snoc r ⟨rfl,hb,ry⟩
theorem KT.keeps{H H':Hp}{kvs:List (List Key × V)}{xs:List (List Key × Addr × Value)}(r:KT H kvs xs)(ht:∀b ys,H b=some (.tup ys)->H' b=some (.tup ys)):KT H' kvs xs:=
 Paired.Ef r fun _ _ z=>⟨z.1,ht _ _ z.2.1,z.2.2⟩
section
variable {P:Program} {w:World} {H:Hp} {h:Heap} {a:Addr}
theorem Dj{u:HO}(ok:lq P w H h)(e:Rd H a u):dF P w H h a u:=e.ok ok
theorem n0{kvs:List (Key × V)}(ok:lq P w H h)(e:Rd H a (.dK kvs)):kvs.length<=sizeLine/\(a==sysModules)=false/\∃vs,KV kvs vs/\h.DictOf (cn P w) a vs:=
 show dF P w H h a (.dK kvs) from Dj ok e
theorem Dq{kvs:List (Key × V)}(ok:lq P w H h)(e:H a=some (.dK kvs)):kvs.length<=sizeLine/\(a==sysModules)=false/\∃vs,KV kvs vs/\h.DictOf (cn P w) a vs:=n0 ok (.inl e)
theorem mn{ks:List Key}(ok:lq P w H h)(e:H a=some (.tup (ks.map kV))):(tupleKind (cn P w)).is h ks a:=by
 obtain⟨_,its,r,o,h1,h2,n,h3⟩:=(show dF P w H h a (.tup (ks.map kV)) from ok a _ e)
 exact⟨o,its.toArray,n,h1,h2,h3,by simpa using qz r⟩
theorem oR{kvs:List (List Key × V)}(ok:lq P w H h)(e:Rd H a (.dT kvs)):kvs.length<=sizeLine/\(a==sysModules)=false/\
 ∃xs,KT H kvs xs/\h.DictOfH (tupleKind (cn P w)) a xs:=by
 obtain⟨z,y,xs,r,o,es,ep,h1,h2,h3,h4,h5⟩:=(show dF P w H h a (.dT kvs) from Dj ok e)
 refine⟨z,y,xs,r,o,es,ep,h1,h2,h3,h4,fun x hx=>?_,h5⟩
 have all:∀{l:List (List Key × V)} {m:List (List Key × Addr × Value)},KT H l m->∀x∈m,(tupleKind (cn P w)).is h x.1 x.2.1:=by
  intro l m q
  induction q with
  | nil=>intro x hx;exact nomatch hx
  | @cons p q ps qs hq t ih=>
    intro x hx;rcases List.mem_cons.mp hx with e | hx
    .subst e;exact mn ok (by rw[<-hq.1];exact hq.2.1)
    .exact ih x hx
 exact all r x hx
theorem GW{kvs:List (List Key × V)}(ok:lq P w H h)(e:H a=some (.dT kvs)):kvs.length<=sizeLine/\(a==sysModules)=false/\
 ∃xs,KT H kvs xs/\h.DictOfH (tupleKind (cn P w)) a xs:=oR ok (.inl e)
end
def jX(H:Hp)(a:Addr)(y:V)(r:Option V):Prop:=
 (∃kvs k,Rd H a (.dK kvs)/\y=kV k/\r=ij kvs k)\/∃kvs k b,Rd H a (.dT kvs)/\y= .ref b/\H b=some (.tup (k.map kV))/\r=ij kvs k
def xo(H:Hp)(a:Addr)(y v:V)(H':Hp):Prop:=
 (∃kvs k,H a=some (.dK kvs)/\y=kV k/\kvs.length < sizeLine/\H'=upd H a (.dK (putK kvs k v)))\/
 ∃kvs k b,H a=some (.dT kvs)/\y= .ref b/\H b=some (.tup (k.map kV))/\kvs.length < sizeLine/\H'=upd H a (.dT (putK kvs k v))
theorem jX.k{H:Hp}{a:Addr}{kvs:List (Key × V)}{k:Key}(e:H a=some (.dK kvs)):jX H a (kV k) (ij kvs k):= .inl ⟨kvs,k, .inl e,rfl,rfl⟩
theorem xo.k{H:Hp}{a:Addr}{kvs:List (Key × V)}{k:Key}{v:V}(e:H a=some (.dK kvs))(hl:kvs.length < sizeLine):xo H a (kV k) v (upd H a (.dK (putK kvs k v))):= .inl ⟨kvs,k,e,rfl,hl,rfl⟩
section
variable {X:Cx} {pins:PM} {σ:St} {H:Hp} {s:Shared} {a:Addr} {y v:V} {u r:Value} {o:Option V} {A:Around} {E:PQ}
theorem Inv.big(I:Inv X pins σ H s):sysModules < s.heap.objs.size:=by
 have h:mainGlobals < s.heap.objs.size:=(I.mod.glob.keeps I.bk).lt;exact Nat.lt_trans (by decide) h
theorem xj{Q:PQ}(hu:A.units+1 < cLine)(I:Inv X pins σ H s)(g:jX H a y (some v))(ry:RelV y u)(h:∀w' s',Inv X pins σ H s'->RelV v w'->Q w' s') :
 wpAny (model X.prog X.w) A (getItem (.ref a) u) Q E s:=by
 rcases g with⟨kvs,k,e,ey,l⟩ | ⟨kvs,k,b,e,ey,eb,l⟩
 .subst ey;obtain⟨z,hd,vs,rel,dd⟩:=n0 I.hok e;obtain⟨w',hw,AH⟩:=nu.some_of (v:=v) (o:=valueAt vs k) (by rw[l];exact rel.val k)
  exact wpAny_getItem_of (mW ry) dd.mapOf hw (h w' _ (I.tok _) AH)
 .subst ey;cases(show u=Value.ref b from ry)
  obtain⟨z,hd,xs,rel,dd⟩:=oR I.hok e;obtain⟨w',hw,AH⟩:=nu.some_of (v:=v) (o:=(atKey xs k).map (·.2)) (by rw[l];exact rel.val k)
  obtain⟨p,hp,Mh⟩:=Option.map_eq_some_iff.mp hw;refine wpAny_getItem_heap (tupleKind_room_in1 hu) (mn I.hok eb) dd hp ?_;rw[Mh];exact h w' _ (I.tok _) AH
theorem J1{Q:PQ}(hu:A.units+1 < cLine)(I:Inv X pins σ H s)(g:jX H a y o)(ry:RelV y u)(h:∀s',Inv X pins σ H s'->Q (.bool o.isSome) s') :
 wpAny (model X.prog X.w) A (compareOp .In u (.ref a)) Q E s:=by
 rcases g with⟨kvs,k,e,ey,l⟩ | ⟨kvs,k,b,e,ey,eb,l⟩
 .subst ey;obtain⟨z,hd,vs,rel,dd⟩:=n0 I.hok e;refine wpAny_in_of (mW ry) hd dd.mapOf ?_;rw[<-(rel.val k).iO,<-l];exact h _ (I.tok _)
 .subst ey;cases(show u=Value.ref b from ry)
  obtain⟨z,hd,xs,rel,dd⟩:=oR I.hok e;refine wpAny_in_heap (tupleKind_room_in1 hu) (mn I.hok eb) hd dd ?_;have q:=(rel.val k).iO;rw[Option.isSome_map] at q;rw[<-q,<-l];exact h _ (I.tok _)
theorem Cc{Q:PQ}(hu:A.units+1 < cLine)(I:Inv X pins σ H s)(g:jX H a y o)(ry:RelV y u)(h:∀s',Inv X pins σ H s'->Q (.bool (!o.isSome)) s') :
 wpAny (model X.prog X.w) A (compareOp .NotIn u (.ref a)) Q E s:=by
 rcases g with⟨kvs,k,e,ey,l⟩ | ⟨kvs,k,b,e,ey,eb,l⟩
 .subst ey;obtain⟨z,hd,vs,rel,dd⟩:=n0 I.hok e;refine wpAny_notIn_of (mW ry) hd dd.mapOf ?_;rw[<-(rel.val k).iO,<-l];exact h _ (I.tok _)
 .subst ey;cases(show u=Value.ref b from ry)
  obtain⟨z,hd,xs,rel,dd⟩:=oR I.hok e;refine wpAny_notIn_heap (tupleKind_room_in1 hu) (mn I.hok eb) hd dd ?_;have q:=(rel.val k).iO;rw[Option.isSome_map] at q;rw[<-q,<-l];exact h _ (I.tok _)
theorem q8{h':Heap}{t':Nat}{ob:HO}(I:Inv X pins σ H s)(mu:G8 (H a))(hs:Heap.SameBut a s.heap h')(he:∃q,h'.get? a=some q)(new:dF X.prog X.w (upd H a ob) h' a ob) :
 Inv X pins σ (upd H a ob) {s with heap:=h',toks:=t'}:=
 I.write (x:=a) (e:=a) mu (.inl rfl) (fun b q hb z=>(hs.2 b hb).trans z) he new
theorem uA{H':Hp}{h':Heap}{kvs:List (Key × V)}{vs:List (Key × Value)}(z:kvs.length<=sizeLine)(hd:(a==sysModules)=false)(rel:KV kvs vs)(dd:h'.DictOf (cn P w) a vs) :
 dF P w H' h' a (.dK kvs):=⟨z,hd,vs,rel,dd⟩
theorem xE{Q:Unit->Shared->Prop}(hu:A.units+1 < cLine)(I:Inv X pins σ H s)(g:xo H a y v H')(ry:RelV y u)(rv:RelV v r)(h:∀s',Inv X pins σ H' s'->Q () s') :
 wpAny (model X.prog X.w) A (setItem (.ref a) u r) Q E s:=by
 rcases g with⟨kvs,k,e,ey,l,eH⟩ | ⟨kvs,k,b,e,ey,eb,l,eH⟩
 .subst ey eH;obtain⟨z,hd,vs,rel,dd⟩:=Dq I.hok e;have hz:vs.length<=sizeLine:=by rw[<-rel.length];exact z
  have hl:(putK kvs k v).length<=sizeLine:=by have:=kg kvs k v;omega
  refine wpAny_setItem_pairs (hsz:=hz) (mW ry) dd fun h' F0 hs=>h _ ?_
  have he:∃q,h'.get? a=some q:=let⟨q,_,_,hq,_⟩:=F0;⟨q,hq⟩
  exact q8 I (by rw[e];exact True.intro) hs he (uA hl hd (rel.put k rv) F0)
 .subst ey eH;cases(show u=Value.ref b from ry)
  obtain⟨z,hd,xs,rel,dd⟩:=GW I.hok e;have hz:xs.length<=sizeLine:=by rw[<-Paired.length rel];exact z
  have hl:(putK kvs k v).length<=sizeLine:=by have:=kg kvs k v;omega
  refine wpAny_setItem_heap (hsz:=hz) (tupleKind_room_in1 hu) (mn I.hok eb) dd fun h' F0 hs=>h _ ?_
  obtain⟨q,es,ep,hq,h2,h3,h4,_,h5⟩:=F0;refine q8 I (by rw[e];exact True.intro) hs ⟨q,hq⟩ ⟨hl,hd,_,(rel.put k eb rv).keeps fun c ys ec=>?_,q,es,ep,hq,h2,h3,h4,h5⟩
  rw[ba (Hb ec e (fun z=>nomatch z))]
  exact ec
end
section
variable {X:Cx} {pins:PM} {σ:St} {H:Hp} {s:Shared} {a:Addr} {kvs:List (Key × V)} {k:Key} {u:Value} {A:Around} {E:PQ}
end
def Fq(i:Expr):Prop:=∀ov iv,subscripted i false ov iv=operate [ov,iv] (getItem ov iv)
theorem CL{prog:Program}{w:World}{A:Around}{E:PQ}{s:Shared}{env:Env}{value slice:Expr}{pos:Pos}{T id:String}{Q:PQ}
 (hl:typeLookup (.type T) "__getitem__"=pure (some (.builtin id))) (hs:Fq slice)
 (h:wpAny (model prog w) A (eval value env) (fun o s₁=>wpAny (model prog w) A (eval slice env) (fun i uf=>uf.TypeIs o T/\wpAny (model prog w) A (getItem o i) Q E uf) E s₁) E s) :
 wpAny (model prog w) A (eval (.Subscript value slice pos) env) Q E s:=by
 refine Subscript_ (wpAny_mono h (fun o s₁ i8=>wpAny_mono i8 (fun i uf lB=>?_) fun _ _ x=>x) fun _ _ x=>x)
 obtain⟨hT,lB⟩:=lB;unfold subscriptTail;refine wpAny_bind ?_;rw[getitemInPython_of_ne hT.not_modules];refine wpAny_bind (wpAny_specialOf hT hl ?_);have fin:wpAny (model prog w) A (subscripted slice false o i) (fun r Ia=>wpAny (model prog w) A (letTemporaryGo value o r >>=fun _=>pure r) Q E Ia) E uf:=by
  rw[hs o i];exact wpAny_operating (wpAny_mono lB (fun r Ia KP=>wpAny_bind (wpAny_letTemporaryGo (wpAny_pure KP))) fun _ _ x=>x)
 first
  | exact wpAny_pure (wpAny_bind fin)
  | exact wpAny_bind (wpAny_pure (wpAny_bind fin))
  | exact wpAny_bind fin
theorem s_{X:Cx}{pins:PM}{s:Shared}{a:Addr}{y:V}{o:Option V}(I:Inv X pins σ H s)(g:jX H a y o):s.TypeIs (.ref a) "dict":=by
 rcases g with⟨kvs,k,e,_,_⟩ | ⟨kvs,k,b,e,_,_,_⟩
 .obtain⟨_,_,vs,_,dd⟩:=n0 I.hok e;exact dd.typeIs
 .obtain⟨_,_,xs,_,dd⟩:=oR I.hok e;exact dd.typeIs
def Hj(td ty:TE):TE:=fun σ H Q=>td σ H fun x H1=>ty σ H1 fun y H2=>∃a v,x= .ref a/\jX H2 a y (some v)/\Q v H2
def N9(ty td:TE):TE:=fun σ H Q=>ty σ H fun y H1=>td σ H1 fun x H2=>∃a o,x= .ref a/\jX H2 a y o/\Q (.bl o.isSome) H2
def IA(ty td:TE):TE:=fun σ H Q=>ty σ H fun y H1=>td σ H1 fun x H2=>∃a o,x= .ref a/\jX H2 a y o/\Q (.bl (!o.isSome)) H2
def Gx(td ty tv:TE):TS:=fun D σ H=>tv σ H fun v H1=>td σ H1 fun x H2=>ty σ H2 fun y H3=>∃a H4,x= .ref a/\xo H3 a y v H4/\D.nx σ H4
def LV(td ty tv:TE)(rd:V->V->Hp->VK->Prop):TS:=fun D σ H=>td σ H fun x H1=>ty σ H1 fun y H2=>∃a v,x= .ref a/\jX H2 a y (some v)/\
 tv σ H2 fun y2 H3=>rd v y2 H3 fun z H4=>∃H5,xo H4 a y z H5/\D.nx σ H5
def LD(td ty:TE):TS:=fun D σ H=>td σ H fun x H1=>ty σ H1 fun y H2=>∃a kvs k,x= .ref a/\H2 a=some (.dK kvs)/\y=kV k/\(ij kvs k).isSome=true/\D.nx σ (upd H2 a (.dK (zO kvs k)))
section
variable {X:Cx} {o i e value:Expr} {pos pos' rZ:Pos} {td ty tv:TE}
theorem Ct(hu:X.A.units+1 < cLine)(ho:PE X o td)(hi:PE X i ty)(hs:Fq i):PE X (.Subscript o i pos) (Hj td ty):=by
 intro pins s σ H Q I h;refine CL PySem.F.slot_dict_getitem.lookup hs (dG (ho pins s σ H _ I h) fun u s1 ⟨x,H1,I1,rx,q1⟩=>dG (hi pins s1 σ H1 _ I1 q1) fun iv s2 ⟨y,H2,I2,ry,a,v,ex,g,q2⟩=>?_)
 subst ex;obtain rfl:u=Value.ref a:=rx;exact⟨s_ I2 g,xj hu I2 g ry fun w' s3 I3 AH=>⟨v,H2,I3,AH,q2⟩⟩
theorem BV(hu:X.A.units+1 < cLine)(ho:PE X o td)(hi:PE X i ty)(hv:PE X value tv)(hs:swapsWith value (some (.Subscript o i pos')) pos.line X.env=pure false) :
 PS X (.Assign [.Subscript o i pos'] value pos) (Gx td ty tv):=by
 intro pins s σ H D I h;refine wpAny_Assign_Subscript (dG (hv pins s σ H _ I h) fun r s1 ⟨v,H1,I1,rv,q1⟩=>dG (ho pins s1 σ H1 _ I1 q1) fun u s2 ⟨x,H2,I2,rx,q2⟩=>dG (hi pins s2 σ H2 _ I2 q2) fun iv s3 ⟨y,H3,I3,ry,a,H4,ex,g,q3⟩=>?_) hs
 subst ex;obtain rfl:u=Value.ref a:=rx;exact xE hu I3 g ry rv fun s4 I4=>⟨σ,H4,I4,q3⟩
end
theorem tI(h:Heap)(hb:sysModules < h.objs.size):dF P w H (h.push {cls:= .type "dict",data:= .dict #[]}) h.objs.size (.dK []):=
 ⟨Nat.zero_le _,beq_eq_false_iff_ne.mpr (Ne.symm (Nat.ne_of_lt hb)),[], .nil,Heap.DictOf.new h⟩
def D5:TE:=fun _ H Q=>∀p,H p=none->Q (.ref p) (upd H p (.dK []))
def IT:TE:=fun _ H Q=>∀p,H p=none->Q (.ref p) (upd H p (.dT []))
section
variable {X:Cx} {pos:Pos}
theorem Af:PE X (.Dict [] [] pos) D5:=fun pins s σ H Q I h=>
 wpAny_Dict_empty ⟨.ref s.heap.objs.size,_,I.laid (a:=s.heap.objs.size) (o:= .dK []) (t':=s.toks) (fun _ _ q=>Heap.get?_push_of_some _ q) (Nat.le_refl _) (tI s.heap I.big),rfl,h _ (I.hok.fresh (Nat.le_refl _))⟩
end
def mF:List (TE × TE)->St->Hp->(List (V × V)->Hp->Prop)->Prop
 | [],_,H,Q=>Q [] H
 | (tk,tv) ::r,σ,H,Q=>tk σ H fun x H1=>tv σ H1 fun y H2=>mF r σ H2 fun ps H3=>Q ((x,y) ::ps) H3
abbrev VV:List (V × V)->List (Value × Value)->Prop:=Paired fun p q=>RelV p.1 q.1/\RelV p.2 q.2
def EI(X:Cx)(pos:Pos)(keys:List (Option Expr))(values:List Expr)(qH:List (TE × TE)):Prop:=
 ∀(pins:PM) (s:Shared) (σ:St) (H:Hp) (Q:List (V × V)->Hp->Prop),Inv X pins σ H s->mF qH σ H Q->
  wpAny (model X.prog X.w) X.A (evalPairs (pairTrees keys values X.env pos)) (fun vs s'=>∃ps H',Inv X pins σ H' s'/\VV ps vs/\Q ps H') X.xe s
theorem wu{X:Cx}:EI X pos [] [] []:=fun pins s σ H Q I h=>pairTrees_nil_walk ⟨[],H,I, .nil,h⟩
theorem lO{X:Cx}{ks:List (Option Expr)}{tk tv:TE}{qH:List (TE × TE)}(hk:PE X k tk)(hv:PE X v tv)(hr:EI X pos ks vs qH) :
 EI X pos (some k ::ks) (v ::vs) ((tk,tv) ::qH):=fun pins s σ H Q I h=>
 pairTrees_cons_walk (dG (hk pins s σ H _ I h) fun u s1 ⟨x,H1,I1,rx,q1⟩=>dG (hv pins s1 σ H1 _ I1 q1) fun w2 s2 ⟨y,H2,I2,ry,q2⟩=>
  dG (hr pins s2 σ H2 _ I2 q2) fun ws s3 ⟨ps,H3,I3,rel,q3⟩=>⟨(x,y) ::ps,H3,I3, .cons ⟨rx,ry⟩ rel,q3⟩)
def jm(kvs more:List (Key × V)):List (Key × V):=more.foldl (fun acc kv=>putK acc kv.1 kv.2) kvs
theorem KV.merge:∀{more:List (Key × V)} {rs:List (Key × Value)} {kvs:List (Key × V)} {vs:List (Key × Value)},KV more rs->KV kvs vs->KV (jm kvs more) (merged vs rs):=by
 intro more rs kvs vs r;unfold KV at r
 induction r generalizing kvs vs with
 | nil=>intro q;exact q
 | @cons p q ps qs h t ih=>
   intro r0;have e:KV (putK kvs p.1 p.2) (stored vs q.1 q.2):=by
    have:=r0.put p.1 h.2;rw[<-h.1];exact this
   exact ih e
theorem kY:∀(more kvs:List (Key × V)),(jm kvs more).length<=kvs.length+more.length
 | [],kvs=>by show kvs.length<=kvs.length+0;omega
 | p ::r,kvs=>by
   have h1:=kY r (putK kvs p.1 p.2);have h2:=kg kvs p.1 p.2;show(jm (putK kvs p.1 p.2) r).length<=_;rw[List.length_cons];omega
theorem pq:∀{kvs:List (Key × V)} {ws:List (Value × Value)},VV (kvs.map fun kv=>(kV kv.1,kv.2)) ws->∃rs,Carries (cn P w) ws rs/\KV kvs rs
 | [],_,r=>by rw[List.map_nil] at r;cases r;exact⟨[],True.intro, .nil⟩
 | p ::kvs,_,r=>by
   rw[List.map_cons] at r;cases r with
   | @cons a b as bs h t=>
     obtain⟨rs,c,q⟩:=pq (P:=P) (w:=w) t;obtain⟨b1,b2⟩:=b;exact⟨(p.1,b2) ::rs,⟨mW h.1,rfl,c⟩, .cons ⟨rfl,h.2⟩ q⟩
def zy(qH:List (TE × TE)):TE:=fun σ H Q=>∀p,H p=none->mF qH σ (upd H p (.dK [])) fun ps H2=>H2 p=some (.dK [])/\∃kvs:List (Key × V),ps=kvs.map (fun kv=>(kV kv.1,kv.2))/\kvs.length<=15/\Q (.ref p) (upd H2 p (.dK (jm [] kvs)))
theorem Bo{X:Cx}{pos:Pos}{keys:List (Option Expr)}{values:List Expr}{qH:List (TE × TE)}(h:EI X pos keys values qH)(yb:keys.all (·.isSome)=true)(hl:keys.length=values.length)(h0:keys≠[])
 (Oq:keys.length<=15):PE X (.Dict keys values pos) (zy qH):=by
 intro pins s σ H Q I q;have hn:=I.hok.fresh (Nat.le_refl s.heap.objs.size);have I1:=I.laid (a:=s.heap.objs.size) (o:= .dK []) (h':=s.heap.push {cls:= .type "dict",data:= .dict #[]}) (t':=s.toks) (fun _ _ q=>Heap.get?_push_of_some _ q) (Nat.le_refl _) (tI s.heap I.big)
 refine wpAny_Dict_walk (knd:=cn X.prog X.w) yb hl h0 Oq (dG (h pins _ σ _ _ I1 (q _ hn)) fun ws s2 ⟨ps,H2,I2,rel,e,kvs,ep,lk,q2⟩=>?_)
 subst ep;obtain⟨rs,c,rk⟩:=pq (P:=X.prog) (w:=X.w) rel;obtain⟨z,hd,Pr,r0,dd⟩:=Dq I2.hok e;cases r0;refine⟨rs,c,dd,fun h' F0 hs=>⟨.ref s.heap.objs.size,_,?_,rfl,q2⟩⟩
 have hz:(jm [] kvs).length<=sizeLine:=by
  have h1:=kY kvs [];rw[List.length_nil] at h1;rw[sizeLine_eq];omega
 have he:∃q,h'.get? s.heap.objs.size=some q:=let⟨q,_,_,hq,_⟩:=F0;⟨q,hq⟩
 exact q8 I2 (by rw[e];exact True.intro) hs he (uA hz hd (rk.merge .nil) F0)
structure M1 (X:Cx) (o:Expr) (m:Str) (apos:Pos) (e:Expr) (cw:Pos):Prop where
 base:attributeBase o m X.env (eval o X.env)=eval o X.env
 few:((backTo cw (starEach [e] X.env)).all (fun x=>!x.1) && (backToKw cw (keywordEach [] X.env)).all (fun x=>x.1.isSome)
  && decide (([e]:List Expr).length+([]:List Keyword).length+(if([]:List Keyword).isEmpty then 0 else 1) < 30))=true
 line:(apos.endLine==cw.line)=true
 trees:backTo cw (starEach [e] X.env)=[(false,eval e X.env)]
structure M2 (X:Cx) (o:Expr) (m:Str) (apos:Pos) (e f:Expr) (cw:Pos):Prop where
 base:attributeBase o m X.env (eval o X.env)=eval o X.env
 few:((backTo cw (starEach [e,f] X.env)).all (fun x=>!x.1) && (backToKw cw (keywordEach [] X.env)).all (fun x=>x.1.isSome)
  && decide (([e,f]:List Expr).length+([]:List Keyword).length+(if([]:List Keyword).isEmpty then 0 else 1) < 30))=true
 line:(apos.endLine==cw.line)=true
 trees:backTo cw (starEach [e,f] X.env)=[(false,eval e X.env),(false,eval f X.env)]
def Hc(H:Hp)(a:Addr):Prop:=(∃kvs,Rd H a (.dK kvs))\/∃kvs,Rd H a (.dT kvs)
theorem Fb{X:Cx}{pins:PM}{s:Shared}{a:Addr}(I:Inv X pins σ H s)(d:Hc H a) :
 s.TypeIs (.ref a) "dict"/\(∀b,Value.ref a= .ref b->∃ob,s.heap.get? b=some ob/\ob.dict=none)/\(a==sysModules)=false:=by
 rcases d with⟨kvs,e⟩ | ⟨kvs,e⟩
 .obtain⟨_,hd,vs,_,dd⟩:=n0 I.hok e;refine⟨dd.typeIs,fun b q=>?_,hd⟩
  cases q;obtain⟨ob,_,_,h1,h2,_⟩:=dd;exact⟨ob,h1,h2.2.1⟩
 .obtain⟨_,hd,xs,_,dd⟩:=oR I.hok e;refine⟨dd.typeIs,fun b q=>?_,hd⟩
  cases q;obtain⟨ob,_,_,h1,h2,_⟩:=dd;exact⟨ob,h1,h2.2.1⟩
section
variable {X:Cx} {pins:PM} {σ:St} {H:Hp} {s:Shared} {a:Addr} {y d:V} {u r:Value} {o:Option V} {A:Around} {E:PQ}
theorem EY{Q:PQ}(hu:A.units+1 < cLine)(I:Inv X pins σ H s)(g:jX H a y o)(ry:RelV y u)(rd:RelV d r)(h:∀w' s',Inv X pins σ H s'->RelV (o.getD d) w'->Q w' s') :
 wpAny (model X.prog X.w) A (call (.builtin "dict.get") [.ref a,u,r]) Q E s:=by
 rcases g with⟨kvs,k,e,ey,l⟩ | ⟨kvs,k,b,e,ey,eb,l⟩
 .subst ey;obtain⟨z,hd,vs,rel,dd⟩:=n0 I.hok e;refine call_meetsIn PySem.F.slot_dict_get dd.typeIs PySem.F.entry_dict_get (PySem.F.args_dict_get_3 _ _ _) (meets_dict_get_default (cn X.prog X.w) a (mW ry) hd r) ⟨_,dd.mapOf,h _ _ (I.tok _) ?_⟩;rw[l];exact(rel.val k).getD rd
 .subst ey;cases(show u=Value.ref b from ry)
  obtain⟨z,hd,xs,rel,dd⟩:=oR I.hok e;refine call_meetsIn PySem.F.slot_dict_get dd.typeIs PySem.F.entry_dict_get (PySem.F.args_dict_get_3 _ _ _) (meetsH_dict_get_default (tupleKind (cn X.prog X.w)) a b hd r) ⟨tupleKind_room_in1 hu,k,xs,mn I.hok eb,dd,h _ _ (I.tok _) ?_⟩;rw[l];exact(rel.val k).getD rd
end
def JU(td ty:TE):TE:=fun σ H Q=>td σ H fun x H1=>∃a,x= .ref a/\Hc H1 a/\ty σ H1 fun y H2=>∃o,jX H2 a y o/\Q (o.getD .cL) H2
def DS(td ty tx:TE):TE:=fun σ H Q=>td σ H fun x H1=>∃a,x= .ref a/\Hc H1 a/\ty σ H1 fun y H2=>tx σ H2 fun z H3=>∃o,jX H3 a y o/\Q (o.getD z) H3
def JR(td ty:TE):TE:=fun σ H Q=>td σ H fun x H1=>∃a,x= .ref a/\Hc H1 a/\ty σ H1 fun y H2=>∃kvs k v,H2 a=some (.dK kvs)/\y=kV k/\ij kvs k=some v/\Q v (upd H2 a (.dK (zO kvs k)))
def Ke(td ty tx:TE):TE:=fun σ H Q=>td σ H fun x H1=>∃a,x= .ref a/\Hc H1 a/\ty σ H1 fun y H2=>tx σ H2 fun z H3=>∃kvs k,H3 a=some (.dK kvs)/\y=kV k/\
 (∀v,ij kvs k=some v->Q v (upd H3 a (.dK (zO kvs k))))/\(ij kvs k=none->Q z H3)
section
variable {X:Cx} {o e f:Expr} {apos cw:Pos} {td ty tx:TE}
theorem zX(hu:X.A.units+1 < cLine)(ho:PE X o td)(he:PE X e ty)(hf:PE X f tx)(m:M2 X o "get" apos e f cw):PE X (.Call (.Attribute o "get" apos) [e,f] [] cw) (DS td ty tx):=by
 intro pins s σ H Q I h;refine wpAny_Call_method m.base m.few m.line PySem.F.plainAttrs_dict PySem.F.slot_dict_get PySem.F.type_dict_get (dG (ho pins s σ H _ I h) fun u s1 ⟨x,H1,I1,rx,a,ex,d,q1⟩=>?_)
 subst ex;obtain rfl:u=Value.ref a:=rx;obtain⟨t1,t2,_⟩:=Fb I1 d;refine⟨t1,t2,?_⟩;rw[m.trees];refine Calls.callWith_builtin rfl (Calls.evalArgs_plain (Calls.spliced_cons (dG (he pins s1 σ H1 _ I1 q1) fun iv s2 ⟨y,H2,I2,ry,q2⟩=>
  Calls.spliced_cons (dG (hf pins s2 σ H2 _ I2 q2) fun fv s3 ⟨z,H3,I3,rz,ov,g,q3⟩=>Calls.spliced_nil ?_))))
 exact EY hu I3 g ry rz fun w' s4 I4 AH=>⟨_,H3,I4,AH,q3⟩
end
section
variable {X:Cx} {pins:PM} {σ:St} {H:Hp} {s:Shared} {a:Addr} {kvs:List (Key × V)} {A:Around} {E:PQ}
end
section
variable {X:Cx} {pins:PM} {σ:St} {H:Hp} {s:Shared} {a:Addr} {y:V} {u:Value} {A:Around} {E:PQ}
end
end L2
namespace HT
open PySem PyProof.Rows
def lexLt:List Int->List Int->Bool
 | [],[]=>false
 | [],_ ::_=>true
 | _ ::_,[]=>false
 | x ::xs,y ::ys=>if x=y then lexLt xs ys else decide (x < y)
section
open PySem.SeqAt
open PySem.AutoSeq1 (wpAny_loadPart')
open PySem.MeetsSeq PySem.MeetsSeq2 PySem.MeetsSeq3
end
section
variable {prog:Program} {w:World} {A:Around} {E:PQ} {s:Shared}
def nF(n d:Nat):Option Int->Nat
 | none=>d
 | some v=>if v < 0 then(v+(n:Int)).toNat else min v.toNat n
theorem sT(n d:Nat):nF n d none=d:=rfl
theorem wk(n d k:Nat):nF n d (some (k:Int))=min k n:=by
 show(if(k:Int) < 0 then((k:Int)+(n:Int)).toNat else min (k:Int).toNat n)=min k n
 rw[if_neg (by omega),Int.toNat_natCast]
end
end HT
namespace L2
open PySem PySem.Spec PyProof.Rows
abbrev TO:=St->Hp->(Option Int->Hp->Prop)->Prop
def PO(X:Cx)(e:Option Expr)(t:TO):Prop:=
 ∀(pins:PM) (s:Shared) (σ:St) (H:Hp) (Q:Option Int->Hp->Prop),Inv X pins σ H s->t σ H Q->
  wpAny (model X.prog X.w) X.A (evalPart e X.env) (fun u s'=>∃o H',Inv X pins σ H' s'/\IsPart u o/\Q o H') X.xe s
def A0:TO:=fun _ H Q=>Q none H
def Hv(t:TE):TO:=fun σ H Q=>t σ H fun x H1=>∃i,x= .int i/\Q (some i) H1
section
variable {X:Cx} {e:Expr} {te:TE} {lo hi:Option Expr} {tl th:TO} {pos p2:Pos}
theorem Bt:PO X none A0:=by
 intro pins s σ H Q I h;rw[evalPart_none];exact wpAny_pure ⟨none,H,I, .none,h⟩
theorem AY(h:PE X e te):PO X (some e) (Hv te):=by
 intro pins s σ H Q I hw;rw[evalPart_some];refine dG (h pins s σ H _ I hw) fun u s1 ⟨x,H1,I1,r1,q1⟩=>?_
 obtain⟨i,rfl,q⟩:=q1;obtain⟨t,rfl⟩:=r1;exact⟨some i,H1,I1, .int i t,q⟩
def Ez(X:Cx)(r:V->Option Int->Option Int->Hp->VK->Prop):Prop:=
 ∀(pins:PM) (s:Shared) (σ:St) (H:Hp) (x:V) (v vl vu:Value) (lo hi:Option Int) (sl:Addr) (Q:VK),Inv X pins σ H s->RelV x v->s.heap.IsSliceOf sl vl vu .none->IsPart vl lo->IsPart vu hi->r x lo hi H Q->
  ∃T id,typeLookup (.type T) "__getitem__"=pure (some (.builtin id))/\s.TypeIs v T/\wpAny (model X.prog X.w) X.A (getItem v (.ref sl)) (EP X pins σ Q) X.xe s
theorem Ez.or{r r':V->Option Int->Option Int->Hp->VK->Prop}(h:Ez X r)(h':Ez X r'):Ez X (fun x lo hi H Q=>r x lo hi H Q\/r' x lo hi H Q):=by
 intro pins s σ H x v vl vu lo hi sl Q I rx hs pl pu q;rcases q with q | q
 .exact h pins s σ H x v vl vu lo hi sl Q I rx hs pl pu q
 .exact h' pins s σ H x v vl vu lo hi sl Q I rx hs pl pu q
def NR(r:V->Option Int->Option Int->Hp->VK->Prop)(te:TE)(tl th:TO):TE:=fun σ H Q=>te σ H fun x H1=>tl σ H1 fun l H2=>th σ H2 fun u H3=>r x l u H3 Q
theorem yq{r:V->Option Int->Option Int->Hp->VK->Prop}(hr:Ez X r)(he:PE X e te)(hl:PO X lo tl)(hu:PO X hi th):PE X (.Subscript e (.Slice lo hi none p2) pos) (NR r te tl th):=by
 intro pins s σ H Q I h;refine Subscript_ (dG (he pins s σ H _ I h) fun v s1 ⟨x,H1,I1,r1,q1⟩=>?_)
 refine wpAny_Slice (dG (hl pins s1 σ H1 _ I1 q1) fun vl s2 ⟨l,H2,I2,pl,q2⟩=>dG (hu pins s2 σ H2 _ I2 q2) fun vu s3 ⟨u,H3,I3,pu,q3⟩=>?_)
 rw[evalPart_none];refine wpAny_pure ?_;have I4:Inv X pins σ H3 {s3 with heap:=s3.heap.push {cls:= .type "slice",data:= .fields #[vl,vu, .none]}}:=I3.kept (t':=s3.toks) fun b ob q=>Heap.get?_push_of_some _ q
 obtain⟨T,id,hT,ht,hg⟩:=hr pins {s3 with heap:=s3.heap.push {cls:= .type "slice",data:= .fields #[vl,vu, .none]}} σ H3 x v vl vu l u s3.heap.objs.size Q I4 r1 (Heap.IsSliceOf.new ..) pl pu q3
 show wpAny (model X.prog X.w) X.A (subscriptTail e (.Slice lo hi none p2) v (.ref s3.heap.objs.size)) (EP X pins σ Q) X.xe {s3 with heap:=s3.heap.push {cls:= .type "slice",data:= .fields #[vl,vu, .none]}}
 exact tail_any (ops:=[.ref s3.heap.objs.size,v]) ht hT hg (by with_unfolding_all rfl)
def uL(xs:List V)(lo hi:Option Int):List V:=(xs.drop (HT.nF xs.length 0 lo)).take (HT.nF xs.length xs.length hi - HT.nF xs.length 0 lo)
theorem t7(xs:List V)(lo hi:Option Int):(uL xs lo hi).length<=xs.length:=by
 unfold uL;rw[List.length_take,List.length_drop];omega
def M0(K:W.Frag):V->Option Int->Option Int->Hp->VK->Prop:=fun x lo hi H Q=>∃a xs,x= .ref a/\nh K H a xs/\
 ¬(HT.nF xs.length 0 lo=0/\HT.nF xs.length xs.length hi=xs.length)/\∀p,H p=none->Q (.ref p) (upd H p (.tup (uL xs lo hi)))
def MR(K:W.Frag):R2:=fun x y H Q=>∃a b ns ms,x= .ref a/\y= .ref b/\nh K H a (ns.map V.int)/\nh K H b (ms.map V.int)/\Q (.bl (HT.lexLt ns ms)) H
def LI(K:W.Frag):R2:=fun x y H Q=>∃a b xs ys,x= .ref a/\y= .ref b/\nh K H a xs/\nh K H b ys/\xs≠[]/\xs.length+ys.length<=sizeLine/\
 (ys=[]->Q (.ref a) H)/\(ys≠[]->∀p,H p=none->Q (.ref p) (upd H p (.tup (xs++ys))))
end
def ze(n:Nat)(i:Int):Option Nat:=if 0<=i then(if i < n then some i.toNat else none) else if -(n:Int)<=i then some (i+n).toNat else none
def qj{α:Type}(xs:List α)(i:Int):Option α:=(ze xs.length i).bind fun j=>xs[j]?
theorem Br{n:Nat}{i:Int}{j:Nat}(h:ze n i=some j):seqIndex? i n=some j/\j < n/\ -(n:Int)<=i/\i < n:=by
 unfold ze at h;by_cases h0:0<=i
 .rw [if_pos h0] at h;by_cases h1:i < n
  .rw [if_pos h1] at h;have e:i.toNat=j:=Option.some.inj h;exact⟨by rw[seqIndex_of h0 h1,e],by omega,by omega,h1⟩
  .rw [if_neg h1] at h;cases h
 .rw [if_neg h0] at h;by_cases h1: -(n:Int)<=i
  .rw [if_pos h1] at h;have e:(i+n).toNat=j:=Option.some.inj h;exact⟨by rw[seqIndex_neg (by omega) h1,e],by omega,h1,by omega⟩
  .rw [if_neg h1] at h;cases h
theorem rE{α:Type}{xs:List α}{i:Int}{v:α}(h:qj xs i=some v):∃j,seqIndex? i xs.length=some j/\xs[j]? =some v/\j < xs.length/\ -(xs.length:Int)<=i/\i < xs.length:=by
 unfold qj at h;cases e:ze xs.length i with
 | none=>rw [e] at h;cases h
 | some j=>
   rw[e] at h;obtain⟨h1,h2,h3,h4⟩:=Br e;exact⟨j,h1,h,h2,h3,h4⟩
def rK(b:Expr):Prop:=∀o i,subscripted b false o i=operate [o,i] (getItem o i)
def Bm(X:Cx)(r:R2):Prop:=
 ∀(value slice:Expr) (pins:PM) (s:Shared) (σ:St) (H:Hp) (x y:V) (v u:Value) (Q:VK),Inv X pins σ H s->RelV x v->RelV y u->r x y H Q->
  subscripted slice false v u=operate [v,u] (getItem v u)->wpAny (model X.prog X.w) X.A (subscriptTail value slice v u) (EP X pins σ Q) X.xe s
def N8(X:Cx)(id:String)(r:V->List V->Hp->VK->Prop):Prop:=
 ∀(pins:PM) (s:Shared) (σ:St) (H:Hp) (x:V) (xs:List V) (v:Value) (us:List Value) (Q:VK),Inv X pins σ H s->RelV x v->Vals xs us->r x xs H Q->
  wpAny (model X.prog X.w) X.A (call (.builtin id) (v ::us)) (EP X pins σ Q) X.xe s
section
variable {X:Cx} {a b:Expr} {ta tb:TE} {pos:Pos}
theorem Bm.or{r r':R2}(h:Bm X r)(h':Bm X r'):Bm X (fun x y H Q=>r x y H Q\/r' x y H Q):=by
 intro value slice pins s σ H x y v u Q I rx ry q hs;rcases q with q | q
 .exact h value slice pins s σ H x y v u Q I rx ry q hs
 .exact h' value slice pins s σ H x y v u Q I rx ry q hs
theorem HP{r:R2}(hr:Bm X r)(ha:PE X a ta)(hb:PE X b tb)(hs:rK b):PE X (.Subscript a b pos) (Ge r ta tb):=by
 intro pins s σ H Q I h;exact Subscript_ (Fx ha hb I h fun v u s2 x y H2 I2 rx ry q=>hr a b pins s2 σ H2 x y v u Q I2 rx ry q (hs _ _))
def Hn(K:W.Frag):R2:=fun x y H Q=>∃p xs i v,x= .ref p/\y= .int i/\lE K H p xs/\qj xs i=some v/\Q v H
def GS(K:W.Frag):R2:=fun x y H Q=>∃p xs i v,x= .ref p/\y= .int i/\nh K H p xs/\qj xs i=some v/\Q v H
def HM:R2:=fun x y H Q=>∃z i c,x= .str z/\y= .int i/\z.length<=sizeLine/\qj z.cps.toList i=some c/\Q (.str ⟨#[c]⟩) H
theorem B8:Bm X (Hn X.K):=by
 intro value slice pins s σ H x y v u Q I rx ry h hs;obtain⟨p,xs,i,z,rfl,rfl,hq,he,q⟩:=h;cases rx;obtain⟨t,rfl⟩:=ry;obtain⟨its,r,pl,hz⟩:=I.list hq;obtain⟨j,h1,h2,h3,h4,h5⟩:=rE he;obtain⟨w,ew,AH⟩:=r.get h2;have hl:=r.length;have hn:=qM;have fin:EP X pins σ Q w s:=⟨z,H,I,AH,q⟩;by_cases h0:0<=i
 .have hj:i.toNat=j:=by
   rw[seqIndex_of h0 h5] at h1;exact Option.some.inj h1
  exact item_listR pl.isList h0 (by omega) (by rw[hj];simpa using ew) fin hs
 .have hj:(i+(its.toArray.size:Int)).toNat=j:=by
   rw[seqIndex_neg (by omega) h4] at h1
   rw[List.size_toArray,<-hl];exact Option.some.inj h1
  exact subscriptTail_builtinR (x:=w) pl.isList.typeIs slot_list_getitem.lookup
   (wpAny_getItem_list_neg (Q:=fun r s'=>r=w/\EP X pins σ Q r s') pl.isList (by omega) (by rw[List.size_toArray] <;> omega) (by omega) (by rw[hj];simpa using ew) ⟨rfl,fin⟩) hs
theorem Fw:Bm X (GS X.K):=by
 intro value slice pins s σ H x y v u Q I rx ry h hs;obtain⟨p,xs,i,z,rfl,rfl,hq,he,q⟩:=h;cases rx;obtain⟨t,rfl⟩:=ry;obtain⟨its,r,pl,hz⟩:=I.tuple hq;obtain⟨j,h1,h2,h3,h4,h5⟩:=rE he;obtain⟨w,ew,AH⟩:=r.get h2;have hl:=r.length;have hn:=qM;have fin:EP X pins σ Q w s:=⟨z,H,I,AH,q⟩;exact subscriptTail_builtinR (x:=w) pl.typeIs slot_tuple_getitem.lookup
  (getItem_tuple (j:=j) (Q:=fun r s'=>r=w/\EP X pins σ Q r s') pl (by omega) (by omega) (by rw[List.size_toArray,<-hl];exact h1) (by simpa using ew) ⟨rfl,fin⟩) hs
theorem Fi:Bm X HM:=by
 intro value slice pins s σ H x y v u Q I rx ry h hs;obtain⟨z,i,c,rfl,rfl,hz,he,q⟩:=h;obtain⟨t,rfl⟩:=rx;obtain⟨t',rfl⟩:=ry;obtain⟨j,h1,h2,h3,h4,h5⟩:=rE he;have hl:z.cps.toList.length=z.length:=by simp [Str.length]
 rw[hl] at h1 h4 h5;have hn:=qM;exact tail_any (typeIs_str s z t) slot_str_getitem.lookup (getItem_str (c:=c) (by
  have e1:decide (i < -(2 ^ 63:Int))=false:=decide_eq_false (by omega)
  have e2:decide (i>=2 ^ 63)=false:=decide_eq_false (by omega)
  rw[e1,e2,Bool.or_false]) (by rw[h1];simpa using h2) ⟨.str ⟨#[c]⟩,H,I.tok _,⟨_,rfl⟩,q⟩) hs
def L0(K:W.Frag):R2:=fun x y H Q=>Hn K x y H Q\/GS K x y H Q\/HM x y H Q
theorem DL:Bm X (L0 X.K):=B8.or (Fw.or Fi)
def Lo:V->V->V->Hp->(Hp->Prop)->Prop:=fun o i v H Q=>∃p xs k j,o= .ref p/\i= .int k/\H p=some (.lst xs)/\ze xs.length k=some j/\Q (upd H p (.lst (xs.set j v)))
theorem rJ(lo hi:Option Int)(n:Nat):(sliceBounds lo hi none n).1=((HT.nF n 0 lo:Nat):Int)/\(sliceBounds lo hi none n).2.1=((HT.nF n n hi:Nat):Int)/\(sliceBounds lo hi none n).2.2=1:=by
 refine⟨?_,?_,rfl⟩
 .cases lo with
  | none=>simp [sliceBounds,HT.nF]
  | some i=>
    simp only[sliceBounds,HT.nF,Option.getD_none,show(1:Int) > 0 by decide,if_true]
    by_cases h:i < 0
    .simp only[h,if_true] <;> omega
    .simp only[h,if_false] <;> omega
 .cases hi with
  | none=>simp [sliceBounds,HT.nF]
  | some i=>
    simp only[sliceBounds,HT.nF,Option.getD_none,show(1:Int) > 0 by decide,if_true]
    by_cases h:i < 0
    .simp only[h,if_true] <;> omega
    .simp only[h,if_false] <;> omega
theorem pS(its:List Value)(lo hi:Option Int):slicePick its.toArray lo hi none=((its.drop (HT.nF its.length 0 lo)).take (HT.nF its.length its.length hi - HT.nF its.length 0 lo)).toArray:=by
 obtain⟨h1,h2,h3⟩:=rJ lo hi its.toArray.size;unfold slicePick;rw[h1,h2,h3];simp only[sliceRange_one,pick_run,List.size_toArray] <;> rfl
def JD(K:W.Frag):V->Option Int->Option Int->Hp->VK->Prop:=fun x lo hi H Q=>∃a xs,x= .ref a/\lE K H a xs/\∀p,H p=none->Q (.ref p) (upd H p (.lst (uL xs lo hi)))
theorem B9:Ez X (JD X.K):=by
 intro pins s σ H x v vl vu lo hi sl Q I rx hs pl pu h;obtain⟨a,xs,rfl,hx,q⟩:=h;cases rx;obtain⟨its,r,ht,hz⟩:=I.list hx;have hlen:=r.length;refine⟨"list",_,slot_list_getitem.lookup,ht.isList.typeIs,?_⟩;refine wpAny_getItem_list_slice ht.isList hs pl pu .none (by simp) ?_ (by rw[List.size_toArray] <;> omega)
 rw[pS,<-hlen];refine⟨.ref s.heap.objs.size,_,I.laid (t':=s.toks) (o:= .lst (uL xs lo hi)) (fun b ob q=>Heap.get?_push_of_some _ q) (Nat.le_refl _) ?_,rfl,q _ (I.hok.fresh (Nat.le_refl _))⟩
 exact⟨Nat.le_trans (t7 xs lo hi) hz,_,0,(r.drop (HT.nF xs.length 0 lo)).take (HT.nF xs.length xs.length hi - HT.nF xs.length 0 lo),Heap.get?_push_size _ rfl⟩
def jH:V->Bool
 | .cL=>true
 | .bl _=>true
 | .int _=>true
 | .str _=>true
 | _=>false
def Dy:V->V->Bool
 | .cL, .cL=>true
 | .bl a, .bl b=>a==b
 | .bl a, .int b=>(if a then 1 else 0)==b
 | .int a, .bl b=>a==(if b then 1 else 0)
 | .int a, .int b=>a==b
 | .str a, .str b=>a==b
 | _,_=>false
theorem Eg{s:Shared}{y x:V}{u v:Value}(ry:RelV y u)(rx:RelV x v)(fy:jH y=true)(fx:jH x=true):SeqAt.EqAt A s u v (Dy y x):=by
 cases y with
 | cL=>
   cases ry;cases x with
   | cL=>cases rx;exact SeqAt.EqAt.same _
   | bl b=>cases rx;exact SeqAt.EqAt.none_bool b
   | int b=>obtain⟨t,rfl⟩:=rx;exact SeqAt.EqAt.none_int b t
   | str b=>obtain⟨t,rfl⟩:=rx;exact SeqAt.EqAt.none_str b t
   | _=>exact absurd (show false=true from fx) Bool.false_ne_true
 | bl a=>
   cases ry;cases x with
   | cL=>cases rx;exact SeqAt.EqAt.bool_none a
   | bl b=>cases rx;exact SeqAt.EqAt.bool_bool a b
   | int b=>obtain⟨t,rfl⟩:=rx;exact SeqAt.EqAt.bool_int a b t
   | str b=>obtain⟨t,rfl⟩:=rx;exact SeqAt.EqAt.bool_str a b t
   | _=>exact absurd (show false=true from fx) Bool.false_ne_true
 | int a=>
   obtain⟨t',rfl⟩:=ry;cases x with
   | cL=>cases rx;exact SeqAt.EqAt.int_none a t'
   | bl b=>cases rx;exact SeqAt.EqAt.int_bool a t' b
   | int b=>obtain⟨t,rfl⟩:=rx;exact SeqAt.EqAt.int_int a t' b t
   | str b=>obtain⟨t,rfl⟩:=rx;exact SeqAt.EqAt.int_str a t' b t
   | _=>exact absurd (show false=true from fx) Bool.false_ne_true
 | str a=>
   obtain⟨t',rfl⟩:=ry;cases x with
   | cL=>cases rx;exact SeqAt.EqAt.str_none a t'
   | bl b=>cases rx;exact SeqAt.EqAt.str_bool a t' b
   | int b=>obtain⟨t,rfl⟩:=rx;exact SeqAt.EqAt.str_int a t' b t
   | str b=>obtain⟨t,rfl⟩:=rx;exact SeqAt.EqAt.str_str a t' b t
   | _=>exact absurd (show false=true from fx) Bool.false_ne_true
 | _=>exact absurd (show false=true from fy) Bool.false_ne_true
def uz(x:V)(u:Value):Bool:=match u with
 | .none=>Dy .cL x
 | .bool b=>Dy (.bl b) x
 | .int i _=>Dy (.int i) x
 | .str z _=>Dy (.str z) x
 | _=>false
theorem yz{x y:V}{u:Value}(r:RelV y u)(f:jH y=true):uz x u=Dy y x:=by
 cases y with
 | cL=>cases r;rfl
 | bl b=>cases r;rfl
 | int i=>obtain⟨t,rfl⟩:=r;rfl
 | str z=>obtain⟨t,rfl⟩:=r;rfl
 | _=>exact absurd (show false=true from f) Bool.false_ne_true
theorem lT{x:V}:∀{xs:List V} {us:List Value},Vals xs us->xs.all jH=true->us.any (uz x)=xs.any fun y=>Dy y x
 | _,_, .nil,_=>rfl
 | y ::xs,u ::us, .cons r t,f=>by
   rw[List.all_cons,Bool.and_eq_true] at f;rw[List.any_cons,List.any_cons,yz r f.1,lT t f.2]
theorem kh{s:Shared}{x:V}{v:Value}(rx:RelV x v)(fx:jH x=true):∀{xs:List V} {us:List Value},Vals xs us->xs.all jH=true->∀u∈us,SeqAt.EqAt A s u v (uz x u)
 | _,_, .nil,_=>fun u hu=>by cases hu
 | y ::xs,u ::us, .cons r t,f=>fun u' hu=>by
   rw[List.all_cons,Bool.and_eq_true] at f;rcases List.mem_cons.mp hu with rfl | hu
   .rw [yz r f.1];exact Eg r rx f.1 fx
   .exact kh rx fx t f.2 u' hu
def Dt(x:V)(xs:List V):Bool:=xs.any fun y=>Dy y x
def J9(K:W.Frag)(neg:Bool):R2:=fun x y H Q=>∃p xs,y= .ref p/\(lE K H p xs\/nh K H p xs)/\jH x=true/\xs.all jH=true/\Q (.bl (if neg then !Dt x xs else Dt x xs)) H
theorem wX:jT X (compareOp .In) (J9 X.K false):=by
 intro pins s σ H x y v u Q I rx ry h;obtain⟨p,xs,rfl,hq,fx,fs,q⟩:=h;cases ry;rcases hq with hq | hq
 .obtain⟨its,r,pl,hz⟩:=I.list hq;refine SeqAt.in_listAt (uz x) pl.isList (fun w hw=>kh rx fx r fs w (by simpa using hw)) ⟨.bl _,H,I,rfl,?_⟩
  rw[show its.toArray.any (uz x)=its.any (uz x) by simp,lT r fs]
  exact q
 .obtain⟨its,r,pl,hz⟩:=I.tuple hq;refine SeqAt.in_tupleAt (uz x) pl (fun w hw=>kh rx fx r fs w (by simpa using hw)) ⟨.bl _,H,I,rfl,?_⟩
  rw[show its.toArray.any (uz x)=its.any (uz x) by simp,lT r fs]
  exact q
theorem rO:jT X (compareOp .NotIn) (J9 X.K true):=by
 intro pins s σ H x y v u Q I rx ry h;obtain⟨p,xs,rfl,hq,fx,fs,q⟩:=h;cases ry;rcases hq with hq | hq
 .obtain⟨its,r,pl,hz⟩:=I.list hq;refine SeqAt.notIn_listAt (uz x) pl.isList (fun w hw=>kh rx fx r fs w (by simpa using hw)) ⟨.bl _,H,I,rfl,?_⟩
  rw[show its.toArray.any (uz x)=its.any (uz x) by simp,lT r fs]
  exact q
 .obtain⟨its,r,pl,hz⟩:=I.tuple hq;refine SeqAt.notIn_tupleAt (uz x) pl (fun w hw=>kh rx fx r fs w (by simpa using hw)) ⟨.bl _,H,I,rfl,?_⟩
  rw[show its.toArray.any (uz x)=its.any (uz x) by simp,lT r fs]
  exact q
theorem l5:j4 X (.type "list") (fun xs H Q=>∃p ys,xs=[.ref p]/\(lE X.K H p ys\/nh X.K H p ys)/\∀l,H l=none->Q (.ref l) (upd H l (.lst ys))):=by
 intro pins s σ H xs us Q I r h;obtain⟨p,ys,rfl,hq,q⟩:=h;obtain⟨u,rfl,rx⟩:=vals1 r;cases rx;have fin:∀(its:List Value),Vals ys its->ys.length<=sizeLine->∀(h':Heap) (c':Nat),(∀b o',s.heap.get? b=some o'->h'.get? b=some o')->
  h'.get? s.heap.objs.size=some {cls:= .type "list",dict:=none,data:= .seq its.toArray c',slots:=#[]}->EP X pins σ Q (.ref s.heap.objs.size) {s with heap:=h'}:=fun its r' hz h' c' kp e=>
  ⟨.ref s.heap.objs.size,_,I.laid (t':=s.toks) kp (Nat.le_refl _) (show dF X.prog X.w _ h' _ (.lst ys) from⟨hz,its,c',r',e⟩),rfl,q _ (I.hok.fresh (Nat.le_refl _))⟩
 rcases hq with hq | hq
 .obtain⟨its,r',pl,hz⟩:=I.list hq;have hlen:=r'.length;obtain⟨o,ho,hc,n,hd⟩:=pl.isList;exact call_list_seq p (.inl rfl) ho hc hd (fun h' c' kp e=>fin its r' hz h' c' kp e) (by simp only[List.size_toArray] <;> omega)
 .obtain⟨its,r',pl,hz⟩:=I.tuple hq;have hlen:=r'.length;obtain⟨o,ho,hc,n,hd⟩:=pl;exact call_list_seq p (.inr rfl) ho hc hd (fun h' c' kp e=>fin its r' hz h' c' kp e) (by simp only[List.size_toArray] <;> omega)
theorem pQ:j4 X (.type "tuple") (fun xs H Q=>∃p ys,xs=[.ref p]/\((lE X.K H p ys/\∀l,H l=none->Q (.ref l) (upd H l (.tup ys)))\/(nh X.K H p ys/\Q (.ref p) H))):=by
 intro pins s σ H xs us Q I r h;obtain⟨p,ys,rfl,h⟩:=h;obtain⟨u,rfl,rx⟩:=vals1 r;cases rx;rcases h with⟨hq,q⟩ | ⟨hq,q⟩
 .obtain⟨its,r',pl,hz⟩:=I.list hq;have hlen:=r'.length;refine call_tuple_list pl.isList (fun h' kp=>?_) (by simp only[List.size_toArray] <;> omega)
  have I1:Inv X pins σ H {s with heap:=h'}:=I.kept (t':=s.toks) kp
  have I2:Inv X pins σ (upd H h'.objs.size (.tup ys)) {s with heap:=h'.push {cls:= .type "tuple",data:= .seq its.toArray}}:=
   I1.laid (t':=s.toks) (fun b o e=>Heap.get?_push_of_some _ e) (Nat.le_refl _) (show dF X.prog X.w _ _ _ (.tup ys) from⟨hz,its,r',IsTup.new _ _⟩)
  exact⟨.ref h'.objs.size,_,I2,rfl,q _ (I1.hok.fresh (Nat.le_refl _))⟩
 .obtain⟨its,r',pl,hz⟩:=I.tuple hq;exact call_tuple_same pl ⟨.ref p,H,I,rfl,q⟩
def J0(K:W.Frag)(T:String)(x:V)(H:Hp):Prop:=match x with
 | .str _=>T="str"
 | .int _=>T="int"
 | .ref p=>(T="list"/\∃xs,lE K H p xs)\/(T="tuple"/\∃o,K.lookup p=some o/\o.cls= .type "tuple"/\o.dict=none)\/
    (T="dict"/\((∃kvs,H p=some (.dK kvs))\/∃kvs,H p=some (.dT kvs)))\/(T="set"/\∃S n,H p=some (.set S n))
 | _=>False
theorem EH{pins:PM}{s:Shared}{T:String}{x:V}{v:Value}(I:Inv X pins σ H s)(r:RelV x v)(ty:J0 X.K T x H) :
 s.TypeIs v T/\∀a,v= .ref a->∃ob,s.heap.get? a=some ob/\ob.dict=none:=by
 cases x with
 | str z=>
   obtain⟨t,rfl⟩:=r;cases(show T="str" from ty)
   exact⟨typeIs_str s z t,fun _ e=>nomatch e⟩
 | int i=>
   obtain⟨t,rfl⟩:=r;cases(show T="int" from ty)
   exact⟨typeIs_int s i t,fun _ e=>nomatch e⟩
 | ref p=>
   cases r;rcases ty with⟨rfl,xs,hq⟩ | ⟨rfl,o,hk,hc,hd⟩ | ⟨rfl,hk⟩ | ⟨rfl,S,n,hk⟩
   .obtain⟨its,_,pl,_⟩:=I.list hq;refine⟨pl.isList.typeIs,fun a e=>?_⟩
    cases e;obtain⟨o,n,e,c,hd,_⟩:=pl;exact⟨o,e,hd⟩
   .refine⟨⟨o,I.EK p o hk,hc⟩,fun a e=>?_⟩
    cases e;exact⟨o,I.EK _ o hk,hd⟩
   .have z:∃o,s.heap.get? p=some o/\o.ExactDict:=by
     rcases hk with⟨kvs,hk⟩ | ⟨kvs,hk⟩
     .obtain⟨_,_,_,_,o,_,_,e,ex,_⟩:=I.hok p _ hk;exact⟨o,e,ex⟩
     .obtain⟨_,_,_,_,o,_,_,e,ex,_⟩:=I.hok p _ hk;exact⟨o,e,ex⟩
    obtain⟨o,e,ex⟩:=z;refine⟨⟨o,e,ex.1⟩,fun a e2=>?_⟩
    cases e2;exact⟨o,e,ex.2.1⟩
   .obtain⟨o,_,_,_,e,ex,_⟩:=I.hok p _ hk;refine⟨⟨o,e,ex.1⟩,fun a e2=>?_⟩
    cases e2;exact⟨o,e,ex.2.1⟩
 | _=>exact False.elim ty
def Nw(K:W.Frag)(T:String)(r:V->List V->Hp->VK->Prop)(to:TE):TE:=fun σ H Q=>to σ H fun x H1=>J0 K T x H1/\r x [] H1 Q
def ML(K:W.Frag)(T:String)(r:V->List V->Hp->VK->Prop)(to:TE)(t:TA):TE:=fun σ H Q=>to σ H fun x H1=>J0 K T x H1/\t σ H1 fun xs H2=>r x xs H2 Q
variable {o e:Expr} {es:List Expr} {to:TE} {t:TA} {name:Str} {apos cw:Pos} {T id:String} {r:V->List V->Hp->VK->Prop}
theorem zT(pa:PlainAttrs T)(slot:Slot T name id)(Of:typeOf (.builtin id)=pure (.type "method_descriptor"))(hm:N8 X id r)(ho:PE X o to)(ha:PA X (e ::es) t)
 (md:attributeBase o name X.env (eval o X.env)=eval o X.env:=by rfl)
 (rY:((backTo cw (starEach (e ::es) X.env)).all (fun x=>!x.1) && (backToKw cw (keywordEach [] X.env)).all (fun x=>x.1.isSome)
   && decide ((e ::es).length+([]:List Keyword).length+(if([]:List Keyword).isEmpty then 0 else 1) < 30))=true:=by rfl)
 (me:(apos.endLine==cw.line)=true:=by rfl) (hs:starEach (e ::es) X.env=(false,eval e X.env) ::starEach es X.env:=by rfl) (FY:(backTo cw (starEach es X.env)).any (·.1)=false:=by rfl) :
 PE X (.Call (.Attribute o name apos) (e ::es) [] cw) (ML X.K T r to t):=by
 intro pins s σ H Q I h;refine wpAny_Call_method_late md rY me rfl (dG (ho pins s σ H _ I h) fun v s1 ⟨x,H1,I1,r1,ty,q1⟩=>?_)
 obtain⟨h1,h2⟩:=EH I1 r1 ty;refine⟨T,id,pa,slot,Of,h1,h2,?_⟩;have hA:=ha cw pins s1 σ H1 _ I1 q1;rw[hs] at hA ⊢;refine Calls.callWith_builtin (by show(false || (backTo cw (starEach es X.env)).any (·.1))=false;rw [FY] <;> rfl) (Calls.evalArgs_plain ?_)
 exact dG hA fun us s2 ⟨vs,H2,I2,r2,q2⟩=>hm pins s2 σ H2 x vs v us Q I2 r1 r2 q2
end
def JS(X:Cx)(id:String)(r:V->List V->Hp->VK->Prop):Prop:=
 ∀(pins:PM) (s:Shared) (σ:St) (H:Hp) (x:V) (xs:List V) (v:Value) (us:List Value) (Q:VK),Inv X pins σ H s->RelV x v->Vals xs us->r x xs H Q->
  wpAny (model X.prog X.w) X.A (call (.builtin id) (v ::us)) (EP X pins σ Q) X.xe s
theorem Vals.one:∀{x:V} {us:List Value},Vals [x] us->∃u,us=[u]/\RelV x u
 | _,_, .cons r .nil=>⟨_,rfl,r⟩
theorem Vals.rep{xs:List V}{us:List Value}(h:Vals xs us):∀k:Nat,Vals (List.replicate k xs).flatten (List.replicate k us).flatten
 | 0=> .nil
 | k+1=>by
   rw[List.replicate_succ,List.replicate_succ,List.flatten_cons,List.flatten_cons];exact Vals.append h (Vals.rep h k)
theorem foldl_rep(its:List Value):∀(k:Nat) (acc:List Value),
 List.foldl (fun x1 x2=>x1++x2) acc.toArray (List.replicate k its.toArray)=(acc++(List.replicate k its).flatten).toArray
 | 0,acc=>by simp
 | k+1,acc=>by
   have e:acc.toArray++its.toArray=(acc++its).toArray:=by simp
   have e2:(acc++its)++(List.replicate k its).flatten=acc++(List.replicate (k+1) its).flatten:=by
    rw[List.replicate_succ,List.flatten_cons,List.append_assoc]
   rw[<-e2,<-foldl_rep its k (acc++its),<-e,List.replicate_succ,List.foldl_cons]
section
variable {X:Cx} {pins:PM} {σ:St} {H:Hp} {s:Shared} {l b:Addr} {xs ys zs:List V}
theorem Inv.BK{its its':List Value}{n:Nat}{f:Array Value->Array Value}{t':Nat}(I:Inv X pins σ H s)(hH:H l=some (.lst xs))
 (e:s.heap.get? l=some {cls:= .type "list",data:= .seq its.toArray n}) (hf:f its.toArray=its'.toArray) (hv:Vals ys its') (hz:ys.length<=sizeLine) :
 Inv X pins σ (upd H l (.lst ys)) {s with heap:=s.heap.update l (Obj.mapSeq f),toks:=t'}:=by
 have q:=PySem.IsL.update e f;rw[hf] at q;refine I.write (x:=l) (e:=l) (by rw[hH];exact trivial) (.inl rfl) (fun b' u hb hu=>(Heap.get?_update_other s.heap (Obj.mapSeq f) (Ne.symm hb)).trans hu) ⟨_,q⟩ ?_
 exact⟨hz,its',_,hv,q⟩
theorem Inv.Bx{its:List Value}{t':Nat}(I:Inv X pins σ H s)(hv:Vals ys its)(hz:ys.length<=sizeLine) :
 Inv X pins σ (upd H s.heap.objs.size (.lst ys)) {s with heap:=s.heap.push {cls:= .type "list",data:= .seq its.toArray},toks:=t'}:=
 I.laid (fun _ _ q=>Heap.get?_push_of_some _ q) (Nat.le_refl _) ⟨hz,its,0,hv,Heap.get?_push_size _ rfl⟩
theorem Inv.fresh(I:Inv X pins σ H s):H s.heap.objs.size=none:=I.hok.fresh (Nat.le_refl _)
theorem Inv.yj(I:Inv X pins σ H s)(hH:H l=some (.lst xs)):xs.length<=sizeLine/\∃(its:List Value) (n:Nat),Vals xs its/\xs.length=its.length/\s.heap.get? l=some {cls:= .type "list",data:= .seq its.toArray n}:=by
 obtain⟨z,its,n,r,e⟩:=I.hok l _ hH;exact⟨z,its,n,r,r.length,e⟩
theorem nV{n:Nat}(h:n<=sizeLine):Builtin.List.listTooLong n=false:=by
 unfold Builtin.List.listTooLong;exact decide_eq_false (by omega)
end
section
variable {X:Cx}
def BO:V->List V->Hp->VK->Prop:=fun x vs H Q=>∃l xs y,x= .ref l/\vs=[y]/\H l=some (.lst xs)/\xs.length < sizeLine/\Q .cL (upd H l (.lst (xs++[y])))
theorem qi:JS X "list.append" BO:=by
 intro pins s σ H x vs v us Q I rx rv h;obtain⟨l,xs,y,rfl,rfl,hH,hz,q⟩:=h;cases rx;obtain⟨u,rfl,ru⟩:=rv.one;obtain⟨z,its,n,r,hl,e⟩:=I.yj hH;refine call_meets F.slot_list_append ⟨_,e,rfl⟩ F.entry_list_append (F.args_list_append_2 _ _) (PySem.list_append l its.toArray n u (by rw[List.size_toArray];omega)) ⟨e,?_⟩
 refine⟨.cL,_,I.BK (its':=its++[u]) hH e (by simp) (r.append (.cons ru .nil)) ?_,rfl,q⟩
 rw[List.length_append,List.length_singleton];omega
def Cr:V->List V->Hp->VK->Prop:=fun x vs H Q=>∃l b xs zs,x= .ref l/\vs=[.ref b]/\H l=some (.lst xs)/\H b=some (.lst zs)/\xs.length+zs.length<=sizeLine/\Q .cL (upd H l (.lst (xs++zs)))
theorem xI:JS X "list.extend" Cr:=by
 intro pins s σ H x vs v us Q I rx rv h;obtain⟨l,b,xs,zs,rfl,rfl,hH,hB,hz,q⟩:=h;cases rx;obtain⟨u,rfl,ru⟩:=rv.one;cases ru;obtain⟨z,its,n,r,hl,e⟩:=I.yj hH;obtain⟨z2,kO,n2,r2,Gj,e2⟩:=I.yj hB;have hsz:its.toArray.size+kO.toArray.size<=sizeLine:=by rw[List.size_toArray,List.size_toArray];omega
 have hlong:¬(!its.toArray.isEmpty && Builtin.List.listTooLong (its.toArray.size+kO.toArray.size))=true:=by
  rw[nV hsz,Bool.and_false];exact Bool.false_ne_true
 refine call_meets F.slot_list_extend ⟨_,e,rfl⟩ F.entry_list_extend (F.args_list_extend_2 _ _)
  (AutoSeq1.list_extend_list_list_0 l its.toArray n b kO.toArray n2 hlong (by rw[List.size_toArray];omega) (by omega)) ⟨e,e2,?_⟩
 refine⟨.cL,_,I.BK (its':=its++kO) hH e (by simp) (r.append r2) ?_,rfl,q⟩
 rw[List.length_append];omega
def Nu:V->List V->Hp->VK->Prop:=fun x vs H Q=>∃l xs y,x= .ref l/\vs=[]/\H l=some (.lst xs)/\xs[xs.length - 1]? =some y/\Q y (upd H l (.lst xs.dropLast))
def Jv:V->List V->Hp->VK->Prop:=fun x vs H Q=>∃l xs i k y,x= .ref l/\vs=[.int i]/\H l=some (.lst xs)/\ -(2 ^ 63)<=i/\i < 2 ^ 63/\seqIndex? i xs.length=some k/\xs[k]? =some y/\Q y (upd H l (.lst (xs.eraseIdx k)))
def G4:V->List V->Hp->VK->Prop:=fun x vs H Q=>∃l xs,x= .ref l/\vs=[]/\H l=some (.lst xs)/\Q .cL (upd H l (.lst xs.reverse))
def IU:V->List V->Hp->VK->Prop:=fun x vs H Q=>∃l xs,x= .ref l/\vs=[]/\H l=some (.lst xs)/\Q .cL (upd H l (.lst []))
def MD:R2:=fun x y H Q=>∃l b xs zs,x= .ref l/\y= .ref b/\H l=some (.lst xs)/\H b=some (.lst zs)/\xs.length+zs.length<=sizeLine/\∀p,H p=none->Q (.ref p) (upd H p (.lst (xs++zs)))
def Jp:R2:=fun x y H Q=>∃l k xs,x= .ref l/\y= .int k/\H l=some (.lst xs)/\ -(2 ^ 63)<=k/\k < 2 ^ 63/\xs.length*k.toNat<=sizeLine/\
 ∀p,H p=none->Q (.ref p) (upd H p (.lst (List.replicate k.toNat xs).flatten))
theorem len_rep{α:Type}(xs:List α)(k:Nat):(List.replicate k xs).flatten.length=k*xs.length:=by
 induction k with
 | zero=>simp
 | succ k ih=>rw [List.replicate_succ,List.flatten_cons,List.length_append,ih,Nat.succ_mul,Nat.add_comm]
theorem DN:jT X (binaryOp .Mult) Jp:=by
 intro pins s σ H x y v u Q I rx ry h;obtain⟨l,k,xs,rfl,rfl,hH,h1,h2,hz,q⟩:=h;cases rx;obtain⟨t,rfl⟩:=ry;obtain⟨z,its,n,r,hl,e⟩:=I.yj hH;have hlen:its.toArray.size*k.toNat<=sizeLine:=by rw[List.size_toArray,<-hl];exact hz
 have hcap:¬its.toArray.size*k.toNat > (2 ^ 63 - 1) / 8:=by
  have:(sizeLine:Nat)<=(2 ^ 63 - 1) / 8:=by decide
  omega
 have hfit:¬(!Builtin.List.listFitsIndex k)=true:=by
  rw[fitsIndex_both h1 h2];exact Bool.false_ne_true
 have hlong:¬Builtin.List.listTooLong (its.toArray.size*k.toNat)=true:=by
  rw[nV hlen];exact Bool.false_ne_true
 have hnew:List.foldl (fun x1 x2=>x1++x2) #[] (List.replicate (if its.toArray.isEmpty=true then 0 else k.toNat) its.toArray)=(List.replicate k.toNat its).flatten.toArray:=by
  have f0:∀m:Nat,List.foldl (fun x1 x2=>x1++x2) #[] (List.replicate m its.toArray)=(List.replicate m its).flatten.toArray:=fun m=>by
   have:=foldl_rep its m [];rw[List.nil_append] at this;exact this
  rw[f0];cases its with
  | nil=>simp
  | cons a r'=>rw [if_neg (by simp)]
 refine wpAny_binaryOp_repeat_ref (T:="list") (U:="int") (by decide) ⟨_,e,rfl⟩ (fun s'=>typeIs_int s' k t) noFill_list_mul F.fills_int_mul F.slot_int_rmul repeat_list F.slot_int_index.lookup
  (call_meets F.slot_int_rmul (typeIs_int s k t) F.entry_int_rmul (F.args_int_rmul_2 _ _) (int___rmul___int_list k t l its.toArray n)
    ⟨e,rfl,⟨_,e,rfl⟩,call_meets F.slot_list_mul ⟨_,e,rfl⟩ F.entry_list_mul (F.args_list_mul_2 _ _) (AutoListH.list___mul___list_int_3 l its.toArray n k t hfit hcap hlong) ⟨e,?_⟩⟩)
 rw[hnew];exact⟨.ref _,_,I.Bx (t':=s.toks) (r.rep k.toNat) (by rw[len_rep,Nat.mul_comm];exact hz),rfl,q _ I.fresh⟩
end
section
variable {prog:Program} {w:World} {A:Around} {E:PQ} {s:Shared}
set_option maxRecDepth 100000 in
end
section
variable {X:Cx}
end
end L2
namespace Att
open PySem PySem.W PySem.Calls PyProof.Rows
theorem nv{P:Params}:∀(ns:List Int) (vs:List Value),WellAll P h vs (ns.map WData.int)->IntsAre vs ns:=by
 intro ns
 induction ns with
 | nil=>
   intro vs w;rw[List.map_nil] at w;cases w;exact .nil
 | cons n ns ih=>
   intro vs w;rw[List.map_cons] at w;cases w with
   | cons a b=>
     cases a;exact .cons _ _ (ih _ b)
theorem xi{l:OpenLaw}{n:Nat}(hn:l.most=some n){P:Params}{h:Heap}{args:List WData}{vals:List Value}
 (CT:l.row.toRowW.claim.pre args=true) (DD:WellAll P h vals args) :
 ∃a vs ns,vals=[Value.ref a]/\args=[WData.list (ns.map WData.int)]/\h.get? a=some {cls:= .type "list",data:= .seq vs.toArray}/\IntsAre vs ns/\ns.length<=n:=by
 have hsh:WShape.hasAll [] args [.list .int]=true:=(pre_splitW CT).1;have hc:l.pre.holds [] {args:=args}=true:=(pre_splitW CT).2;obtain⟨d,r,rfl,h1,h2⟩:=hasAllW_cons hsh;obtain rfl:=hasAllW_nil h2;obtain⟨xs,rfl,h3⟩:=hasW_list h1;obtain⟨ns,rfl⟩:=items_int h3;have hlen:ns.length<=n:=by
  unfold OpenLaw.pre at hc;have h4:(WTm.not (.lt (.lit (.int (n:Int))) (.len (.arg 0)))).holds [] {args:=[.list (ns.map .int)]}=true:=by
   have h4:=(holds_andW hc).1;rw[hn] at h4;exact h4
  have h5:=condW_of h4 (w_not (w_lt w_lit (w_len_list (w_arg rfl))));rw[List.length_map] at h5;refine Nat.le_of_not_lt fun q=>?_
  have q':(n:Int) < ((ns.length:Nat):Int):=by omega
  first
   | (rw [decide_eq_true q'] at h5;exact absurd h5 (by decide))
   | (simp at h5;omega)
 cases DD with
 | cons w1 w2=>
   cases w2;cases w1 with
   | list ho yb=>exact⟨_,_,ns,rfl,rfl,ho,nv ns _ yb,hlen⟩
theorem xN(l:OpenLaw)(args:List WData):l.row.toRowW.claim.post args (.bool true) args=true:=
 postW_of (r:=l.row.toRowW) (X:=(true==true))
  (show WShape.has [] (.bool true) .bool=true by first | rfl | decide | simp [WShape.has,WShape.arms,WShape.armsAll])
  (show(WTm.eq .res (.lit (.bool true))).value [] {args:=args,res:=some (.bool true),after:=args}=some (.bool (true==true)) from w_eq_bool (w_res rfl) w_lit) rfl
theorem sv{l:OpenLaw}{n:Nat}{q:Program}{loose:List Str}{XP:(Str->Option Value)->Heap->Prop}{YP:World->Heap->Prop}{d:DefRec}
 (hn:l.most=some n) (KD:d.params.defaults=[])
 (call:∀(w:World) (s₀ s₁:Shared) (mg mb:PY) (fa:Addr) (o:Obj) (pm cd doc:Value) (a:Addr) (vs:List Value) (ns:List Int),
   Ground q loose [] XP w s₀ mg mb s₁.heap->YP w s₁.heap->
   s₁.heap.get? fa=some o->o.data= .func (docDef d.name d.params d.body d.scope pm cd doc)->s₁.heap.CodeRec cd d.name->mg d.name=some (.ref fa)->
   s₁.heap.get? a=some {cls:= .type "list",data:= .seq vs.toArray}->IntsAre vs ns->ns.length<=n->s₁.gens=#[]->
   codeAny (model l.prog w) callerA (.call (.ref fa) ⟨[.ref a],[]⟩) (fun r s'=>r= .ok (.ret (.bool true))/\OldK s₁.heap s'.heap/\s'.os=s₁.os/\AllBare s'.gens) s₁) :
 WalkO q loose XP YP l.row.toRowW d [] (fun f vs=>PySem.call f vs):=by
 intro w s₀ s₁ mg mb G Y fa o pm cd doc dV kV ho hd pE hD Iq hg args vals as CT hlay hrd DD hlo;obtain rfl:dV= .none:=Dflts.none hD KD;obtain rfl:kV= .none:=Dflts.noKw hD;obtain⟨a,vs,ns,rfl,rfl,F4,hints,hlen⟩:=xi hn CT DD;refine enter_call (codeAny_mono (call w s₀ s₁ mg mb fa o pm cd doc a vs ns G Y ho (fd_plain hd) pE Iq F4 hints hlen hg) fun r s' hq=>?_)
 obtain⟨rfl,h2,h3,h4⟩:=hq;exact⟨.inl ⟨.bool true, .bool true,[],rfl,fun _=>rfl, .bool true,xN l _,fun _=>⟨List.Pairwise.nil,fun _ hm=>(nomatch hm)⟩⟩,h2,h3,h4⟩
section
variable {prog:Program} {w:World} {A:Around} {E:PQ} {s:Shared} {K:Frag}
def Jl(h:Heap):Heap:={h with objs:=#[]}
def ledger(h:Heap)(L d:Addr):PM:=(List.range h.objs.size).filterMap fun a=>if a=L\/a=d then none else(h.get? a).map fun o=>(a,o)
end
end Att
namespace L2
open PySem PySem.Spec PyProof.Rows
theorem p_:∀{vs:List Value} {ns:List Int},IntsAre vs ns->Vals (ns.map V.int) vs
 | _,_, .nil=> .nil
 | _,_, .cons n t h=> .cons ⟨t,rfl⟩ (p_ h)
def GF(H:Hp):Prop:=∀b,H b=none\/∃o xs,H b=some (.ic o (.lst xs))
abbrev fA{K:W.Frag}{h:Heap}(_:K.In h):W.Frag:=K
def inClass(s:Stmt)(j:Nat):Stmt:=match s with
 | .ClassDef _ _ _ body _ _ _ _ _ _ _=>body.getD j (.Pass ⟨0,0,0,0⟩)
 | _=> .Pass ⟨0,0,0,0⟩
def l3(s:Stmt):Arguments:=match s with
 | .FunctionDef _ a _ _ _ _ _ _ _ _=>a
 | _=>{posonlyargs:=[],args:=[],vararg:=none,kwonlyargs:=[],kw_defaults:=[],kwarg:=none,defaults:=[]}
def a9(s:Stmt):List Stmt:=match s with
 | .FunctionDef _ _ b _ _ _ _ _ _ _=>b
 | _=>[]
def aJ(s:Stmt):Scope:=match s with
 | .FunctionDef _ _ _ _ _ _ sc _ _ _=>sc
 | _=>{kind:= .function,names:=[],isGenerator:=false,isCoroutine:=false}
abbrev p9:yL:=fun _ _ _ _ _ _=>False
abbrev E0:XK:=fun _ _ _=>False
theorem C1{X:Cx}:Passes p9 X E0:=fun _ _ _ _ _ _ _ h=>h.elim
structure wb (K:W.Frag) (x qual:Str) (st:Stmt) (f:Addr) (fd:FuncData):Prop where
 ex:∃(oc:Value) (od:Option Addr) (kV doc pm:Value) (an:Option Addr) (dC ct:Value) (yc:Array (Option Value)),
  fd=PySem.W.fnOf x qual (l3 st) (a9 st) (aJ st) .none kV doc pm an dC ct/\K.lookup f=some ⟨oc,od, .func fd,yc⟩/\PySem.W.codeIn K dC qual=true
 kp:PySem.W.keepIn K (.ref f)=true
section
variable {P:Program} {w:World} {K:W.Frag} {mg:PY} {base:Heap}
theorem wb.ok{x qual:Str}{st:Stmt}{f:Addr}{fd:FuncData}{N ps:List Str}{k:Nat}{sp:Sp}(F:wb K x qual st f fd)(S:bp N ps (aJ st))(len:∀vs H Q E,sp vs H Q E->vs.length=ps.length)
 (i9:∀(dC:Value) (A:Around) (outer:List Env) (s:Shared) (H:Hp) (vs:List V) (Q:VK) (E:XK),fF k (A.deeper (envOfC qual (aJ st) s.heap.objs.size f dC))->sp vs H Q E->
   ∃t,sf (og p9 P w K mg base N qual (aJ st) f dC A outer s H E).Cw (a9 st) t/\t {nx:=fun _ H'=>Q .cL H',rt:=Q} (start N vs) H):iY P w K mg base p9 (k+1) f fd ps sp:=by
 obtain⟨oc,od,kV,doc,pm,an,dC,ct,yc,rfl,lk,pE⟩:=F.ex;refine GH lk pE S len fun A outer s H vs Q E hr Gm=>?_
 obtain⟨t,h,q⟩:=i9 dC A outer s H vs Q E hr Gm;exact⟨t,h.Cw,q⟩
theorem wb.binds{x qual:Str}{st:Stmt}{f:Addr}{fd:FuncData}{ps:List Str}(F:wb K x qual st f fd)
 (h:∀(kV doc pm:Value) (an:Option Addr) (dC ct:Value) (us:List Value),us.length=ps.length->bindArgs (PySem.W.fnOf x qual (l3 st) (a9 st) (aJ st) .none kV doc pm an dC ct) ⟨us,[]⟩=pure (ps.zip us)):Binds K fd ps []:=by
 obtain⟨oc,od,kV,doc,pm,an,dC,ct,yc,rfl,lk,pE⟩:=F.ex;exact .all (h kV doc pm an dC ct)
theorem Eb{x qual:Str}{st:Stmt}{f:Addr}{oc:Value}{od an:Option Addr}{yc:Array (Option Value)}{kV doc pm dC ct:Value}(l:K.lookup f=some ⟨oc,od, .func (PySem.W.fnOf x qual (l3 st) (a9 st) (aJ st) .none kV doc pm an dC ct),yc⟩)
 (c:PySem.W.codeIn K dC qual=true) (k:PySem.W.keepIn K (.ref f)=true):wb K x qual st f (PySem.W.fnOf x qual (l3 st) (a9 st) (aJ st) .none kV doc pm an dC ct):=⟨⟨oc,od,kV,doc,pm,an,dC,ct,yc,rfl,l,c⟩,k⟩
end
theorem kU{A:Around}{k:Nat}(hr:fF k A):A.units+1 < cLine:=Nat.lt_of_le_of_lt (Nat.add_le_add_left (by decide:1<=64) _) hr.units
section
variable {X:Cx}
end
theorem BS{A B:Prop}(h:B):if false=true then A else B:=by
 rw[if_neg Bool.false_ne_true];exact h
theorem Bk{A B:Prop}(h:A):if true=true then A else B:=by
 rw[if_pos rfl];exact h
def aP(H H':Hp):Prop:=∀b o,H b=some o->H' b=some o
theorem aP.refl(H:Hp):aP H H:=fun _ _ h=>h
theorem aP.trans(a:aP H H1)(b:aP H1 H2):aP H H2:=fun c o h=>b c o (a c o h)
theorem aP.free{H H':Hp}(e:aP H H'){l:Addr}(h:H' l=Option.none):H l=Option.none:=by
 cases q:H l with
 | none=>rfl
 | some o=>
   rw[e l o q] at h;cases h
section
variable {κ:Type} [DecidableEq κ]
end
end L2
end
section
namespace L2
open PySem PySem.Spec PyProof.Rows
def kM(cells:List (Str × Addr)):List (Str × NameKind)->List (Str × Addr)->List (Str × Addr)
 | [],acc=>acc
 | (n,k) ::r,acc=>kM cells r (if k==NameKind.free then(n,(cells.lookup n).getD 0) ::acc else acc)
theorem ji{env:Env}:∀(names:List (Str × NameKind)) (acc:List (Str × Addr)),(∀y∈names,y.2= .free->∃c,env.cells.lookup y.1=some c)->
 (forIn names acc fun(x:Str × NameKind) (cs:List (Str × Addr))=>(match x with
   | (name,kind)=>if kind== .free then do let a <-cellOf env name;pure (ForInStep.yield ((name,a) ::cs)) else pure (ForInStep.yield cs):Sem (ForInStep (List (Str × Addr)))))=pure (kM env.cells names acc)
 | [],acc,_=>by simp [kM]
 | (n,k) ::r,acc,h=>by
   rw[List.forIn_cons];by_cases hk:k=NameKind.free
   .subst hk;obtain⟨c,hc⟩:=h (n, .free) List.mem_cons_self rfl;have e:cellOf env n=pure c:=by unfold cellOf;rw [hc]
    simp only[beq_self_eq_true,if_true,e,pure_bind,kM,hc,Option.getD_some];exact ji r _ fun y hy=>h y (List.mem_cons_of_mem _ hy)
   .have hb:(k==NameKind.free)=false:=by simpa using hk
    simp only[hb,Bool.false_eq_true,if_false,pure_bind,kM];exact ji r _ fun y hy=>h y (List.mem_cons_of_mem _ hy)
theorem jF{env:Env}{scope:Scope}(h:∀y∈scope.names,y.2= .free->∃c,env.cells.lookup y.1=some c):closureFor scope env=pure (kM env.cells scope.names []):=by
 unfold closureFor;have:=ji (env:=env) scope.names [] h;simp only[bind_pure];exact this
theorem gZ{cells:List (Str × Addr)}:∀(names:List (Str × NameKind)) (acc:List (Str × Addr)) {x:Str} {c:Addr},(kM cells names acc).lookup x=some c->
 acc.lookup x=some c\/((x,NameKind.free)∈names/\c=(cells.lookup x).getD 0)
 | [],acc,x,c,h=> .inl h
 | (n,k) ::r,acc,x,c,h=>by
   rcases gZ r _ h with q | ⟨q1,q2⟩
   .by_cases hk:k=NameKind.free
    .subst hk;simp only[beq_self_eq_true,if_true] at q;cases hx:x==n with
     | true=>
       have e:x=n:=by simpa using hx
       subst e;rw[List.lookup_cons,hx] at q;exact .inr ⟨List.mem_cons_self,(Option.some.inj q).symm⟩
     | false=>
       rw[List.lookup_cons,hx] at q;exact .inl q
    .have hb:(k==NameKind.free)=false:=by simpa using hk
     simp only[hb,Bool.false_eq_true,if_false] at q;exact .inl q
   .exact .inr ⟨List.mem_cons_of_mem _ q1,q2⟩
theorem tT{cells:List (Str × Addr)}:∀(names:List (Str × NameKind)) (acc:List (Str × Addr)) {x:Str},((x,NameKind.free)∈names\/∃c,acc.lookup x=some c)->∃c,(kM cells names acc).lookup x=some c
 | [],acc,x,h=>by
   rcases h with h | h
   .simp at h
   .exact h
 | (n,k) ::r,acc,x,h=>by
   refine tT r _ ?_;rcases h with h | ⟨c,h⟩
   .rcases List.mem_cons.mp h with e | e
    .cases e;exact .inr ⟨(cells.lookup n).getD 0,by simp [List.lookup_cons]⟩
    .exact .inl e
   .by_cases hk:k=NameKind.free
    .subst hk;simp only[beq_self_eq_true,if_true];cases hx:x==n with
     | true=>exact .inr ⟨(cells.lookup n).getD 0,by rw[List.lookup_cons,hx]⟩
     | false=>exact .inr ⟨c,by rw[List.lookup_cons,hx];exact h⟩
    .have hb:(k==NameKind.free)=false:=by simpa using hk
     simp only[hb,Bool.false_eq_true,if_false];exact .inr ⟨c,h⟩
theorem rj:∀(names:List (Str × NameKind)) (n:Nat) (acc:List (Str × Addr)) {x:Str},(x,NameKind.cell) ∉ names->(cellsFrom n names acc).lookup x=acc.lookup x
 | [],_,_,_,_=>rfl
 | (y,k) ::r,n,acc,x,h=>by
   unfold cellsFrom;split
   .rename_i hk;have hk:k= .cell:=by simpa using hk
    subst hk;rw[rj r _ _ fun z=>h (List.mem_cons_of_mem _ z),List.lookup_cons]
    cases hx:x==y with
    | true=>
      have e:x=y:=by simpa using hx
      subst e;exact absurd List.mem_cons_self h
    | false=>rfl
   .exact rj r _ _ fun z=>h (List.mem_cons_of_mem _ z)
theorem lr:∀(names:List (Str × NameKind)) (n:Nat) (acc:List (Str × Addr)),cellsFrom n names acc=cellsFrom n names []++acc
 | [],_,_=>rfl
 | (y,k) ::r,n,acc=>by
   unfold cellsFrom;split
   .rw [lr r (n+1) ((y,n) ::acc),lr r (n+1) [(y,n)],List.append_assoc];rfl
   .exact lr r n acc
theorem uY{a b:List (Str × Addr)}{c:Addr}(h:(a++b).lookup x=some c):(x,c)∈a\/b.lookup x=some c:=by
 induction a with
 | nil=>exact .inr h
 | cons y r ih=>
   obtain⟨n,v⟩:=y;rw[List.cons_append,List.lookup_cons] at h;cases hx:x==n with
   | true=>
     rw[hx] at h;have e:x=n:=by simpa using hx
     subst e;cases h;exact .inl List.mem_cons_self
   | false=>
     rw[hx] at h;exact(ih h).imp (List.mem_cons_of_mem _) id
theorem j7{a b:List (Str × Addr)}(h:∃c,b.lookup x=some c):∃c,(a++b).lookup x=some c:=by
 induction a with
 | nil=>exact h
 | cons y r ih=>
   rw[List.cons_append,List.lookup_cons];cases x==y.1 with
   | true=>exact⟨_,rfl⟩
   | false=>exact ih
theorem qY{a b:List (Str × Addr)}{c:Addr}(h:a.lookup x=some c):∃c,(a++b).lookup x=some c:=by
 induction a with
 | nil=>cases h
 | cons y r ih=>
   rw[List.cons_append,List.lookup_cons];rw[List.lookup_cons] at h;cases hx:x==y.1 with
   | true=>exact⟨_,rfl⟩
   | false=>rw [hx] at h;exact ih h
theorem qo{M:Model}{A:Around}{E:PQ}{s:Shared}{scope:Scope}{cl:List (Str × Addr)}{qual:Str}{env:Env}{Q:Env->Shared->Prop}(hQ:∀h',h'.Ns s.heap.objs.size (fun _=>none)->(∀b o,s.heap.get? b=some o->h'.get? b=some o)->CellsOk h' (s.heap.objs.size+1) (cellsFrom (s.heap.objs.size+1) scope.names [])->
 Q (newEnv scope s.heap.objs.size env.globals (cellsFrom (s.heap.objs.size+1) scope.names cl) qual none .none (some env) builtinsNs) {s with heap:=h'}) :
 wpAny M A (newFunctionEnv scope env.globals cl [] qual none .none (some env)) Q E s:=by
 simp only[newFunctionEnv,Option.isSome_some,if_true];refine wpAny_bind (wpAny_alloc ?_);refine wpAny_bind (wpAny_layCells _ (fun name kind cells=>by cases hkc:kind==NameKind.cell <;> simp [hkc]) _ _ _ _ ?_)
 have ok:=cellsFrom_ok scope.names (s.heap.push {cls:= .type "dict",data:= .dict #[]}) (s.heap.objs.size+1) [] ⟨fun _ _ hm=>(nomatch hm),List.Pairwise.nil⟩ (by rw[Heap.size_push];exact Nat.le_refl _)
 rw[Heap.size_push] at ok;rw[show({s with heap:=s.heap.push {cls:= .type "dict",data:= .dict #[]}}:Shared).heap.objs.size=s.heap.objs.size+1 from Heap.size_push ..]
 rw[List.forIn_nil];refine wpAny_bind (wpAny_pure (wpAny_pure ?_));exact hQ _ ((Heap.Ns.new s.heap (.type "dict")).keeps (pushCells_keeps _ _)) (fun b o e=>pushCells_keeps _ _ b o (Heap.get?_push_of_some _ e)) ok
def bF(X:Cx)(scope:Scope)(N':List Str)(fp:List Addr)(s:Shared)(H:Hp):Cx where
 prog:=X.prog
 w:=X.w
 K:=X.K
 mg:=X.mg
 base:=X.base
 A:=X.A
 N:=N'
 s₀:=s
 H₀:=H
 env:=compEnvC scope (cellsFrom (s.heap.objs.size+1) scope.names (kM X.env.cells scope.names [])) s.heap.objs.size X.env
 outer:=X.stack
 stack:=X.stack
 ex:=fp
 fn:=fun x=>scope.names.lookup x==some .cell
 calm:=X.calm
 pn:=[]
 xe:=fun _ _=>False
structure bz (X:Cx) (scope:Scope) (own:List Str) (kp:List Nat) (kn:List Str):Prop where
 kind:scope.kind= .function
 cel:∀y∈scope.names,y.2= .cell->scope.names.lookup y.1=some .cell
 nd:∀y∈scope.names,y.2= .local->scope.names.lookup y.1=some .local
 free:∀y∈scope.names,y.2= .free->X.env.kindOf y.1=some .cell\/X.env.kindOf y.1=some .free
 frl:∀y∈scope.names,y.2= .free->scope.names.lookup y.1=some .free
 names:kn.length=kp.length
 at_:∀(j i:Nat) (x:Str),kp[j]? =some i->kn[j]? =some x->X.N[i]? =some x
 isfree:∀x∈kn,scope.names.lookup x=some .free
def cR(own:List Str)(kp:List Nat)(σ:St):St:=List.replicate own.length none++kp.map fun i=>(σ[i]?).getD none
section
variable {X:Cx} {scope:Scope} {own:List Str} {kp:List Nat} {kn:List Str}
theorem dM{env:Env}:∀{names:List (Str × NameKind)} {x:Str} {k:NameKind},
 (names.map fun(n,k)=>if(k==NameKind.free && env.scope.kind== .function && env.kindOf n==some .cell) then(n,NameKind.cell) else(n,k)).lookup x=some k->
 names.lookup x=some k\/(k= .cell/\names.lookup x=some .free)
 | [],_,_,h=>by simp at h
 | (n,k) ::r,x,k',h=>by
   have ih:=@dM env r x k';have h:List.lookup x ((if(k==NameKind.free && env.scope.kind== .function && env.kindOf n==some .cell)=true then(n,NameKind.cell) else(n,k)) ::_)=some k':=h
   by_cases hc:(k==NameKind.free && env.scope.kind== .function && env.kindOf n==some .cell)=true
   .rw [if_pos hc] at h;have hkf:k= .free:=by
     simp only[Bool.and_eq_true,beq_iff_eq] at hc;exact hc.1.1
    cases hx:x==n with
    | true=>
      rw[List.lookup_cons,hx] at h;cases h;exact .inr ⟨rfl,by rw[List.lookup_cons,hx,hkf]⟩
    | false=>
      rw[List.lookup_cons,hx] at h;rw[List.lookup_cons,hx];exact ih h
   .rw [if_neg hc] at h;cases hx:x==n with
    | true=>
      rw[List.lookup_cons,hx] at h;rw[List.lookup_cons,hx];exact .inl h
    | false=>
      rw[List.lookup_cons,hx] at h;rw[List.lookup_cons,hx];exact ih h
theorem k_{pins:PM}{s:Shared}(C:bz X scope own kp kn)(I:Inv X pins σ H s):∀y∈scope.names,y.2= .free->∃c,X.env.cells.lookup y.1=some c:=fun y hy hf=>
 I.ok.has y.1 (C.free y hy hf)
theorem zB{pins:PM}{σ:St}{H:Hp}{s:Shared}{fp:List Addr}{i8:Heap}{tk:Nat}(C:bz X scope own kp kn)(I:Inv X pins σ H s)(hf:∀b∈fp,m6 X pins H b)(hb:∀b∈fp,b < s.heap.objs.size)
 (hn:i8.Ns s.heap.objs.size (fun _=>none)) (hk:∀b o,s.heap.get? b=some o->i8.get? b=some o) (hC:CellsOk i8 (s.heap.objs.size+1) (cellsFrom (s.heap.objs.size+1) scope.names [])):Inv (bF X scope (own++kn) fp s H) [] (cR own kp σ) H {s with heap:=i8,toks:=tk}:=by
 have cl:∀x c,(kM X.env.cells scope.names []).lookup x=some c->X.env.cells.lookup x=some c:=fun x c e=>by
  rcases gZ scope.names [] e with q | ⟨q1,q2⟩
  .simp at q
  .obtain⟨c',yh⟩:=k_ C I (x, .free) q1 rfl;have yh:X.env.cells.lookup x=some c':=yh;rw[yh] at q2;rw[yh,q2];rfl
 have clA:∀x c,(cellsFrom (s.heap.objs.size+1) scope.names (kM X.env.cells scope.names [])).lookup x=some c->(x,c)∈cellsFrom (s.heap.objs.size+1) scope.names []\/(kM X.env.cells scope.names []).lookup x=some c:=fun x c e=>by
  rw[lr] at e;exact uY e
 have old:∀x c,(kM X.env.cells scope.names []).lookup x=some c->c < s.heap.objs.size:=fun x c e=>by
  obtain⟨v,h⟩:=I.cell x c (cl x c e);exact h.lt
 have new:∀x c,(x,c)∈cellsFrom (s.heap.objs.size+1) scope.names []->s.heap.objs.size<=c:=fun x c e=>Nat.le_of_lt (hC.empty x c e).2
 have clh:∀x,scope.names.lookup x=some .free->∃c,(kM X.env.cells scope.names []).lookup x=some c:=fun x hx=>tT scope.names [] (.inl (PySem.mem_of_lookup hx))
 refine⟨⟨I.ok.mod,C.kind,I.ok.glob,I.ok.blt,Nat.le_refl _,fun x y c h1 h2=>?inj,fun x hx=>?_,fun x c hn h=>?cab,I.ok.hd,I.ok.frames, .inl rfl,fun b r_=>⟨Nat.ne_of_lt (hb b r_),fun x c e z=>?exf⟩,
  fun b o e=>I.bs b o e,Nat.le_trans I.ok.bsz I.sz,fun b o e r_=>?_,fun b r_ hs=>?_,I.stack,I.we⟩,
  rfl,I.bare,Un.kept hk,⟨_,hn,fun i x v h1 h2 h3=>?_⟩,fun x c e=>?_,I.hok.fresh (Nat.le_refl _),fun x c e=>?frc,fun p hp=>(by cases hp),I.hok.kept hk,?_⟩
 case inj=>
  rcases clA x c h1 with a | a <;> rcases clA y c h2 with b | b
  .exact name_of_addr hC.apart a b
  .exact absurd (Nat.lt_of_lt_of_le (old y c b) (new x c a)) (Nat.lt_irrefl _)
  .exact absurd (Nat.lt_of_lt_of_le (old x c a) (new y c b)) (Nat.lt_irrefl _)
  .exact I.ok.inj x y c (cl x c a) (cl y c b)
 case cab=>
  have hn:(scope.names.lookup x==some .cell)=true:=hn;rcases clA x c h with a | a
  .exact new x c a
  .rcases gZ scope.names [] a with q | ⟨q1,q2⟩
   .simp at q
   .have hx:scope.names.lookup x=some .cell:=by simpa using hn
    have h7:scope.names.lookup x=some .free:=C.frl _ q1 rfl;rw[hx] at h7;cases h7
 case exf=>
  rcases clA x c e with a | a
  .subst z;exact absurd (Nat.lt_of_lt_of_le (hb _ r_) (new x _ a)) (Nat.lt_irrefl _)
  .exact(hf b r_).2.2.2.2.1 x c (cl x c a) z
 case frc=>
  rcases clA x c e with a | a
  .exact I.hok.fresh (new x c a)
  .exact I.freeC x c (cl x c a)
 .have hx:(relabel scope X.env).names.lookup x=some .cell\/(relabel scope X.env).names.lookup x=some .free:=hx;show ∃c,(cellsFrom (s.heap.objs.size+1) scope.names (kM X.env.cells scope.names [])).lookup x=some c;rcases hx with hx | hx
  .rcases dM hx with q | ⟨_,q⟩
   .rw [lr];obtain⟨c,hc⟩:=oy (n:=s.heap.objs.size+1) q;exact qY hc
   .rw [lr];exact j7 (clh x q)
  .rcases dM hx with q | ⟨q,_⟩
   .rw [lr];exact j7 (clh x q)
   .cases q
 .rcases(hf b r_).2.2.2.1 with z | z
  .exact I.ok.noex b o e z
  .exact absurd (Nat.lt_of_lt_of_le (Heap.lt_size (I.ok.bs b o e).1) z) (Nat.lt_irrefl _)
 .rcases List.mem_cons.mp (I.uu b hs) with z | z
  .exact(hf b r_).2.1 z
  .exact(hf b r_).2.2.1 z
 .-- a kept name
  have h1:(own++kn)[i]? =some x:=h1;have h2:(cR own kp σ)[i]? =some (some v):=h2;unfold cR at h2;by_cases hi:i < own.length
  .rw [List.getElem?_append_left (by simpa using hi),List.getElem?_replicate] at h2
   split at h2 <;> cases h2
  .rw [List.getElem?_append_right (by simpa using hi),List.length_replicate,List.getElem?_map] at h2
   rw[List.getElem?_append_right (by simpa using hi)] at h1
   cases e:kp[i - own.length]? with
   | none=>rw [e] at h2;cases h2
   | some j=>
     rw[e] at h2;have h2:(σ[j]?).getD none=some v:=Option.some.inj h2;have hj:X.N[j]? =some x:=C.at_ _ j x e h1;have CS:σ[j]? =some (some v):=by
      cases q:σ[j]? with
      | none=>rw [q] at h2;cases h2
      | some y=>rw [q] at h2;exact congrArg some h2
     have hfree:scope.names.lookup x=some .free:=C.isfree x (List.mem_of_getElem? h1);have hkind:=C.free (x, .free) (PySem.mem_of_lookup hfree) rfl;obtain⟨m,hm,hl⟩:=I.loc;obtain⟨u,r,l⟩:=hl j x v hj CS (hkind.elim (fun q=>Or.inr (Or.inl q)) fun q=>Or.inr (Or.inr q))
     refine⟨u,r, .inr ⟨?_,?_⟩⟩
     .have h3:(relabel scope X.env).names.lookup x=some .local\/(relabel scope X.env).names.lookup x=some .cell\/(relabel scope X.env).names.lookup x=some .free:=h3;rcases h3 with q | q | q
      .rcases dM q with z | ⟨z,_⟩
       .rw [hfree] at z;cases z
       .cases z
      .exact .inl q
      .exact .inr q
     .rcases l with⟨k,_⟩ | ⟨_,c,hc,hcell⟩
      .rcases hkind with q | q
       .rw [show X.env.kindOf x=some .cell from q] at k;cases k
       .rw [show X.env.kindOf x=some .free from q] at k;cases k
      .obtain⟨c',yh⟩:=clh x hfree;have:=cl x c' yh;rw[hc] at this;cases this;obtain⟨o,ho,hd⟩:=hcell;exact⟨c,(rj _ _ _ fun z=>by have:=C.cel _ z rfl;rw [hfree] at this;cases this).trans yh,o,hk c o ho,hd⟩
 .rcases clA x c e with a | a
  .exact⟨_,(hC.empty x c a).1⟩
  obtain⟨v,o,ho,hd⟩:=I.cell x c (cl x c a);exact⟨v,o,hk c o ho,hd⟩
 .show(cR own kp σ).length=(own++kn).length;unfold cR;rw[List.length_append,List.length_replicate,List.length_map,List.length_append,C.names]
theorem oI{pins:PM}{s s':Shared}{fp:List Addr}{N':List Str}(I:Inv X pins σ H s)(hf:∀b∈fp,m6 X pins H b)(J:Inv (bF X scope N' fp s H) [] cN H' s'):Inv X pins σ H' s':=
 I.G9 (ch:=fp) J.os J.base J.hok J.bare fun b hb=>⟨(hf b hb).2.2.2.1,(hf b hb).2.1,(hf b hb).2.2.2.2.1,(hf b hb).2.2.2.2.2⟩
end
def mi(X:Cx)(ifs:List Expr)(t:TT):Prop:=
 ∀(pins:PM) (s:Shared) (σ:St) (H:Hp) (Q:Bool->Hp->Prop),Inv X pins σ H s->t σ H Q->
  wpAny (model X.prog X.w) X.A (forIn ifs true fun c r=>if r=true then do let ok <-isTrue c X.env (eval c X.env);pure (ForInStep.yield ok) else pure (ForInStep.yield r)) (TP X pins σ Q) X.xe s
def Kh:TT:=fun _ H Q=>Q true H
theorem sL{X:Cx}:mi X [] Kh:=fun _ _ _ H _ I h=>wpAny_tests_nil ⟨H,I,h⟩
theorem t5{X:Cx}{t:TT}(h:PT X c t):mi X [c] t:=fun pins s σ H Q I hq=>wpAny_tests_one (h pins s σ H Q I hq)
def wF(wi:TI)(g:TG)(tc:TT)(te:TE)(own:List Str)(kp:List Nat):TE:=fun σ H Q=>wi σ H fun J H1=>∀D,H1 D=none->
 ∃W:Nat->Nat->List V->Hp->Prop,(∃m,W 0 m [] (upd H1 D (.lst [])))/\∀i m ys H,W i m ys H->
  (J.stop i H/\Q (.ref D) H)\/(J.go i H/\∀x H',J.yld i H x H'->g x (cR own kp σ) H' fun r9 H2=>tc r9 H2 fun c H3=>
    if c=true then te r9 H3 fun y H4=>H4 D=some (.lst ys)/\ys.length < sizeLine/\∃m',m' < m/\W (i+1) m' (ys++[y]) (upd H4 D (.lst (ys++[y])))
    else ∃m',m' < m/\W (i+1) m' ys H3)
section
variable {X:Cx} {scope:Scope} {own:List Str} {kp:List Nat} {kn:List Str} {tg iter elt:Expr} {ifs:List Expr} {wi:TI} {g:TG} {tc:TT} {te:TE} {pos:Pos}
theorem t4{pins:PM}{σ:St}{H:Hp}{s:Shared}{fp:List Addr}{it D:Addr}{tn:Nat->Heap->Prop}{J:It}{Q:VK}{i8:Heap}{tk:Nat}{R:Result->Shared->Prop}
 (hc:X.calm=true) (C:bz X scope own kp kn) (I:Inv X pins σ H s) (hf:∀b∈fp,m6 X pins H b) (hb:∀b∈fp,b < s.heap.objs.size) (T:Turn X.prog X.w X.K tg J fp it tn)
 (hg:PG (bF X scope (own++kn) fp s H) tg g) (hi:mi (bF X scope (own++kn) fp s H) ifs tc) (he:PE (bF X scope (own++kn) fp s H) elt te)
 (hn:i8.Ns s.heap.objs.size (fun _=>none)) (hk:∀b o,s.heap.get? b=some o->i8.get? b=some o) (hC:CellsOk i8 (s.heap.objs.size+1) (cellsFrom (s.heap.objs.size+1) scope.names [])) (st:tn 0 s.heap)
 (W:Nat->Nat->List V->Hp->Prop) (w0:∃m,W 0 m [] H)
 (turn:∀i m ys H,W i m ys H->
   (J.stop i H/\Q (.ref D) H)\/(J.go i H/\∀x H',J.yld i H x H'->g x (cR own kp σ) H' fun r9 H2=>tc r9 H2 fun c H3=>
     if c=true then te r9 H3 fun y H4=>H4 D=some (.lst ys)/\ys.length < sizeLine/\∃m',m' < m/\W (i+1) m' (ys++[y]) (upd H4 D (.lst (ys++[y])))
     else ∃m',m' < m/\W (i+1) m' ys H3))
 (hR:∀H' s' cN,Inv (bF X scope (own++kn) fp s H) [] cN H' s'->Q (.ref D) H'->R (.ok .next) s') :
 codeAny (model X.prog X.w) X.A (.compStart (.ListComp elt [⟨tg,iter,ifs,0⟩] scope pos) 0 (.ref it) (.ref D) (bF X scope (own++kn) fp s H).env) R {s with heap:=i8,toks:=tk}:=by
 have I1:Inv (bF X scope (own++kn) fp s H) [] (cR own kp σ) H {s with heap:=i8,toks:=tk}:=zB C I hf hb hn hk hC
 have Mc:tn 0 i8:=T.keep _ _ _ st fun b _ o e=>hk b o e
 have fp1:∀{H':Hp} {p:PM},(∀b∈fp,H' b=none)->(∀b∈fp,∀q∈p,q.1≠b)->∀b∈fp,m6 (bF X scope (own++kn) fp s H) p H' b:=fun {H' p} hn hp b r_=>
  ⟨hn b r_,(I1.ok.exf b r_).1,I1.ok.exfs b r_, .inl r_,fun x c e=>(I1.ok.exf b r_).2 x c e,fun q hq=>hp b r_ q hq⟩
 obtain⟨m0,w0⟩:=w0;have loop:codeAny (model X.prog X.w) X.A (.compLoop (.ListComp elt [⟨tg,iter,ifs,0⟩] scope pos) 0 (.ref it) (.ref D) (bF X scope (own++kn) fp s H).env) R {s with heap:=i8,toks:=tk}:=by
  refine codeAny_loop rfl (fun n s'=>∃i ys H',Inv (bF X scope (own++kn) fp s H) [] (cR own kp σ) H' s'/\tn i s'.heap/\(∀b∈fp,H' b=none)/\W i n ys H') (fun n s' hI=>?_) m0 ⟨0,[],H,I1,Mc,fun b r_=>(hf b r_).1,w0⟩
  obtain⟨i,ys,H3,I3,CV,H0,w3⟩:=hI;show wpAny _ _ ((compTurn (.ListComp elt [⟨tg,iter,ifs,0⟩] scope pos) 0 (.ref it) (.ref D) (bF X scope (own++kn) fp s H).env).onRaise (fun x=>do noteFrame x (bF X scope (own++kn) fp s H).env;theTreesLotGoes x)) _ _ s'
  refine wpAny_noted (wpAny_noRaise ?_);rw[compTurn_list];refine wpAny_bind (wpAny_standAt (wpAny_bind ?_));rcases turn i n ys H3 w3 with⟨stop,q⟩ | ⟨go,step⟩
  .refine dG (T.done (bF X scope (own++kn) fp s H) rfl rfl rfl hc i [] s' _ H3 _ I3 (fp1 H0 (fun _ _ q hq=>by cases hq)) CV stop) fun r s4 ⟨hr,I4⟩=>?_
   subst hr;exact wpAny_pure (hR H3 s4 _ I4 q)
  .refine dG (T.item (bF X scope (own++kn) fp s H) rfl rfl rfl hc i [] s' _ H3 _ I3 (fp1 H0 (fun _ _ q hq=>by cases hq)) CV go) fun r s4 ⟨u,hr,h4⟩=>?_
   subst hr;refine wpAny_bind (dG h4 fun _ s5 ⟨x,H5,I5,r5,y5,FP,Kv⟩=>?_)
   have I5':=I5.pinned (fp1 Kv (fun _ _ q hq=>by cases hq)) (T.obj _ _ FP)
   have keepIt:∀{uh:St} {H7:Hp} {s7:Shared},Inv (bF X scope (own++kn) fp s H) ([]++la fp s5.heap) uh H7 s7->tn (i+1) s7.heap/\∀b∈fp,H7 b=none:=fun {uh H7 s7} I7=>by
    refine⟨T.keep _ _ _ FP fun b hb o e=>(I7.pin (b,o) (List.mem_append_right _ (List.mem_append_right _ (jd hb e)))).1,fun b hb=>?_⟩
    obtain⟨o,e,d⟩:=T.obj _ _ FP b hb;exact(I7.pin (b,o) (List.mem_append_right _ (List.mem_append_right _ (jd hb e)))).2.1
   have reset:∀{uh:St} {H7:Hp} {s7:Shared},Inv (bF X scope (own++kn) fp s H) ([]++la fp s5.heap) uh H7 s7->Inv (bF X scope (own++kn) fp s H) [] (cR own kp σ) H7 s7:=fun {uh H7 s7} I7=>by
    have I8:=I7.lX;have hun:Un (yd X.stack) fp H H7 s.heap s7.heap:=I8.base;have I9:Inv X pins σ H7 s7:=oI I hf I8;refine⟨I8.ok,I8.os,I8.bare,I8.base,?_,I8.cell,I8.free,I8.freeC,I8.pin,I8.hok,I1.len⟩;obtain⟨m,hm,_⟩:=I8.loc;refine⟨m,hm,fun i x v h1 h2 h3=>?_⟩
    obtain⟨m1,Po,Gs⟩:=I1.loc;obtain⟨u1,r1,l1⟩:=Gs i x v h1 h2 h3;have h1:(own++kn)[i]? =some x:=h1;have h2:(cR own kp σ)[i]? =some (some v):=h2;unfold cR at h2;by_cases hi:i < own.length
    .rw [List.getElem?_append_left (by simpa using hi),List.getElem?_replicate] at h2
     split at h2 <;> cases h2
    .rw [List.getElem?_append_right (by simpa using hi),List.length_replicate,List.getElem?_map] at h2
     rw[List.getElem?_append_right (by simpa using hi)] at h1
     cases e:kp[i - own.length]? with
     | none=>rw [e] at h2;cases h2
     | some j=>
       rw[e] at h2;have h2:(σ[j]?).getD none=some v:=Option.some.inj h2;have hj:X.N[j]? =some x:=C.at_ _ j x e h1;have CS:σ[j]? =some (some v):=by
        cases q:σ[j]? with
        | none=>rw [q] at h2;cases h2
        | some y=>rw [q] at h2;exact congrArg some h2
       have hfree:scope.names.lookup x=some .free:=C.isfree x (List.mem_of_getElem? h1);have hkind:=C.free (x, .free) (PySem.mem_of_lookup hfree) rfl;obtain⟨m9,Pt,OM⟩:=I9.loc;obtain⟨u,r,l⟩:=OM j x v hj CS (hkind.elim (fun q=>Or.inr (Or.inl q)) fun q=>Or.inr (Or.inr q))
       refine⟨u,r, .inr ?_⟩;rcases l1 with⟨k,k2⟩ | ⟨k,c,hc,hcell⟩
       .have k:(relabel scope X.env).names.lookup x=some .local:=k;rcases dM k with z | ⟨z,_⟩
        .rw [hfree] at z;cases z
        .cases z
       .refine⟨k,c,hc,?_⟩;rcases l with⟨k',_⟩ | ⟨_,c',yh,FL⟩
        .rcases hkind with q | q
         .rw [show X.env.kindOf x=some .cell from q] at k';cases k'
         .rw [show X.env.kindOf x=some .free from q] at k';cases k'
        .have FU:(kM X.env.cells scope.names []).lookup x=some c:=(rj _ _ _ fun z=>by have:=C.cel _ z rfl;rw [hfree] at this;cases this).symm.trans hc
         rcases gZ scope.names [] FU with q | ⟨q1,q2⟩
         .simp at q
         .rw [yh] at q2;have q2:c=c':=q2;rw[q2];exact FL
   have hmm:=hg ([]++la fp s5.heap) s5 (cR own kp σ) H5 x u _ I5' r5 (step x H5 y5);refine wpAny_bind (dG hmm fun _ s6 ⟨H_,H6,I6,q6⟩=>?_)
   refine wpAny_bind (dG (hi _ s6 H_ H6 _ I6 q6) fun ok s7 ⟨H7,I7,q7⟩=>?_)
   cases ok with
   | false=>
     simp only[Bool.false_eq_true,if_false] at q7 ⊢;obtain⟨m',FJ,w7⟩:=q7;obtain⟨a1,a2⟩:=keepIt I7;exact wpAny_pure ⟨rfl,m',FJ,i+1,ys,H7,reset I7,a1,a2,w7⟩
   | true=>
     simp only[if_true] at q7 ⊢;refine wpAny_bind (wpAny_bind (dG (he _ s7 H_ H7 _ I7 q7) fun yv s8 ⟨y,H8,I8,r8,hD,hlt,m',FJ,w8⟩=>wpAny_bind ?_))
     obtain⟨a1,a2⟩:=keepIt I8;refine dG (qi _ s8 H_ H8 (.ref D) [y] (.ref D) [yv] (fun v H9=>v= .cL/\H9=upd H8 D (.lst (ys++[y]))) I8 rfl (.cons r8 .nil) ⟨D,ys,y,rfl,rfl,hD,hlt,rfl,rfl⟩) fun _ s9 ⟨v9,H9,I9,_,_,e9⟩=>?_
     subst e9;obtain⟨b1,b2⟩:=keepIt I9;exact wpAny_pure (wpAny_pure ⟨rfl,m',FJ,i+1,ys++[y],_,reset I9,b1,b2,w8⟩)
 exact codeAny_compStart_list loop (T.self _ _ _ _ _ Mc loop)
theorem vW(hc:X.calm=true)(C:bz X scope own kp kn)(hi:PI X tg iter wi)(hg:∀fp s H,PG (bF X scope (own++kn) fp s H) tg g)(AJ:∀fp s H,mi (bF X scope (own++kn) fp s H) ifs tc)
 (he:∀fp s H,PE (bF X scope (own++kn) fp s H) elt te) (hs:∀x,foldedSetIterable iter X.env x=pure x:=by intro _;rfl):PE X (.ListComp elt [⟨tg,iter,ifs,0⟩] scope pos) (wF wi g tc te own kp):=by
 intro pins s σ H Q I h;rw[eval_ListComp];refine wpAny_comprehension_free (use:=none) rfl hs (jF (k_ C I)) C.kind C.nd (dG (hi pins s σ H _ I h) fun v s1 h1=>dG h1 fun IQ s2 h2=>?_)
 obtain⟨it,fp,tn,J,H2,e,I2,T,FQ,f2,q⟩:=h2;subst e;refine wpAny_newObj_type ?_;have I3:Inv X pins σ (upd H2 s2.heap.objs.size (.lst [])) {s2 with heap:=s2.heap.push {cls:= .type "list",dict:=none,data:= .seq ([]:List Value).toArray}}:=I2.Bx (its:=[]) (t':=s2.toks) .nil (Nat.zero_le _)
 obtain⟨W,w0,turn⟩:=q s2.heap.objs.size I2.fresh;have fne:∀b∈fp,b < s2.heap.objs.size:=fun b hb=>let⟨o,e,_⟩:=T.obj _ _ FQ b hb;Heap.lt_size e
 have f3:∀b∈fp,m6 X pins (upd H2 s2.heap.objs.size (.lst [])) b:=fun b hb=>⟨by rw[ba (Nat.ne_of_lt (fne b hb))];exact(f2 b hb).1,(f2 b hb).2⟩
 generalize hs3:({s2 with heap:=s2.heap.push {cls:= .type "list",dict:=none,data:= .seq ([]:List Value).toArray}}:Shared)=s3 at I3 ⊢
 have CV:tn 0 s3.heap:=by rw[<-hs3];exact T.keep _ _ _ FQ fun b _ o e=>Heap.get?_push_of_some _ e
 have fne3:∀b∈fp,b < s3.heap.objs.size:=fun b hb=>by rw[<-hs3];exact Nat.lt_of_lt_of_le (fne b hb) (by rw[Heap.size_push];exact Nat.le_succ _)
 refine qo fun i8 vp hk hC=>?_
 refine t4 (D:=s2.heap.objs.size) hc C I3 f3 fne3 T (hg fp s3 _) (AJ fp s3 _) (he fp s3 _) vp hk hC CV W w0 turn fun H' s' cN J' hq=>?_
 have B:=oI I3 f3 J';obtain⟨m',FJ,_⟩:=J'.loc;refine⟨m',FJ,fun h' sb=>⟨.ref s2.heap.objs.size,H',?_,rfl,hq⟩⟩
 have fC:=I3.uW (H':=H') (b:=s3.heap.objs.size) (Nat.le_refl _) J'.free;exact B.turned (it:=s3.heap.objs.size) (t':=s'.toks) (fun b o hb e=>(sb.2 b hb).trans e) fC.1 fC.2.1 fC.2.2.2.1 fC.2.2.2.2.1 fC.2.2.2.2.2
theorem uo{i:Nat}{x:Str}{pos' Aw:Pos}(hc:X.calm=true)(hN:X.N.Nodup)(hx:X.N[i]? =some x)(Il:X.env.scope.names.lookup x=some .local)(C:bz X scope own kp kn)(hi:PI X tg iter wi)
 (hg:∀fp s H,PG (bF X scope (own++kn) fp s H) tg g) (AJ:∀fp s H,mi (bF X scope (own++kn) fp s H) ifs tc)
 (he:∀fp s H,PE (bF X scope (own++kn) fp s H) elt te)
 (x_:swapsWith (.ListComp elt [⟨tg,iter,ifs,0⟩] scope pos) (some (.Name x pos')) Aw.line X.env=pure true:=by rfl)
 (hs:∀x,foldedSetIterable iter X.env x=pure x:=by intro _;rfl) :
 PS X (.Assign [.Name x pos'] (.ListComp elt [⟨tg,iter,ifs,0⟩] scope pos) Aw) (Ak (wF wi g tc te own kp) (oJ i)):=by
 intro pins s σ H D I h;rw[exec_Assign_Name_used _ _ _ _ x_];refine wpAny_bind (wpAny_standAt (wpAny_bind ?_));show wpAny _ X.A (do let _ <-comprehension (.ListComp elt [⟨tg,iter,ifs,0⟩] scope pos) scope X.env _ (newList []) false (eval iter X.env) (some (assign (.Name x pos') X.env))) _ _ s
 refine wpAny_bind (wpAny_mono (wpAny_comprehension_free (use:=some (assign (.Name x pos') X.env)) (Q:=fun _ s'=>SP X pins D .next s') rfl hs (jF (k_ C I)) C.kind C.nd
  (dG (hi pins s σ H _ I h) fun v s1 h1=>dG h1 fun IQ s2 h2=>?_)) (fun _ s' hq=>wpAny_pure (wpAny_pure hq)) fun _ _ e=>e)
 obtain⟨it,fp,tn,J,H2,e,I2,T,FQ,f2,q⟩:=h2;subst e;refine wpAny_newObj_type ?_;have I3:Inv X pins σ (upd H2 s2.heap.objs.size (.lst [])) {s2 with heap:=s2.heap.push {cls:= .type "list",dict:=none,data:= .seq ([]:List Value).toArray}}:=I2.Bx (its:=[]) (t':=s2.toks) .nil (Nat.zero_le _)
 obtain⟨W,w0,turn⟩:=q s2.heap.objs.size I2.fresh;have fne:∀b∈fp,b < s2.heap.objs.size:=fun b hb=>let⟨o,e,_⟩:=T.obj _ _ FQ b hb;Heap.lt_size e
 have f3:∀b∈fp,m6 X pins (upd H2 s2.heap.objs.size (.lst [])) b:=fun b hb=>⟨by rw[ba (Nat.ne_of_lt (fne b hb))];exact(f2 b hb).1,(f2 b hb).2⟩
 generalize hs3:({s2 with heap:=s2.heap.push {cls:= .type "list",dict:=none,data:= .seq ([]:List Value).toArray}}:Shared)=s3 at I3 ⊢
 have CV:tn 0 s3.heap:=by rw[<-hs3];exact T.keep _ _ _ FQ fun b _ o e=>Heap.get?_push_of_some _ e
 have fne3:∀b∈fp,b < s3.heap.objs.size:=fun b hb=>by rw[<-hs3];exact Nat.lt_of_lt_of_le (fne b hb) (by rw[Heap.size_push];exact Nat.le_succ _)
 refine qo fun i8 vp hk hC=>?_
 refine t4 (Q:=fun x H1=>oJ i x σ H1 D.nx) (D:=s2.heap.objs.size) hc C I3 f3 fne3 T (hg fp s3 _) (AJ fp s3 _) (he fp s3 _) vp hk hC CV W w0 turn fun H' s' cN J' hq=>?_
 have B:=oI I3 f3 J';obtain⟨m',FJ,_⟩:=J'.loc;have fC:=I3.uW (H':=H') (b:=s3.heap.objs.size) (Nat.le_refl _) J'.free;show wpAny _ X.A (assign (.Name x pos') X.env (.ref s2.heap.objs.size)) _ _ s';refine wpAny_assign_Name (qu B hN hx (.inl Il) (v:= .ref s2.heap.objs.size) rfl (fun s4 I4 ⟨a,sb,ha⟩=>?_) (.inr Il))
 have ha':s3.heap.objs.size≠a:=by
  rcases ha with rfl | z
  .exact fC.2.1
  .exact fun e=>fC.2.2.2.2.1 x a z e.symm
 refine⟨m',FJ.sameBut sb ha',fun h' Og=>⟨_,H',?_,hq⟩⟩
 exact I4.turned (it:=s3.heap.objs.size) (t':=s4.toks) (fun b o hb e=>(Og.2 b hb).trans e) fC.1 fC.2.1 fC.2.2.2.1 fC.2.2.2.2.1 fC.2.2.2.2.2
end
end L2
end
section
namespace L2
open PySem PySem.Spec PyProof.Rows
inductive D where
 | cL | bl (b:Bool) | int (i:Int) | str (x:Str) | lst (ds:List D) | tup (ds:List D) | dct (ks:List Key) (ds:List D)
inductive R (α:Type) where
 | ok (a:α) | ex (c:Nat) | no
def R.bind{α β:Type}:R α->(α->R β)->R β
 | .ok a,f=>f a
 | .ex c,_=> .ex c
 | .no,_=> .no
theorem R.ao{α β:Type}{r:R α}{f:α->R β}{b:β}(h:r.bind f= .ok b):∃a,r= .ok a/\f a= .ok b:=by
 cases r with
 | ok a=>exact⟨a,rfl,h⟩
 | ex c=>cases h
 | no=>cases h
@[simp] theorem R.aX{α β:Type}(a:α)(f:α->R β):(R.ok a).bind f=f a:=rfl
def R.a_{α:Type}(c:Bool)(r:R α):R α:=if c then r else .no
theorem R.bj{α:Type}{c:Bool}{r:R α}{a:α}(h:R.a_ c r= .ok a):c=true/\r= .ok a:=by
 cases c with
 | true=>exact⟨rfl,h⟩
 | false=>cases h
@[simp] theorem R.F_{α:Type}(r:R α):R.a_ true r=r:=rfl
def se(K:W.Frag)(B:List Addr)(H:Hp)(a:Addr)(xs:List V):Prop:=
 (a ∉ B/\Rd H a (.lst xs))\/∃(its:List Value) (n:Nat),K.lookup a=some {cls:= .type "list",data:= .seq its.toArray n}/\xs.length<=sizeLine/\Vals xs its
def uj(K:W.Frag)(B:List Addr)(H:Hp)(a:Addr)(xs:List V):Prop:=
 (a ∉ B/\Rd H a (.tup xs))\/∃(o:Obj) (its:Array Value) (n:Nat),K.lookup a=some o/\o.cls= .type "tuple"/\o.data= .seq its n/\its.size<=sizeLine/\Vals xs its.toList
theorem se.sq{K:W.Frag}{B:List Addr}{a:Addr}{xs:List V}(h:se K B H a xs):lE K H a xs:=by
 rcases h with z | ⟨its,n,hk,hz,r⟩
 .exact .inl z.2
 .exact .inr ⟨_,its.toArray,n,hk,rfl,rfl,rfl,by rw[List.size_toArray,<-r.length];exact hz,by simpa using r⟩
theorem uj.sq{K:W.Frag}{B:List Addr}{a:Addr}{xs:List V}(h:uj K B H a xs):nh K H a xs:=h.elim (fun z=> .inl z.2) .inr
mutual
def Rep(K:W.Frag)(B:List Addr)(H:Hp):D->V->Prop
 | .cL,v=>v= .cL
 | .bl b,v=>v= .bl b
 | .int i,v=>v= .int i
 | .str x,v=>v= .str x
 | .lst ds,v=>∃a xs,v= .ref a/\se K B H a xs/\aC K B H ds xs
 | .tup ds,v=>∃a xs,v= .ref a/\uj K B H a xs/\aC K B H ds xs
 | .dct ks ds,v=>∃(a:Addr) (kvs:List (Key × V)),v= .ref a/\(a ∉ B/\H a=some (.dK kvs))/\kvs.map (·.1)=ks/\aC K B H ds (kvs.map (·.2))
def aC(K:W.Frag)(B:List Addr)(H:Hp):List D->List V->Prop
 | [],xs=>xs=[]
 | d ::ds,xs=>∃x r,xs=x ::r/\Rep K B H d x/\aC K B H ds r
end
def cZ(B:List Addr)(H:Hp)(B':List Addr)(H':Hp):Prop:=∀b o,H b=some o->b ∉ B->H' b=some o/\b ∉ B'
theorem cZ.rd{B B':List Addr}(p:cZ B H B' H'){a:Addr}{u:HO}(h:Rd H a u)(n:a ∉ B):Rd H' a u/\a ∉ B':=by
 rcases h with e | ⟨o,e⟩
 .exact⟨.inl (p a _ e n).1,(p a _ e n).2⟩
 .exact⟨.inr ⟨o,(p a _ e n).1⟩,(p a _ e n).2⟩
theorem cZ.trans{B B' Ib:List Addr}(p:cZ B H B' H')(q:cZ B' H' Ib lF):cZ B H Ib lF:=fun b o e n=>
 let⟨e1,n1⟩:=p b o e n;q b o e1 n1
theorem cZ.same{B:List Addr}(s:aP H H'):cZ B H B H':=fun b o e n=>⟨s b o e,n⟩
theorem cZ.refl(B:List Addr)(H:Hp):cZ B H B H:=cZ.same (aP.refl H)
theorem se.a0{K:W.Frag}{B B':List Addr}(p:cZ B H B' H'){a:Addr}{xs:List V}(l:se K B H a xs):se K B' H' a xs:=
 l.elim (fun z=> .inl ⟨(p.rd z.2 z.1).2,(p.rd z.2 z.1).1⟩) .inr
mutual
theorem Rep.a0{K:W.Frag}{B B':List Addr}(p:cZ B H B' H'):∀{d:D} {v:V},Rep K B H d v->Rep K B' H' d v
 | .cL,_,h=>h
 | .bl _,_,h=>h
 | .int _,_,h=>h
 | .str _,_,h=>h
 | .lst ds,v,h=>by
   unfold Rep at h ⊢;obtain⟨a,xs,e,l,r⟩:=h;exact⟨a,xs,e,l.a0 p,aC.a0 p r⟩
 | .tup ds,v,h=>by
   unfold Rep at h ⊢;obtain⟨a,xs,e,l,r⟩:=h;exact⟨a,xs,e,l.elim (fun z=> .inl ⟨(p.rd z.2 z.1).2,(p.rd z.2 z.1).1⟩) .inr,aC.a0 p r⟩
 | .dct ks ds,v,h=>by
   unfold Rep at h ⊢;obtain⟨a,kvs,e,⟨n,l⟩,k,r⟩:=h;exact⟨a,kvs,e,⟨(p a _ l n).2,(p a _ l n).1⟩,k,aC.a0 p r⟩
theorem aC.a0{K:W.Frag}{B B':List Addr}(p:cZ B H B' H'):∀{ds:List D} {xs:List V},aC K B H ds xs->aC K B' H' ds xs
 | [],_,h=>h
 | d ::ds,xs,h=>by
   unfold aC at h ⊢;obtain⟨x,r,e,h1,h2⟩:=h;exact⟨x,r,e,Rep.a0 p h1,aC.a0 p h2⟩
end
theorem Rep.same{K:W.Frag}{B:List Addr}{d:D}{v:V}(h:Rep K B H d v)(s:aP H H'):Rep K B H' d v:=h.a0 (cZ.same s)
theorem aC.same{K:W.Frag}{B:List Addr}{d:List D}{v:List V}(h:aC K B H d v)(s:aP H H'):aC K B H' d v:=h.a0 (cZ.same s)
theorem aC.nil{K:W.Frag}{B:List Addr}:aC K B H [] []:=by unfold aC;rfl
theorem aC.cons{K:W.Frag}{B:List Addr}{d:D}{ds:List D}{x:V}{xs:List V}(h:Rep K B H d x)(t:aC K B H ds xs):aC K B H (d ::ds) (x ::xs):=by
 unfold aC;exact⟨x,xs,rfl,h,t⟩
theorem aC.bW{K:W.Frag}{B:List Addr}{d:D}{ds:List D}{xs:List V}(h:aC K B H (d ::ds) xs):∃x r,xs=x ::r/\Rep K B H d x/\aC K B H ds r:=by
 unfold aC at h;exact h
theorem aC.length{K:W.Frag}{B:List Addr}:∀{ds:List D} {xs:List V},aC K B H ds xs->ds.length=xs.length
 | [],_,h=>by unfold aC at h;rw [h];rfl
 | d ::ds,xs,h=>by
   obtain⟨x,r,rfl,_,h2⟩:=h.bW;simp [h2.length]
theorem aC.get{K:W.Frag}{B:List Addr}:∀{ds:List D} {xs:List V} {i:Nat} {d:D},aC K B H ds xs->ds[i]? =some d->∃x,xs[i]? =some x/\Rep K B H d x
 | [],_,_,_,_,e=>by simp at e
 | d ::ds,xs,0,d',h,e=>by
   obtain⟨x,r,rfl,h1,h2⟩:=h.bW;simp at e;subst e;exact⟨x,rfl,h1⟩
 | d ::ds,xs,i+1,d',h,e=>by
   obtain⟨x,r,rfl,h1,h2⟩:=h.bW;obtain⟨y,e1,e2⟩:=aC.get (i:=i) h2 (by simpa using e)
   exact⟨y,by simpa using e1,e2⟩
theorem aC.append{K:W.Frag}{B:List Addr}:∀{ds es:List D} {xs ys:List V},aC K B H ds xs->aC K B H es ys->aC K B H (ds++es) (xs++ys)
 | [],_,_,_,h,t=>by unfold aC at h;subst h;exact t
 | d ::ds,es,xs,ys,h,t=>by
   obtain⟨x,r,rfl,h1,h2⟩:=h.bW;exact aC.cons h1 (aC.append h2 t)
theorem aC.drop{K:W.Frag}{B:List Addr}:∀{ds:List D} {xs:List V} (n:Nat),aC K B H ds xs->aC K B H (ds.drop n) (xs.drop n)
 | _,_,0,h=>h
 | [],_,n+1,h=>by unfold aC at h;subst h;exact aC.nil
 | d ::ds,xs,n+1,h=>by
   obtain⟨x,r,rfl,h1,h2⟩:=h.bW;exact aC.drop n h2
theorem aC.take{K:W.Frag}{B:List Addr}:∀{ds:List D} {xs:List V} (n:Nat),aC K B H ds xs->aC K B H (ds.take n) (xs.take n)
 | _,_,0,h=>aC.nil
 | [],_,n+1,h=>by unfold aC at h;subst h;exact aC.nil
 | d ::ds,xs,n+1,h=>by
   obtain⟨x,r,rfl,h1,h2⟩:=h.bW;exact aC.cons h1 (aC.take n h2)
def D.atom:D->Bool
 | .cL=>true | .bl _=>true | .int _=>true | .str _=>true | _=>false
theorem Rep.atom{K:W.Frag}{B B':List Addr}{d:D}{v:V}(a:d.atom=true)(h:Rep K B H d v):Rep K B' H' d v:=by
 cases d <;> first | exact h | cases a
inductive Sl where
 | un | val (d:D) | bld (ds:List D)
abbrev av:=List Sl
structure dh (K:W.Frag) (Z B:List Addr) (H:Hp) (σ:St) (δ:av):Prop where
 len:δ.length=σ.length
 bs:∀a∈B,∃o,H a=some o
 zb:∀a∈Z,a∈B
 val:∀(i:Nat) (d:D),δ[i]? =some (.val d)->∃v,σ[i]? =some (some v)/\Rep K B H d v
 bld:∀(i:Nat) (ds:List D),δ[i]? =some (.bld ds)->∃a xs,σ[i]? =some (some (.ref a))/\a∈B/\a ∉ Z/\H a=some (.lst xs)/\aC K B H ds xs
 dis:∀(i j:Nat) (a:Addr) (ds es:List D),δ[i]? =some (.bld ds)->δ[j]? =some (.bld es)->σ[i]? =some (some (.ref a))->σ[j]? =some (some (.ref a))->i=j
theorem dh.same{K:W.Frag}{Z B:List Addr}{δ:av}(E:dh K Z B H σ δ)(s:aP H H'):dh K Z B H' σ δ where
 len:=E.len
 bs:=fun a ha=>let⟨o,e⟩:=E.bs a ha;⟨o,s a o e⟩
 zb:=E.zb
 val:=fun i d e=>let⟨v,h1,h2⟩:=E.val i d e;⟨v,h1,h2.same s⟩
 bld:=fun i ds e=>let⟨a,xs,h1,h2,h3,h4,h5⟩:=E.bld i ds e;⟨a,xs,h1,h2,h3,s a _ h4,h5.same s⟩
 dis:=E.dis
def GZ(δ:av):av:=δ.map fun x=>match x with | .bld ds=> .val (.lst ds) | y=>y
theorem PE.imp{X:Cx}{t t':TE}(h:PE X e t)(w:∀σ H Q,t' σ H Q->t σ H Q):PE X e t':=fun pins s σ H Q I hq=>h pins s σ H Q I (w σ H Q hq)
theorem PT.imp{X:Cx}{t t':TT}(h:PT X e t)(w:∀σ H Q,t' σ H Q->t σ H Q):PT X e t':=fun pins s σ H Q I hq=>h pins s σ H Q I (w σ H Q hq)
theorem PA.imp{X:Cx}{t t':TA}(h:PA X e t)(w:∀σ H Q,t' σ H Q->t σ H Q):PA X e t':=fun pos pins s σ H Q I hq=>h pos pins s σ H Q I (w σ H Q hq)
theorem PS.imp{X:Cx}{t t':TS}(h:PS X e t)(w:∀D σ H,t' D σ H->t D σ H):PS X e t':=fun pins s σ H D I hq=>h pins s σ H D I (w D σ H hq)
theorem sf.imp{X:Cx}{t t':TS}(h:sf X e t)(w:∀D σ H,t' D σ H->t D σ H):sf X e t':=fun pins s σ H D I hq=>h pins s σ H D I (w D σ H hq)
theorem PG.imp{X:Cx}{t t':TG}(h:PG X e t)(w:∀v σ H Q,t' v σ H Q->t v σ H Q):PG X e t':=fun pins s σ H v u Q I r hq=>h pins s σ H v u Q I r (w v σ H Q hq)
theorem PI.imp{X:Cx}{t t':TI}(h:PI X tg e t)(w:∀σ H Q,t' σ H Q->t σ H Q):PI X tg e t':=fun pins s σ H Q I hq=>h pins s σ H Q I (w σ H Q hq)
abbrev FD:=av->R D
def tD(K:W.Frag)(f:FD):TE:=fun σ H Q=>∃Z B δ d,dh K Z B H σ δ/\f δ= .ok d/\∀v H',aP H H'->Rep K B H' d v->Q v H'
def tN(K:W.Frag)(f:av->R (List D)):TE:=fun σ H Q=>∃Z B δ ds,dh K Z B H σ δ/\f δ= .ok ds/\∀a xs H',aP H H'->H a=none->H' a=some (.lst xs)->aC K (a ::B) H' ds xs->Q (.ref a) H'
def Ey(K:W.Frag)(f:av->R Bool):TT:=fun σ H Q=>∃Z B δ b,dh K Z B H σ δ/\f δ= .ok b/\∀H',aP H H'->Q b H'
def LB(K:W.Frag)(f:av->R (List D)):TA:=fun σ H Q=>∃Z B δ ds,dh K Z B H σ δ/\f δ= .ok ds/\∀vs H',aP H H'->aC K B H' ds vs->Q vs H'
abbrev PD(X:Cx)(e:Expr)(f:FD):Prop:=PE X e (tD X.K f)
abbrev PN(X:Cx)(e:Expr)(f:av->R (List D)):Prop:=PE X e (tN X.K f)
abbrev PB(X:Cx)(e:Expr)(f:av->R Bool):Prop:=PT X e (Ey X.K f)
abbrev AN(X:Cx)(es:List Expr)(f:av->R (List D)):Prop:=PA X es (LB X.K f)
section
variable {X:Cx}
def eNew(f:av->R (List D)):FD:=fun δ=>(f δ).bind fun ds=> .ok (.lst ds)
theorem Em{f:av->R (List D)}(h:PN X e f):PD X e (eNew f):=h.imp fun σ H Q ⟨Z,B,δ,d,E,hf,q⟩=>by
 obtain⟨ds,h1,h2⟩:=R.ao hf;cases h2;refine⟨Z,B,δ,ds,E,h1,fun a xs H' s n e r=>q _ H' s ?_⟩
 unfold Rep;refine⟨a,xs,rfl, .inl ⟨fun ha=>?_, .inl e⟩,r.a0 fun b o e nb=>⟨e,fun hb=>nb (List.mem_cons_of_mem _ hb)⟩⟩
 obtain⟨o,ho⟩:=E.bs a ha;rw[n] at ho;cases ho
theorem lL{B:List Addr}{H:Hp}{p:Addr}{o:HO}(h:H p=none):cZ B H (p ::B) (upd H p o):=fun b u e nb=>
 ⟨by rw[ba (b_ e h)];exact e,fun hb=>by
   rcases List.mem_cons.mp hb with z | z
   .exact b_ e h z
   .exact nb z⟩
def LK(f:FD):FD:=fun δ=>(f (GZ δ)).bind fun d=>R.a_ d.atom (.ok d)
def LP(f:av->R Bool):av->R Bool:=fun δ=>f (GZ δ)
def ae(i:Nat):FD:=fun δ=>match δ[i]? with | some (.val d)=> .ok d | _=> .no
def eC(d:D):FD:=fun _=> .ok d
theorem DZ(i:Nat){x:Str}{pos:Pos}(hN:X.N[i]? =some x:=by rfl)(hv:Cq X.env.scope x:=by first | exact Or.inl rfl | exact Or.inr (Or.inl rfl) | exact Or.inr (Or.inr rfl))(hd:(x==("__debug__":Str))=false:=by decide)
 (pE:(x==("__classdict__":Str))=false:=by decide):PD X (.Name x pos) (ae i):=(oi hN hv hd pE).imp fun σ H Q ⟨Z,B,δ,d,E,hf,q⟩=>by
 unfold ae at hf;split at hf
 .rename_i d' e;cases hf;obtain⟨v,h1,h2⟩:=E.val i d e;exact⟨v,h1,q v H (aP.refl H) h2⟩
 .cases hf
theorem lK{v:V}{d:D}(h:PE X e (tC v))(r:∀B H,Rep X.K B H d v):PD X e (eC d):=h.imp fun σ H Q ⟨Z,B,δ,d',E,hf,q⟩=>by
 cases hf;exact q v H (aP.refl H) (r B H)
theorem Eu{i j pos}:PD X (.Constant (.int i) j pos) (eC (.int i)):=lK oP fun _ _=>by unfold Rep;rfl
theorem Hq{b j pos}:PD X (.Constant (.bool b) j pos) (eC (.bl b)):=lK G2 fun _ _=>by unfold Rep;rfl
theorem DW{x j pos}:PD X (.Constant (.str x) j pos) (eC (.str x)):=lK oX fun _ _=>by unfold Rep;rfl
def Glob(K:W.Frag)(mg:PY)(x:Str)(d:D):Prop:=∃(u:Value) (v:V),mg x=some u/\RelV v u/\∀B H,Rep K B H d v
theorem BC{d:D}{pos:Pos}(g:Glob X.K X.mg x d)(hg:Gl X x)(hd:(x==("__debug__":Str))=false:=by decide):PD X (.Name x pos) (eC d):=by
 obtain⟨u,v,hm,r,h⟩:=g;exact lK (Bv hg hm r hd) h
def aG:av->R (List D):=fun _=> .ok []
def aj(f:FD)(g:av->R (List D)):av->R (List D):=fun δ=>(f δ).bind fun d=>(g δ).bind fun ds=> .ok (d ::ds)
theorem CG:AN X [] aG:=gO.imp fun σ H Q ⟨Z,B,δ,d,E,hf,q⟩=>by
 cases hf;exact q [] H (aP.refl H) aC.nil
theorem yT{g:av->R (List D)}(h:PD X e f)(t:AN X es g)(hs:starEach (e ::es) X.env=(false,eval e X.env) ::starEach es X.env:=by rfl):AN X (e ::es) (aj f g):=
 (et h t hs).imp fun σ H Q ⟨Z,B,δ,d,E,hf,q⟩=>by
   obtain⟨d1,h1,h2⟩:=R.ao hf;obtain⟨ds,h3,h4⟩:=R.ao h2;cases h4;exact⟨Z,B,δ,d1,E,h1,fun v H1 s1 r1=>⟨Z,B,δ,ds,E.same s1,h3,fun vs H2 s2 r2=>q _ H2 (s1.trans s2) (aC.cons (r1.same s2) r2)⟩⟩
def fH(g:av->R (List D)):FD:=fun δ=>(g δ).bind fun ds=>R.a_ (decide (ds.length<=sizeLine)) (.ok (.tup ds))
def fB(g:av->R (List D)):av->R (List D):=fun δ=>(g δ).bind fun ds=>R.a_ (decide (ds.length<=sizeLine)) (.ok ds)
theorem aU{H:Hp}{p:Addr}{o:HO}(h:H p=none):aP H (upd H p o):=fun b u e=>by rw[ba (b_ e h)];exact e
theorem D1{g:av->R (List D)}{x1 pos}(h:AN X es g):PD X (.Tuple es x1 pos) (fH g):=(ED h).imp fun σ H Q ⟨Z,B,δ,d,E,hf,q⟩=>by
 obtain⟨ds,h1,h2⟩:=R.ao hf;obtain⟨hl,h3⟩:=R.bj h2;cases h3;refine⟨Z,B,δ,ds,E,h1,fun vs H1 s1 r1=>⟨by rw[<-r1.length];exact of_decide_eq_true hl,fun p hp=>q _ _ (s1.trans (aU hp)) ?_⟩⟩
 unfold Rep;refine⟨p,vs,rfl, .inl ⟨fun ha=>?_, .inl aV⟩,r1.same (aU hp)⟩
 obtain⟨o,ho⟩:=(E.same s1).bs p ha;rw[hp] at ho;cases ho
theorem Ee{g:av->R (List D)}{pos}(h:AN X es g):PN X (.List es pos) (fB g):=(Es h).imp fun σ H Q ⟨Z,B,δ,d,E,hf,q⟩=>by
 obtain⟨ds,h1,h2⟩:=R.ao hf;obtain⟨hl,h3⟩:=R.bj h2;cases h3;exact⟨Z,B,δ,_,E,h1,fun vs H1 s1 r1=>⟨by rw[<-r1.length];exact of_decide_eq_true hl,fun p hp=>q p vs _ (s1.trans (aU hp)) (s1.free hp) aV (r1.a0 (lL hp))⟩⟩
def jR(X:Cx)(f:Value->Value->Sem Value)(g:D->D->R D):Prop:=
 ∀(pins:PM) (s:Shared) (σ:St) (H:Hp) (B:List Addr) (da db d:D) (x y:V) (v u:Value),Inv X pins σ H s->(∀a∈B,∃o,H a=some o)->RelV x v->RelV y u->Rep X.K B H da x->Rep X.K B H db y->g da db= .ok d->
  wpAny (model X.prog X.w) X.A (f v u) (EP X pins σ fun z H'=>aP H H'/\Rep X.K B H' d z) X.xe s
def e2(g:D->D->R D)(fa fb:FD):FD:=fun δ=>(fa δ).bind fun a=>(fb δ).bind fun b=>g a b
theorem jR.r{f:Value->Value->Sem Value}{g:D->D->R D}(h:jR X f g):jT X f (fun x y H Q=>∃B da db d,(∀a∈B,∃o,H a=some o)/\Rep X.K B H da x/\Rep X.K B H db y/\g da db= .ok d/\∀z H',aP H H'->Rep X.K B H' d z->Q z H'):=by
 intro pins s σ H x y v u Q I rx ry ⟨B,da,db,d,hb,ha,r_,hg,q⟩;exact dG (h pins s σ H B da db d x y v u I hb rx ry ha r_ hg) fun z s' ⟨zv,H',I',r',s1,r1⟩=>⟨zv,H',I',r',q zv H' s1 r1⟩
theorem Fg{K:W.Frag}{g:D->D->R D}{Q:VK}(h:tD K (e2 g fa fb) σ H Q) :
 Ge (fun x y H Q=>∃B da db d,(∀a∈B,∃o,H a=some o)/\Rep K B H da x/\Rep K B H db y/\g da db= .ok d/\∀z H',aP H H'->Rep K B H' d z->Q z H') (tD K fa) (tD K fb) σ H Q:=by
 obtain⟨Z,B,δ,d,E,hf,q⟩:=h;obtain⟨d1,h1,h2⟩:=R.ao hf;obtain⟨d2,h3,h4⟩:=R.ao h2;exact⟨Z,B,δ,d1,E,h1,fun v1 H1 s1 r1=>⟨Z,B,δ,d2,E.same s1,h3,fun v2 H2 s2 r2=>⟨B,d1,d2,d,(E.same (s1.trans s2)).bs,r1.same s2,r2,h4,fun z H' s3 r3=>q z H' (s1.trans (s2.trans s3)) r3⟩⟩⟩
theorem GG{op:Operator}{g:D->D->R D}(ho:jR X (binaryOp op) g)(ha:PD X a fa)(hb:PD X b fb):PD X (.BinOp a op b pos) (e2 g fa fb):=
 (Dw ho.r ha hb).imp fun σ H Q h=>Fg h
theorem ET{op:CmpOp}{g:D->D->R D}(ho:jR X (compareOp op) g)(ha:PD X a fa)(hb:PD X b fb)(hm:behindInMarks op b=false):PD X (.Compare a [op] [b] pos) (e2 g fa fb):=
 (CI ho.r ha hb hm).imp fun σ H Q h=>Fg h
def b2(g:D->D->R D)(fa fb:FD):av->R Bool:=fun δ=>(e2 g fa fb δ).bind fun d=>match d with | .bl b=> .ok b | _=> .no
theorem EG{op:CmpOp}{g:D->D->R D}(ho:jR X (compareOp op) g)(ha:PD X a fa)(hb:PD X b fb)(hm:behindInMarks op b=false):PB X (.Compare a [op] [b] pos) (b2 g fa fb):=
 (vG ho.r ha hb hm).imp fun σ H Q ⟨Z,B,δ,b,E,hf,q⟩=>by
   obtain⟨d,h1,h2⟩:=R.ao hf;cases d with
   | bl k=>
     cases h2;exact Fg (g:=g) (Q:=fun x H'=>∃k,x= .bl k/\Q k H') ⟨Z,B,δ, .bl b,E,h1,fun v H' s r=>⟨b,by unfold Rep at r;exact r,q H' s⟩⟩
   | _=>cases h2
def J8(g g':D->D->R D)(fa fb fc:FD):FD:=fun δ=>(fa δ).bind fun a=>(fb δ).bind fun b=>(g a b).bind fun r=>match r with
 | .bl true=>(fc δ).bind fun c=>g' b c
 | .bl false=> .ok (.bl false)
 | _=> .no
def HB:D->R Bool
 | .cL=> .ok false
 | .bl b=> .ok b
 | .int i=> .ok (i !=0)
 | .str x=>R.a_ (decide (x.length<=sizeLine)) (.ok ((x.length:Int) !=0))
 | .lst ds=> .ok (!ds.isEmpty)
 | .tup ds=> .ok (!ds.isEmpty)
 | .dct _ _=> .no
def NK(f:FD):av->R Bool:=fun δ=>(f δ).bind HB
def BQ(f g:av->R Bool):av->R Bool:=fun δ=>(f δ).bind fun b=>if b then g δ else .ok false
def Hi(f g:av->R Bool):av->R Bool:=fun δ=>(f δ).bind fun b=>if b then .ok true else g δ
def NP(f:av->R Bool):av->R Bool:=fun δ=>(f δ).bind fun b=> .ok (!b)
def AR(X:Cx)(e:Expr)(f:av->R Bool):Prop:=PW X e (Ey X.K f)
theorem AR.pb{f:av->R Bool}(h:AR X e f):PB X e f:=PW.pt h
theorem zq{f:av->R Bool}(h:PB X a f):AR X (.BoolOp .And [a] pos) f:=B_ h
theorem Bb{f:av->R Bool}(h:PB X a f):AR X (.BoolOp .Or [a] pos) f:=E8 h
theorem Bi{rest:List Expr}{f g:av->R Bool}(ha:PB X a f)(hb:AR X (.BoolOp .And (b ::rest) pos) g):AR X (.BoolOp .And (a ::b ::rest) pos) (BQ f g):=by
 intro wh pins s σ H Q I ⟨Z,B,δ,k,E,hf,q⟩;refine EU ha hb wh pins s σ H Q I ?_;obtain⟨c,h1,h2⟩:=R.ao hf;refine⟨Z,B,δ,c,E,h1,fun H1 s1=>?_⟩
 cases c with
 | true=>rw [if_pos rfl] at h2 ⊢;exact⟨Z,B,δ,k,E.same s1,h2,fun H' s2=>q H' (s1.trans s2)⟩
 | false=>rw [if_neg (by decide)] at h2 ⊢;cases h2;exact q H1 s1
theorem Ek{rest:List Expr}{f g:av->R Bool}(ha:PB X a f)(hb:AR X (.BoolOp .Or (b ::rest) pos) g):AR X (.BoolOp .Or (a ::b ::rest) pos) (Hi f g):=by
 intro wh pins s σ H Q I ⟨Z,B,δ,k,E,hf,q⟩;refine G_ ha hb wh pins s σ H Q I ?_;obtain⟨c,h1,h2⟩:=R.ao hf;refine⟨Z,B,δ,c,E,h1,fun H1 s1=>?_⟩
 cases c with
 | true=>rw [if_pos rfl] at h2 ⊢;cases h2;exact q H1 s1
 | false=>rw [if_neg (by decide)] at h2 ⊢;exact⟨Z,B,δ,k,E.same s1,h2,fun H' s2=>q H' (s1.trans s2)⟩
def Kf(f:FD):av->R Bool:=fun δ=>(f δ).bind fun d=>match d with | .bl b=> .ok b | _=> .no
def N7(f g:FD):FD:=fun δ=>(Kf f δ).bind fun b=>if b then g δ else .ok (.bl false)
def Pe(f g:FD):FD:=fun δ=>(Kf f δ).bind fun b=>if b then .ok (.bl true) else g δ
def Ob(f:FD):FD:=fun δ=>(Kf f δ).bind fun b=> .ok (.bl (!b))
def Gh(c:av->R Bool)(f g:FD):FD:=fun δ=>(c δ).bind fun b=>if b then f δ else g δ
theorem HC{fc:av->R Bool}(hc:PB X c fc)(ha:PD X a f)(hb:PD X b g):PD X (.IfExp c a b pos) (Gh fc f g):=(zC hc ha hb).imp fun σ H Q ⟨Z,B,δ,k,E,hf,q⟩=>by
 obtain⟨c,h1,h2⟩:=R.ao hf;refine⟨Z,B,δ,c,E,h1,fun H1 s1=>?_⟩
 cases c with
 | true=>rw [if_pos rfl] at h2 ⊢;exact⟨Z,B,δ,k,E.same s1,h2,fun v H' s2 r2=>q v H' (s1.trans s2) r2⟩
 | false=>rw [if_neg (by decide)] at h2 ⊢;exact⟨Z,B,δ,k,E.same s1,h2,fun v H' s2 r2=>q v H' (s1.trans s2) r2⟩
def cv(X:Cx)(f:Value)(g:List D->R D):Prop:=
 ∀(pins:PM) (s:Shared) (σ:St) (H:Hp) (B:List Addr) (ds:List D) (d:D) (xs:List V) (us:List Value),Inv X pins σ H s->(∀a∈B,∃o,H a=some o)->Vals xs us->aC X.K B H ds xs->g ds= .ok d->
  wpAny (model X.prog X.w) X.A (call f us) (EP X pins σ fun z H'=>aP H H'/\Rep X.K B H' d z) X.xe s
def aF(g:List D->R D)(fs:av->R (List D)):FD:=fun δ=>(fs δ).bind g
theorem cv.r{f:Value}{g:List D->R D}(h:cv X f g):j4 X f (fun xs H Q=>∃B ds d,(∀a∈B,∃o,H a=some o)/\aC X.K B H ds xs/\g ds= .ok d/\∀z H',aP H H'->Rep X.K B H' d z->Q z H'):=by
 intro pins s σ H xs us Q I rx ⟨B,ds,d,hb,hr,hg,q⟩;exact dG (h pins s σ H B ds d xs us I hb rx hr hg) fun z s' ⟨zv,H',I',r',s1,r1⟩=>⟨zv,H',I',r',q zv H' s1 r1⟩
theorem wg{K:W.Frag}{g:List D->R D}{fs:av->R (List D)}{Q:VK}(h:tD K (aF g fs) σ H Q) :
 LB K fs σ H fun vs H1=>∃B ds d,(∀a∈B,∃o,H1 a=some o)/\aC K B H1 ds vs/\g ds= .ok d/\∀z H',aP H1 H'->Rep K B H' d z->Q z H':=by
 obtain⟨Z,B,δ,d,E,hf,q⟩:=h;obtain⟨ds,h1,h2⟩:=R.ao hf;exact⟨Z,B,δ,ds,E,h1,fun vs H1 s1 r1=>⟨B,ds,d,(E.same s1).bs,r1,h2,fun z H' s2 r2=>q z H' (s1.trans s2) r2⟩⟩
theorem yG{g:List D->R D}{x:Str}{id:String}{p pos:Pos}{e:Expr}{es:List Expr}{fs:av->R (List D)}(hc:cv X (.builtin id) g)(hg:Gl X x)(hm:X.mg x=none)(hv:bootBuiltins x=some (.builtin id))(ha:AN X (e ::es) fs)(hn:x≠"__name__":=by decide)(pY:(x==("__debug__":Str))=false:=by decide)
 (he:starEach (e ::es) X.env=(false,eval e X.env) ::starEach es X.env:=by rfl) (kN:(backTo pos (starEach es X.env)).any (·.1)=false:=by rfl):PD X (.Call (.Name x p) (e ::es) [] pos) (aF g fs):=
 (yF hc.r hg hm hv ha hn pY he kN).imp fun σ H Q h=>wg h
theorem xm{g:List D->R D}{x:Str}{T:String}{p pos:Pos}{e:Expr}{es:List Expr}{fs:av->R (List D)}(hc:cv X (.type T) g)(hg:Gl X x)(hm:X.mg x=none)(hv:bootBuiltins x=some (.type T))(ha:AN X (e ::es) fs)(hn:x≠"__name__":=by decide)(pY:(x==("__debug__":Str))=false:=by decide)
 (he:starEach (e ::es) X.env=(false,eval e X.env) ::starEach es X.env:=by rfl) (kN:(backTo pos (starEach es X.env)).any (·.1)=false:=by rfl):PD X (.Call (.Name x p) (e ::es) [] pos) (aF g fs):=
 (qp hc.r hg hm hv ha hn pY he kN).imp fun σ H Q h=>wg h
def BL(K:W.Frag)(n:Nat)(g:List D->R D):Sp:=fun vs H Q _=>vs.length=n/\∃B ds d,(∀a∈B,∃o,H a=some o)/\aC K B H ds vs/\g ds= .ok d/\∀z H',aP H H'->Rep K B H' d z->Q z H'
theorem BJ{g:List D->R D}{k n:Nat}{f:Addr}{fd:FuncData}{ps:List Str}{x:Str}{p pos:Pos}{e:Expr}{es:List Expr}{fs:av->R (List D)}
 (F:iY X.prog X.w X.K X.mg X.base p9 k f fd ps (BL X.K n g)) (hr:fF k X.A) (hg:Gl X x) (hm:X.mg x=some (.ref f)) (hk:PySem.W.keepIn X.K (.ref f)=true) (hb:Binds X.K fd ps []) (ha:AN X (e ::es) fs)
 (hn:∀δ ds,fs δ= .ok ds->ds.length=n) (pY:(x==("__debug__":Str))=false:=by decide) (he:starEach (e ::es) X.env=(false,eval e X.env) ::starEach es X.env:=by rfl) (kN:(backTo pos (starEach es X.env)).any (·.1)=false:=by rfl) :
 PD X (.Call (.Name x p) (e ::es) [] pos) (aF g fs):=
 (vP F hr hg hm hk hb .nil C1 ha pY he kN).imp fun σ H Q ⟨Z,B,δ,d,E,hf,q⟩=>by
   obtain⟨ds,h1,h2⟩:=R.ao hf;refine⟨Z,B,δ,ds,E,h1,fun vs H1 s1 r1=>?_⟩
   show BL X.K n g (vs++[]) H1 Q E0;rw[List.append_nil];exact⟨by rw[<-r1.length];exact hn δ ds h1,B,ds,d,(E.same s1).bs,r1,h2,fun z H' s2 r2=>q z H' (s1.trans s2) r2⟩
end
end L2
end
section
namespace L2
open PySem PySem.Spec PyProof.Rows
inductive Out where
 | nx (δ:av) | rt (d:D)
abbrev FS:=av->R Out
structure Ev (Z B:List Addr) (H:Hp) (B':List Addr) (H':Hp):Prop where
 a0:cZ B H B' H'
 zs:∀b o,H b=some o->b∈Z->H' b=some o/\b∈B'
theorem Ev.refl(Z B:List Addr)(H:Hp)(zb:∀a∈Z,a∈B):Ev Z B H B H:=⟨cZ.refl B H,fun b o e z=>⟨e,zb b z⟩⟩
theorem Ev.trans{Z B B' Ib:List Addr}(a:Ev Z B H B' H')(b:Ev Z B' H' Ib lF):Ev Z B H Ib lF:=
 ⟨a.a0.trans b.a0,fun c o e z=>let⟨e1,_⟩:=a.zs c o e z;b.zs c o e1 z⟩
theorem Ev.same{Z B:List Addr}(zb:∀a∈Z,a∈B)(s:aP H H'):Ev Z B H B H':=⟨cZ.same s,fun b o e z=>⟨s b o e,zb b z⟩⟩
def wA(K:W.Frag)(Z B:List Addr)(H:Hp)(D:Ends):Out->Prop
 | .nx du=>∀cN B' H',Ev Z B H B' H'->dh K Z B' H' cN du->D.nx cN H'
 | .rt d=>∀v B' H',Ev Z B H B' H'->(∀a∈Z,a∈B')->Rep K B' H' d v->D.rt v H'
theorem wA.ev{K:W.Frag}{Z B B1:List Addr}{D:Ends}{o:Out}(q:wA K Z B H D o)(ev:Ev Z B H B1 H1):wA K Z B1 H1 D o:=by
 cases o with
 | nx du=>exact fun cN B' H' Ax E'=>q cN B' H' (ev.trans Ax) E'
 | rt d=>exact fun v B' H' Ax z r=>q v B' H' (ev.trans Ax) z r
def sD(K:W.Frag)(F:FS):TS:=fun D σ H=>∃Z B δ o,dh K Z B H σ δ/\F δ= .ok o/\wA K Z B H D o
abbrev Ba(X:Cx)(st:Stmt)(F:FS):Prop:=PS X st (sD X.K F)
abbrev nB(X:Cx)(st:List Stmt)(F:FS):Prop:=sf X st (sD X.K F)
section
variable {X:Cx}
def m7:FS:=fun δ=> .ok (.nx δ)
def fJ(F G:FS):FS:=fun δ=>(F δ).bind fun o=>match o with | .nx du=>G du | .rt d=> .ok (.rt d)
theorem A3:nB X [] m7:=vT.imp fun D σ H ⟨Z,B,δ,o,E,hf,q⟩=>by
 cases hf;exact q σ B H (Ev.refl Z B H E.zb) E
theorem Fv{K:W.Frag}{F G:FS}{D:Ends}(h:sD K (fJ F G) D σ H):Hf (sD K F) (sD K G) D σ H:=by
 obtain⟨Z,B,δ,o,E,hf,q⟩:=h;obtain⟨o1,h1,h2⟩:=R.ao hf;refine⟨Z,B,δ,o1,E,h1,?_⟩;cases o1 with
 | nx δ1=>
   intro Ir B1 H1 ev E1;refine⟨Z,B1,δ1,o,E1,h2,?_⟩;cases o with
   | nx ft=>exact fun cN B' H' Ax E'=>q cN B' H' (ev.trans Ax) E'
   | rt d=>exact fun v B' H' Ax z r=>q v B' H' (ev.trans Ax) z r
 | rt d=>
   cases h2;exact q
theorem Ap{st:Stmt}{rest:List Stmt}{F G:FS}(h1:Ba X st F)(h2:nB X rest G):nB X (st ::rest) (fJ F G):=(sH h1 h2).imp fun D σ H h=>Fv h
theorem Cd{st:Stmt}{F:FS}(h1:Ba X st F):nB X [st] F:=wa h1
theorem dh.set{K:W.Frag}{Z B:List Addr}{σ:St}{δ:av}(E:dh K Z B H σ δ){i:Nat}{d:D}{v:V}(hi:i < σ.length)(r:Rep K B H d v):dh K Z B H (σ.set i (some v)) (δ.set i (.val d)) where
 len:=by rw[List.length_set,List.length_set];exact E.len
 bs:=E.bs
 zb:=E.zb
 val:=fun j d' e=>by
  by_cases h:i=j
  .subst h;rw[List.getElem?_set_self (by rw[E.len];exact hi)] at e
   cases e;exact⟨v,List.getElem?_set_self hi,r⟩
  .rw [List.getElem?_set_ne h] at e ⊢;exact E.val j d' e
 bld:=fun j ds e=>by
  by_cases h:i=j
  .subst h;rw[List.getElem?_set_self (by rw[E.len];exact hi)] at e
   cases e
  .rw [List.getElem?_set_ne h] at e ⊢;exact E.bld j ds e
 dis:=fun j k a ds es e1 e2 e3 e4=>by
  by_cases h:i=j
  .subst h;rw[List.getElem?_set_self (by rw[E.len];exact hi)] at e1
   cases e1
  .by_cases h':i=k
   .subst h';rw[List.getElem?_set_self (by rw[E.len];exact hi)] at e2
    cases e2
   .rw [List.getElem?_set_ne h] at e1 e3;rw[List.getElem?_set_ne h'] at e2 e4;exact E.dis j k a ds es e1 e2 e3 e4
theorem dh.setB{K:W.Frag}{Z B:List Addr}{H:Hp}{σ:St}{δ:av}(E:dh K Z B H σ δ){i:Nat}{ds:List D}{a:Addr}{xs:List V}(hi:i < σ.length)(hB:a∈B)(hZ:a ∉ Z)(hH:H a=some (.lst xs))(r:aC K B H ds xs)
 (new:∀j es,j≠i->δ[j]? =some (.bld es)->σ[j]?≠some (some (.ref a))):dh K Z B H (σ.set i (some (.ref a))) (δ.set i (.bld ds)) where
 len:=by rw[List.length_set,List.length_set];exact E.len
 bs:=E.bs
 zb:=E.zb
 val:=fun j d' e=>by
  by_cases h:i=j
  .subst h;rw[List.getElem?_set_self (by rw[E.len];exact hi)] at e
   cases e
  .rw [List.getElem?_set_ne h] at e ⊢;exact E.val j d' e
 bld:=fun j es e=>by
  by_cases h:i=j
  .subst h;rw[List.getElem?_set_self (by rw[E.len];exact hi)] at e
   cases e;exact⟨a,xs,List.getElem?_set_self hi,hB,hZ,hH,r⟩
  .rw [List.getElem?_set_ne h] at e ⊢;exact E.bld j es e
 dis:=fun j k b Ik Ih e1 e2 e3 e4=>by
  by_cases h:i=j
  .subst h;by_cases h':i=k
   .exact h'
   .rw [List.getElem?_set_self hi] at e3;cases e3;rw[List.getElem?_set_ne h'] at e2 e4;exact absurd e4 (new k Ih (Ne.symm h') e2)
  .by_cases h':i=k
   .subst h';rw[List.getElem?_set_self hi] at e4;cases e4;rw[List.getElem?_set_ne h] at e1 e3;exact absurd e3 (new j Ik (Ne.symm h) e1)
   .rw [List.getElem?_set_ne h] at e1 e3;rw[List.getElem?_set_ne h'] at e2 e4;exact E.dis j k b Ik Ih e1 e2 e3 e4
def nS(i:Nat)(f:FD):FS:=fun δ=>(f δ).bind fun d=>R.a_ (decide (i < δ.length)) (.ok (.nx (δ.set i (.val d))))
theorem Er{K:W.Frag}{i:Nat}{D:Ends}(h:sD K (nS i f) D σ H):Ak (tD K f) (oJ i) D σ H:=by
 obtain⟨Z,B,δ,o,E,hf,q⟩:=h;obtain⟨d,h1,h2⟩:=R.ao hf;obtain⟨hi,h3⟩:=R.bj h2;cases h3;refine⟨Z,B,δ,d,E,h1,fun v H1 s1 r1=>?_⟩
 exact q _ B H1 (Ev.same E.zb s1) ((E.same s1).set (by rw[<-E.len];exact of_decide_eq_true hi) r1)
theorem BW{i:Nat}{pos pos':Pos}(hN:X.N.Nodup)(hi:X.N[i]? =some x)(hx:Loc X.env.scope x)(he:PD X e f)(hs:swapsWith e (some (.Name x pos')) pos.line X.env=pure false:=by rfl)(hf:X.fn x=true\/X.env.scope.names.lookup x=some .local:=by first | exact .inl rfl | exact .inr rfl | assumption) :
 Ba X (.Assign [.Name x pos'] e pos) (nS i f):=(uU hN hi hx he hs hf).imp fun D σ H h=>Er h
def uC(i:Nat)(f:av->R (List D)):FS:=fun δ=>(f δ).bind fun ds=>R.a_ (decide (i < δ.length)) (.ok (.nx (δ.set i (.bld ds))))
theorem EA{K:W.Frag}{i:Nat}{f:av->R (List D)}{D:Ends}(h:sD K (uC i f) D σ H):Ak (tN K f) (oJ i) D σ H:=by
 obtain⟨Z,B,δ,o,E,hf,q⟩:=h;obtain⟨ds,h1,h2⟩:=R.ao hf;obtain⟨hi,h3⟩:=R.bj h2;cases h3;refine⟨Z,B,δ,ds,E,h1,fun a xs H1 s1 n e r=>?_⟩
 have E1:=E.same s1;have aB:a ∉ B:=fun ha=>by obtain⟨o,ho⟩:=E.bs a ha;rw [n] at ho;cases ho
 have nZ:a ∉ Z:=fun ha=>aB (E.zb a ha)
 have p0:cZ B H (a ::B) H1:=fun b o e' nb=>⟨s1 b o e',fun hb=>by
  rcases List.mem_cons.mp hb with z | z
  .subst z;rw [n] at e';cases e'
  .exact nb z⟩
 have E2:dh K Z (a ::B) H1 σ δ:={
  len:=E.len
  bs:=fun b hb=>by
   rcases List.mem_cons.mp hb with z | z
   .subst z;exact⟨_,e⟩
   .exact E1.bs b z
  zb:=fun b hb=>List.mem_cons_of_mem _ (E.zb b hb)
  val:=fun j d e=>let⟨v,q1,q2⟩:=E.val j d e;⟨v,q1,q2.a0 p0⟩
  bld:=fun j es e=>let⟨b,ys,q1,q2,q3,q4,q5⟩:=E.bld j es e;⟨b,ys,q1,List.mem_cons_of_mem _ q2,q3,s1 b _ q4,q5.a0 p0⟩
  dis:=E.dis}
 refine q _ (a ::B) H1 ⟨p0,fun b o e' hb=>⟨s1 b o e',List.mem_cons_of_mem _ (E.zb b hb)⟩⟩ (E2.setB (by rw[<-E.len];exact of_decide_eq_true hi) List.mem_cons_self nZ e r fun j es hj ej CS=>?_)
 obtain⟨b,ys,q1,_,_,q4,_⟩:=E.bld j es ej;rw[CS] at q1;cases q1;rw[n] at q4;cases q4
theorem Ci{i:Nat}{f:av->R (List D)}{pos pos':Pos}(hN:X.N.Nodup)(hi:X.N[i]? =some x)(hx:Loc X.env.scope x)(he:PN X e f)(hs:swapsWith e (some (.Name x pos')) pos.line X.env=pure false:=by rfl)(hf:X.fn x=true\/X.env.scope.names.lookup x=some .local:=by first | exact .inl rfl | exact .inr rfl | assumption) :
 Ba X (.Assign [.Name x pos'] e pos) (uC i f):=(uU hN hi hx he hs hf).imp fun D σ H h=>EA h
theorem dh.grow{K:W.Frag}{Z B:List Addr}{H:Hp}{σ:St}{δ:av}(E:dh K Z B H σ δ){i:Nat}{ds es:List D}{a:Addr}{xs ys:List V}(hd:δ[i]? =some (.bld ds))(CS:σ[i]? =some (some (.ref a)))(hB:a∈B)(hH:H a=some (.lst xs))(r:aC K B H es ys) :
 dh K Z B (upd H a (.lst ys)) σ (δ.set i (.bld es))/\cZ B H B (upd H a (.lst ys)):=by
 have p:cZ B H B (upd H a (.lst ys)):=fun b o e nb=>⟨by rw[ba (fun(z:b=a)=>nb (by rw[z];exact hB))];exact e,nb⟩
 have hi:i < δ.length:=(List.getElem?_eq_some_iff.mp hd).1;refine⟨{
  len:=by rw[List.length_set];exact E.len
  bs:=fun b hb=>by
   by_cases z:b=a
   .subst z;exact⟨_,aV⟩
   .rw [ba z];exact E.bs b hb
  zb:=E.zb
  val:=fun j d e=>by
   by_cases h:i=j
   .subst h;rw [List.getElem?_set_self hi] at e;cases e
   .rw [List.getElem?_set_ne h] at e;obtain⟨v,q1,q2⟩:=E.val j d e;exact⟨v,q1,q2.a0 p⟩
  bld:=fun j fs e=>by
   by_cases h:i=j
   .subst h;rw [List.getElem?_set_self hi] at e;cases e;obtain⟨b,zs,q1,q2,q3,_,_⟩:=E.bld i ds hd;rw[CS] at q1;cases q1;exact⟨a,ys,CS,hB,q3,aV,r.a0 p⟩
   .rw [List.getElem?_set_ne h] at e;obtain⟨b,zs,q1,q2,q3,q4,q5⟩:=E.bld j fs e;have ne:b≠a:=fun z=>by subst z;exact h (E.dis i j b ds fs hd e CS q1)
    exact⟨b,zs,q1,q2,q3,by rw[ba ne];exact q4,q5.a0 p⟩
  dis:=fun j k b Ik Ih e1 e2 e3 e4=>by
   have f1:∃fs,δ[j]? =some (.bld fs):=by
    by_cases h:i=j
    .subst h;exact⟨ds,hd⟩
    .rw [List.getElem?_set_ne h] at e1;exact⟨_,e1⟩
   have f2:∃fs,δ[k]? =some (.bld fs):=by
    by_cases h:i=k
    .subst h;exact⟨ds,hd⟩
    .rw [List.getElem?_set_ne h] at e2;exact⟨_,e2⟩
   obtain⟨_,f1⟩:=f1;obtain⟨_,f2⟩:=f2;exact E.dis j k b _ _ f1 f2 e3 e4},p⟩
theorem Ev.grow{Z B:List Addr}{a:Addr}{o:HO}(zb:∀a∈Z,a∈B)(hZ:a ∉ Z)(p:cZ B H B (upd H a o)):Ev Z B H B (upd H a o):=
 ⟨p,fun b u e hb=>⟨by rw[ba (fun(z:b=a)=>hZ (by rw[<-z];exact hb))];exact e,zb b hb⟩⟩
def nQ(δ:av)(i:Nat):R (List D):=match δ[i]? with | some (.bld ds)=> .ok ds | _=> .no
theorem tW{δ:av}{i:Nat}{ds:List D}(h:nQ δ i= .ok ds):δ[i]? =some (.bld ds):=by
 unfold nQ at h;split at h
 .rename_i q;cases h;exact q
 .cases h
def Nv(i:Nat)(f:FD):FS:=fun δ=>(f δ).bind fun d=>(nQ δ i).bind fun ds=>R.a_ (decide (ds.length < sizeLine)) (.ok (.nx (δ.set i (.bld (ds++[d])))))
def Bh(i:Nat)(f:av->R (List D)):FS:=fun δ=>(f δ).bind fun es=>(nQ δ i).bind fun ds=>R.a_ (decide (ds.length+es.length<=sizeLine)) (.ok (.nx (δ.set i (.bld (ds++es)))))
theorem Cn{i:Nat}{x:Str}{e:Expr}{f:av->R (List D)}{gW apos cw pos:Pos}(hN:X.N[i]? =some x)(hv:Cq X.env.scope x)(he:PN X e f)
 (hd:(x==("__debug__":Str))=false:=by decide) (pE:(x==("__classdict__":Str))=false:=by decide)
 (hs:starEach [e] X.env=(false,eval e X.env) ::starEach [] X.env:=by rfl) (me:(apos.endLine==cw.line)=true:=by rfl)
 (rY:((backTo cw (starEach [e] X.env)).all (fun x=>!x.1) && (backToKw cw (keywordEach [] X.env)).all (fun x=>x.1.isSome)
   && decide (([e]:List Expr).length+([]:List Keyword).length+(if([]:List Keyword).isEmpty then 0 else 1) < 30))=true:=by rfl)
 (x_:swapsWith (.Call (.Attribute (.Name x gW) "extend" apos) [e] [] cw) none pos.line X.env=pure false:=by rfl)
 (md:attributeBase (.Name x gW) "extend" X.env (eval (.Name x gW) X.env)=eval (.Name x gW) X.env:=by rfl) :
 Ba X (.Expr (.Call (.Attribute (.Name x gW) "extend" apos) [e] [] cw) pos) (Bh i f):=by
 refine(nM (zT (X:=X) PySem.F.plainAttrs_list PySem.F.slot_list_extend PySem.F.type_list_extend xI (oi hN hv hd pE) (et he gO hs) md rY me hs) x_).imp fun D σ H ⟨Z,B,δ,o,E,hf,q⟩=>?_
 obtain⟨es,h1,h2⟩:=R.ao hf;obtain⟨ds,h3,h4⟩:=R.ao h2;obtain⟨hl,h5⟩:=R.bj h4;cases h5;have hb:=tW h3;obtain⟨a,xs,q1,q2,q3,q4,q5⟩:=E.bld i ds hb;refine⟨.ref a,q1, .inl ⟨rfl,xs,lE.of q4⟩,⟨Z,B,δ,es,E,h1,fun b ys H1 s1 n e r=>?_⟩⟩
 have E1:=E.same s1;have r':aC X.K B H1 es ys:=r.a0 fun b o e nb=>⟨e,fun hb=>nb (List.mem_cons_of_mem _ hb)⟩
 refine⟨a,b,xs,ys,rfl,rfl,s1 a _ q4,e,by rw[<-q5.length,<-r'.length];exact of_decide_eq_true hl,?_⟩
 obtain⟨E2,p2⟩:=E1.grow (es:=ds++es) (ys:=xs++ys) hb q1 q2 (s1 a _ q4) ((q5.same s1).append r');exact q σ B _ ((Ev.same E.zb s1).trans (Ev.grow E.zb q3 p2)) E2
def ic(i:Nat)(δ:av):av:=match δ[i]? with | some (.bld ds)=>δ.set i (.val (.lst ds)) | _=>δ
theorem dh.ic{K:W.Frag}{Z B:List Addr}{δ:av}(E:dh K Z B H σ δ)(i:Nat):∃B',Ev Z B H B' H/\dh K Z B' H σ (ic i δ):=by
 unfold L2.ic;cases hd:δ[i]? with
 | none=>exact⟨B,Ev.refl Z B H E.zb,E⟩
 | some x=>
   cases x with
   | un=>exact⟨B,Ev.refl Z B H E.zb,E⟩
   | val d=>exact⟨B,Ev.refl Z B H E.zb,E⟩
   | bld ds=>
     obtain⟨a,xs,q1,q2,q3,q4,q5⟩:=E.bld i ds hd;have hi:i < δ.length:=(List.getElem?_eq_some_iff.mp hd).1;have p:cZ B H (B.filter fun b=>decide (b≠a)) H:=fun b o e nb=>⟨e,fun hb=>nb (List.mem_filter.mp hb).1⟩
     have zb:∀b∈Z,b∈B.filter fun b=>decide (b≠a):=fun b hb=>List.mem_filter.mpr ⟨E.zb b hb,decide_eq_true fun z=>q3 (z▸hb)⟩
     refine⟨B.filter fun b=>decide (b≠a),⟨p,fun b o e hb=>⟨e,zb b hb⟩⟩,{
      len:=by rw[List.length_set];exact E.len
      bs:=fun b hb=>E.bs b (List.mem_filter.mp hb).1
      zb:=zb
      val:=fun j d e=>by
       by_cases h:i=j
       .subst h;rw [List.getElem?_set_self hi] at e;cases e;refine⟨.ref a,q1,?_⟩;unfold Rep;exact⟨a,xs,rfl, .inl ⟨fun hb=>by simpa using(List.mem_filter.mp hb).2, .inl q4⟩,q5.a0 p⟩
       .rw [List.getElem?_set_ne h] at e;obtain⟨v,z1,z2⟩:=E.val j d e;exact⟨v,z1,z2.a0 p⟩
      bld:=fun j fs e=>by
       by_cases h:i=j
       .subst h;rw [List.getElem?_set_self hi] at e;cases e
       .rw [List.getElem?_set_ne h] at e;obtain⟨b,zs,z1,z2,z3,z4,z5⟩:=E.bld j fs e;exact⟨b,zs,z1,List.mem_filter.mpr ⟨z2,decide_eq_true fun z=>by subst z;exact h (E.dis i j b ds fs hd e q1 z1)⟩,z3,z4,z5.a0 p⟩
      dis:=fun j k b Ik Ih e1 e2 e3 e4=>by
       by_cases h:i=j
       .subst h;rw [List.getElem?_set_self hi] at e1;cases e1
       .by_cases h':i=k
        .subst h';rw [List.getElem?_set_self hi] at e2;cases e2
        .rw [List.getElem?_set_ne h] at e1;rw[List.getElem?_set_ne h'] at e2;exact E.dis j k b Ik Ih e1 e2 e3 e4}⟩
def zf(i:Nat)(F:FS):FS:=fun δ=>F (ic i δ)
theorem Fj{K:W.Frag}{i:Nat}{F:FS}{D:Ends}(h:sD K (zf i F) D σ H):sD K F D σ H:=by
 obtain⟨Z,B,δ,o,E,hf,q⟩:=h;obtain⟨B1,ev,E1⟩:=E.ic i;refine⟨Z,B1,L2.ic i δ,o,E1,hf,?_⟩;cases o with
 | nx du=>exact fun cN B' H' Ax E'=>q cN B' H' (ev.trans Ax) E'
 | rt d=>exact fun v B' H' Ax z r=>q v B' H' (ev.trans Ax) z r
theorem B6(i:Nat){F:FS}(h:nB X DI F):nB X DI (zf i F):=h.imp fun D σ H h=>Fj h
def gP(f:FD):FS:=fun δ=>(f δ).bind fun d=> .ok (.rt d)
theorem A5(he:PD X e f):Ba X (.Return (some e) pos) (gP f):=(yB he).imp fun D σ H ⟨Z,B,δ,o,E,hf,q⟩=>by
 obtain⟨d,h1,h2⟩:=R.ao hf;cases h2;exact⟨Z,B,δ,d,E,h1,fun v H1 s1 r1=>q v B H1 (Ev.same E.zb s1) E.zb r1⟩
def tG(c:av->R Bool)(F G:FS):FS:=fun δ=>(c δ).bind fun b=>if b then F δ else G δ
theorem Ep{fc:av->R Bool}{F G:FS}(hc:PB X c fc)(ha:nB X a F)(hb:nB X b G):Ba X (.If c a b pos) (tG fc F G):=(Di hc ha hb).imp fun D σ H ⟨Z,B,δ,o,E,hf,q⟩=>by
 obtain⟨k,h1,h2⟩:=R.ao hf;refine⟨Z,B,δ,k,E,h1,fun H1 s1=>?_⟩
 have q':=q.ev (Ev.same E.zb s1);cases k with
 | true=>rw [if_pos rfl] at h2;exact Bk ⟨Z,B,δ,o,E.same s1,h2,q'⟩
 | false=>rw [if_neg (by decide)] at h2;exact BS ⟨Z,B,δ,o,E.same s1,h2,q'⟩
abbrev FT:=D->av->R av
def gD(K:W.Frag)(t:FT):TG:=fun v σ H Q=>∃Z B δ d du,dh K Z B H σ δ/\Rep K B H d v/\t d δ= .ok du/\∀cN H',aP H H'->dh K Z B H' cN du->cN.length=σ.length->Q cN H'
abbrev Ga(X:Cx)(tg:Expr)(t:FT):Prop:=PG X tg (gD X.K t)
def bc(i:Nat):FT:=fun d δ=>R.a_ (decide (i < δ.length)) (.ok (δ.set i (.val d)))
theorem z0{i:Nat}{pos:Pos}(hN:X.N.Nodup)(hi:X.N[i]? =some x)(hx:Loc X.env.scope x)(hf:X.fn x=true\/X.env.scope.names.lookup x=some .local:=by first | exact .inl rfl | exact .inr rfl | assumption):Ga X (.Name x pos) (bc i):=
 (vy hN hi hx hf).imp fun v σ H Q ⟨Z,B,δ,d,du,E,r,ht,q⟩=>by
   obtain⟨hi,h⟩:=R.bj ht;cases h;exact q _ H (aP.refl H) (E.set (by rw[<-E.len];exact of_decide_eq_true hi) r) (List.length_set ..)
abbrev zV:=List D->av->R av
def M3(K:W.Frag)(t:zV):yk:=fun vs σ H Q=>∃Z B δ ds du,dh K Z B H σ δ/\aC K B H ds vs/\t ds δ= .ok du/\∀cN H',aP H H'->dh K Z B H' cN du->cN.length=σ.length->Q cN H'
abbrev Ab(X:Cx)(ts:List Expr)(t:zV):Prop:=AZ X ts (M3 X.K t)
theorem AZ.imp{X:Cx}{t t':yk}(h:AZ X e t)(w:∀v σ H Q,t' v σ H Q->t v σ H Q):AZ X e t':=fun pins s σ H v u Q I r hq=>h pins s σ H v u Q I r (w v σ H Q hq)
def fD:zV:=fun ds δ=>match ds with | []=> .ok δ | _=> .no
def bH(t:FT)(u:zV):zV:=fun ds δ=>match ds with | d ::r=>(t d δ).bind fun du=>u r du | []=> .no
theorem zc:Ab X [] fD:=vQ.imp fun vs σ H Q ⟨Z,B,δ,ds,du,E,r,ht,q⟩=>by
 cases ds with
 | nil=>unfold aC at r;cases ht;exact⟨r,q σ H (aP.refl H) E rfl⟩
 | cons=>cases ht
theorem xg{u:zV}(h1:Ga X e t)(h2:Ab X es u)(hs:(assignEach (e ::es) X.env).map (·.2)=assign e X.env ::(assignEach es X.env).map (·.2):=by rfl):Ab X (e ::es) (bH t u):=
 (tF h1 h2 hs).imp fun vs σ H Q ⟨Z,B,δ,ds,du,E,r,ht,q⟩=>by
   cases ds with
   | nil=>cases ht
   | cons d ds=>
     obtain⟨x,xs,rfl,r1,r2⟩:=r.bW;obtain⟨δ1,h1,h2⟩:=R.ao ht;exact⟨x,xs,rfl,Z,B,δ,d,δ1,E,r1,h1,fun Ir H1 s1 E1 l1=>⟨Z,B,δ1,ds,du,E1,r2.same s1,h2,fun r9 H2 s2 E2 l2=>q r9 H2 (s1.trans s2) E2 (l2.trans l1)⟩⟩
def fE(n:Nat)(t:zV):FT:=fun d δ=>match d with | .tup ds=>R.a_ (decide (ds.length=n)) (t ds δ) | _=> .no
theorem CH{k:Nat}{t:zV}{n:Nat}{pos:Pos}(hc:X.calm=true)(h:Ab X es t)(hn:(assignEach es X.env).length=n:=by rfl)(CN:(assignEach es X.env).findIdx? (·.1)=none:=by rfl):Ga X (.Tuple es k pos) (fE n t):=
 (zG hc h hn CN).imp fun v σ H Q ⟨Z,B,δ,d,du,E,r,ht,q⟩=>by
   cases d with
   | tup ds=>
     unfold Rep at r;obtain⟨a,xs,rfl,l,r⟩:=r;obtain⟨hl,h⟩:=R.bj ht;exact⟨a,xs,rfl,l.sq,by rw[<-r.length];exact of_decide_eq_true hl,Z,B,δ,ds,du,E,r,h,q⟩
   | _=>cases ht
def NQ(f:FD)(t:FT):FS:=fun δ=>(f δ).bind fun d=>(t d δ).bind fun du=> .ok (.nx du)
def zL(K:W.Frag)(B:List Addr)(H:Hp)(J:It)(ds:List D):Prop:=∀B' H',cZ B H B' H'->(∀(i:Nat) (d:D),ds[i]? =some d->J.go i H'/\∀x lF,J.yld i H' x lF->(∀a∈B',∃o,H' a=some o)->aP H' lF/\Rep K B' lF d x)/\J.stop ds.length H'
def iD(K:W.Frag)(f:av->R (List D)):TI:=fun σ H R=>∃Z B δ ds,dh K Z B H σ δ/\f δ= .ok ds/\∀J H1,aP H H1->zL K B H1 J ds->R J H1
abbrev Gi(X:Cx)(tg e:Expr)(f:av->R (List D)):Prop:=PI X tg e (iD X.K f)
def c8(f:FD):av->R (List D):=fun δ=>(f δ).bind fun d=>match d with | .lst ds=> .ok ds | .tup ds=> .ok ds | _=> .no
theorem BY(h:PD X e f):Gi X tg e (c8 f):=by
 intro pins s σ H RR I ⟨Z,B,δ,ds,E,hf,q⟩;obtain⟨d,h1,h2⟩:=R.ao hf;refine dG (h pins s σ H (fun v H1=>aP H H1/\Rep X.K B H1 d v) I ⟨Z,B,δ,d,E,h1,fun v H1 s1 r1=>⟨s1,r1⟩⟩) fun v s1 ⟨x,H1,I1,r1,ss,rr⟩=>?_
 cases d with
 | lst es=>
   cases h2;unfold Rep at rr;obtain⟨a,xs,rfl,l,rr⟩:=rr;cases r1;obtain⟨its,rv,p,hz⟩:=I1.list l.sq;refine wpAny_pyIter_list p.isList ?_;refine⟨s1.heap.objs.size,[s1.heap.objs.size],_,_,H1,rfl,I1.kept (t':=s1.toks) fun b o e=>Heap.get?_push_of_some _ e,i4 a _,⟨_,Heap.get?_push_size _ rfl,rfl,rfl⟩,fun b hb=>?_,q _ H1 ss fun B' H' pr=>?_⟩
   .have e:b=s1.heap.objs.size:=by simpa using hb
    subst e;exact I1.uW (Nat.le_refl _) (I1.hok.fresh (Nat.le_refl _))
   .have l':se X.K B' H' a xs:=l.a0 pr;have rr':=rr.a0 pr;refine⟨fun i d hd=>?_,⟨xs,l'.sq,by rw[rr.length];exact Nat.le_refl _⟩⟩
    obtain⟨x,hx,rx⟩:=rr'.get hd;exact⟨⟨xs,x,l'.sq,hx⟩,fun y lF ⟨e1,e2⟩ _=>by
     subst e1;have:=e2 xs l'.sq;rw[hx] at this;cases this;exact⟨aP.refl _,rx⟩⟩
 | tup es=>
   cases h2;unfold Rep at rr;obtain⟨a,xs,rfl,l,rr⟩:=rr;cases r1;obtain⟨its,rv,p,hz⟩:=I1.tuple l.sq;refine wpAny_pyIter_tuple (show s1.heap.IsTuple a its.toArray from p) ?_
   refine⟨s1.heap.objs.size,[s1.heap.objs.size],_,_,H1,rfl,I1.kept (t':=s1.toks) fun b o e=>Heap.get?_push_of_some _ e,uD a _,⟨_,Heap.get?_push_size _ rfl,rfl,rfl⟩,fun b hb=>?_,q _ H1 ss fun B' H' pr=>?_⟩
   .have e:b=s1.heap.objs.size:=by simpa using hb
    subst e;exact I1.uW (Nat.le_refl _) (I1.hok.fresh (Nat.le_refl _))
   .have l':uj X.K B' H' a xs:=l.elim (fun z=> .inl ⟨(pr.rd z.2 z.1).2,(pr.rd z.2 z.1).1⟩) .inr
    have rr':=rr.a0 pr;refine⟨fun i d hd=>?_,⟨xs,l'.sq,by rw[rr.length];exact Nat.le_refl _⟩⟩
    obtain⟨x,hx,rx⟩:=rr'.get hd;exact⟨⟨xs,x,l'.sq,hx⟩,fun y lF ⟨e1,e2⟩ _=>by
     subst e1;have:=e2 xs l'.sq;rw[hx] at this;cases this;exact⟨aP.refl _,rx⟩⟩
 | _=>cases h2
def il(lo:Int)(n:Nat):List D:=(List.range n).map fun(i:Nat)=>D.int (lo+i)
theorem Fz{K:W.Frag}{B:List Addr}(lo:Int)(n:Nat):zL K B H (G1 lo n) (il lo n):=fun B' H' _=>by
 refine⟨fun i d hd=>?_,?_⟩
 .unfold il at hd;rw[List.getElem?_map] at hd;cases e:(List.range n)[i]? with
  | none=>rw [e] at hd;cases hd
  | some j=>
    rw[e] at hd;cases hd;obtain⟨hi,ej⟩:=List.getElem?_eq_some_iff.mp e;rw[List.getElem_range] at ej;subst ej;rw[List.length_range] at hi;exact⟨hi,fun x lF ⟨e1,e2⟩ _=>by subst e1 e2;exact⟨aP.refl _,by unfold Rep;rfl⟩⟩
 .show n<=(il lo n).length;unfold il;rw[List.length_map,List.length_range];exact Nat.le_refl _
def cV(f:FD):av->R (List D):=fun δ=>(f δ).bind fun d=>match d with | .int j=>R.a_ (decide (-(2 ^ 62)<=j/\j < 2 ^ 62)) (.ok (il 0 j.toNat)) | _=> .no
theorem uv{tg a:Expr}{p pos:Pos}(h:PD X a f)(hg:Gl X "range")(hm:X.mg "range"=none)(hs:starEach [a] X.env=[(false,eval a X.env)]:=by rfl):Gi X tg (.Call (.Name "range" p) [a] [] pos) (cV f):=
 (w_ hg hm (et h gO hs) hs).imp fun σ H RR ⟨Z,B,δ,ds,E,hf,q⟩=>by
   obtain⟨d,h1,h2⟩:=R.ao hf;cases d with
   | int j=>
     obtain⟨hb,h3⟩:=R.bj h2;cases h3;have hb:=of_decide_eq_true hb;refine⟨Z,B,δ, .int j,E,h1,fun v H1 s1 r1=>⟨j,?_,hb.1,hb.2,q _ H1 s1 (Fz 0 _)⟩⟩
     unfold Rep at r1;rw[r1]
   | _=>cases h2
def Jb(f g:FD):av->R (List D):=fun δ=>(f δ).bind fun d=>(g δ).bind fun e=>match d,e with
 | .int i, .int j=>R.a_ (decide (-(2 ^ 62)<=i/\i < 2 ^ 62/\ -(2 ^ 62)<=j/\j < 2 ^ 62)) (.ok (il i (j - i).toNat)) | _,_=> .no
def mR(t:FT)(body:FS):List D->FS
 | [],δ=> .ok (.nx δ)
 | d ::ds,δ=>(t d δ).bind fun δ1=>(body δ1).bind fun o=>match o with | .nx ft=>mR t body ds ft | .rt r=> .ok (.rt r)
def wZ(it:av->R (List D))(t:FT)(body:FS):FS:=fun δ=>(it δ).bind fun ds=>mR t body ds δ
theorem AX{tg iter:Expr}{body:List Stmt}{it:av->R (List D)}{t:FT}{F:FS}{pos:Pos}(hp:PassesOwn (model X.prog X.w) X.A X.env X.xe)(hc:X.calm=true)(hi:Gi X tg iter it)(hg:Ga X tg t)(hb:nB X body F)
 (hs:∀x,foldedSetIterable iter X.env x=pure x:=by intro _;rfl):Ba X (.For tg iter body [] pos) (wZ it t F):=(yA hp hc hi hg hb hs).imp fun D σ H ⟨Z,B,δ,o,E,hf,q⟩=>by
 obtain⟨ds,h1,h2⟩:=R.ao hf;refine⟨Z,B,δ,ds,E,h1,fun J H1 s1 ir=>?_⟩
 refine⟨fun i m cN H'=>m=ds.length - i/\i<=ds.length/\∃B' du,Ev Z B H1 B' H'/\dh X.K Z B' H' cN du/\mR t F (ds.drop i) du= .ok o,⟨ds.length,rfl,Nat.zero_le _,B,δ,Ev.refl Z B H1 E.zb,E.same s1,by simpa using h2⟩,?_⟩
 rintro i m cN H' ⟨rfl,hi,B',du,ev,E',hl⟩;obtain⟨go,stop⟩:=ir B' H' ev.a0;by_cases hlt:i < ds.length
 .have hd:ds[i]? =some ds[i]:=List.getElem?_eq_getElem hlt;have hdrop:ds.drop i=ds[i] ::ds.drop (i+1):=List.drop_eq_getElem_cons hlt;rw[hdrop] at hl;obtain⟨δ1,h3,h4⟩:=R.ao hl;obtain⟨o1,h5,h6⟩:=R.ao h4;obtain⟨g1,g2⟩:=go i _ hd;refine .inr ⟨g1,fun r9 H2=>∃B2 ft,Ev Z B H1 B2 H2/\dh X.K Z B2 H2 r9 ft/\mR t F (ds.drop (i+1)) ft= .ok o,fun r9 H2 n=>⟨ds.length - (i+1),by omega,rfl,hlt,n⟩,fun x lF y=>?_⟩
  obtain⟨ss,rr⟩:=g2 x lF y E'.bs;refine⟨Z,B',du,ds[i],δ1,E'.same ss,rr,h3,fun r9 H2 s2 E2 l2=>⟨Z,B',δ1,o1,E2,h5,?_⟩⟩
  have ev2:Ev Z B H1 B' H2:=ev.trans (Ev.same E'.zb (ss.trans s2));cases o1 with
  | nx ft=>exact fun CP B3 H3 KU E3=>⟨B3,ft,ev2.trans KU,E3,h6⟩
  | rt d=>
    cases h6;exact fun v B3 H3 KU z r=>q v B3 H3 ((Ev.same E.zb s1).trans (ev2.trans KU)) z r
 .have e:i=ds.length:=by omega
  subst e;rw[List.drop_length] at hl;cases hl;exact .inl ⟨stop,q cN B' H' ((Ev.same E.zb s1).trans ev) E'⟩
def zw(c:av->R Bool)(body:FS):Nat->FS
 | 0,_=> .no
 | n+1,δ=>(c δ).bind fun b=>if b then(body δ).bind fun o=>match o with | .nx ft=>zw c body n ft | .rt r=> .ok (.rt r) else .ok (.nx δ)
def Ju(n:Nat)(c:av->R Bool)(body:FS):FS:=fun δ=>zw c body n δ
def ka(δ:av)(i:Nat):Sl:=match δ[i]? with | some (.val d)=> .val d | _=> .un
def nC(own:List Str)(kp:List Nat)(δ:av):av:=List.replicate own.length .un++kp.map (ka δ)
def l6(t:FT)(c:av->R Bool)(f:FD)(δ:av):List D->R (List D)
 | []=> .ok []
 | d ::ds=>(t d δ).bind fun δ1=>(c δ1).bind fun b=>if b then(f δ1).bind fun y=>(l6 t c f δ ds).bind fun ys=> .ok (y ::ys) else l6 t c f δ ds
def dy(it:av->R (List D))(t:FT)(c:av->R Bool)(f:FD)(own:List Str)(kp:List Nat):av->R (List D):=fun δ=>(it δ).bind fun ds=>R.a_ (decide (ds.length<=sizeLine)) (l6 t c f (nC own kp δ) ds)
theorem Ej{K:W.Frag}{Z B B':List Addr}{H H':Hp}{δ:av}{own:List Str}{kp:List Nat}(E:dh K Z B H σ δ)(p:cZ B H B' H')(hB:∀a∈B',∃o,H' a=some o):dh K [] B' H' (cR own kp σ) (nC own kp δ) where
 len:=by unfold cR nC;simp
 bs:=hB
 zb:=fun a ha=>by cases ha
 val:=fun i d e=>by
  unfold nC at e;unfold cR;by_cases hi:i < own.length
  .rw [List.getElem?_append_left (by simpa using hi),List.getElem?_replicate] at e
   split at e <;> cases e
  .rw [List.getElem?_append_right (by simpa using hi),List.length_replicate,List.getElem?_map] at e ⊢
   cases q:kp[i - own.length]? with
   | none=>rw [q] at e;cases e
   | some j=>
     rw[q] at e;have e:ka δ j= .val d:=Option.some.inj e;unfold ka at e;split at e
     .rename_i d' ed;cases e;obtain⟨v,h1,h2⟩:=E.val j d ed;exact⟨v,by simp [h1],h2.a0 p⟩
     .cases e
 bld:=fun i ds e=>by
  unfold nC at e;by_cases hi:i < own.length
  .rw [List.getElem?_append_left (by simpa using hi),List.getElem?_replicate] at e
   split at e <;> cases e
  .rw [List.getElem?_append_right (by simpa using hi),List.length_replicate,List.getElem?_map] at e
   cases q:kp[i - own.length]? with
   | none=>rw [q] at e;cases e
   | some j=>
     rw[q] at e;have e:ka δ j= .bld ds:=Option.some.inj e;unfold ka at e;split at e <;> cases e
 dis:=fun i j a ds es e=>by
  unfold nC at e;by_cases hi:i < own.length
  .rw [List.getElem?_append_left (by simpa using hi),List.getElem?_replicate] at e
   split at e <;> cases e
  .rw [List.getElem?_append_right (by simpa using hi),List.length_replicate,List.getElem?_map] at e
   cases q:kp[i - own.length]? with
   | none=>rw [q] at e;cases e
   | some j=>
     rw[q] at e;have e:ka δ j= .bld ds:=Option.some.inj e;unfold ka at e;split at e <;> cases e
theorem AV{K:W.Frag}{it:av->R (List D)}{c:av->R Bool}{own:List Str}{kp:List Nat}{Q:VK}(h:tN K (dy it t c f own kp) σ H Q) :
 wF (iD K it) (gD K t) (Ey K c) (tD K f) own kp σ H Q:=by
 obtain⟨Z,B,δ,ds,E,hf,q⟩:=h;obtain⟨es,h1,h2⟩:=R.ao hf;obtain⟨hl,h3⟩:=R.bj h2;have hl:=of_decide_eq_true hl;refine⟨Z,B,δ,es,E,h1,fun J H1 s1 ir Dd hD=>?_⟩
 have E1:=E.same s1;have pD:cZ B H1 (Dd ::B) (upd H1 Dd (.lst [])):=lL hD;refine⟨fun i m ys H'=>m=es.length - i/\i<=es.length/\ys.length<=i/\H' Dd=some (.lst ys)/\aP H1 H'/\∃done rest,ds=done++rest/\aC K (Dd ::B) H' done ys/\l6 t c f (nC own kp δ) (es.drop i)= .ok rest,
  ⟨es.length,rfl,Nat.zero_le _,Nat.le_refl _,aV,aU hD,[],ds,rfl,aC.nil,by simpa using h3⟩,?_⟩
 rintro i m ys H' ⟨rfl,hi,hy,hDl,ss,done,rest,rfl,rd,hc⟩;have dB:Dd ∉ B:=fun hb=>by obtain⟨o,ho⟩:=E1.bs Dd hb;rw [hD] at ho;cases ho
 have p':cZ B H1 (Dd ::B) H':=fun b o e nb=>⟨ss b o e,fun hb=>by
  rcases List.mem_cons.mp hb with z | z
  .exact b_ e hD z
  .exact nb z⟩
 have Gp:∀a∈Dd ::B,∃o,H' a=some o:=fun a ha=>by
  rcases List.mem_cons.mp ha with z | z
  .subst z;exact⟨_,hDl⟩
  .obtain⟨o,ho⟩:=E1.bs a z;exact⟨o,ss a o ho⟩
 obtain⟨go,stop⟩:=ir (Dd ::B) H' p';by_cases hlt:i < es.length
 .have hd:es[i]? =some es[i]:=List.getElem?_eq_getElem hlt;have hdrop:es.drop i=es[i] ::es.drop (i+1):=List.drop_eq_getElem_cons hlt;rw[hdrop] at hc;obtain⟨δ1,h4,h5⟩:=R.ao hc;obtain⟨b,h6,h7⟩:=R.ao h5;obtain⟨g1,g2⟩:=go i _ hd;refine .inr ⟨g1,fun x H2 y=>?_⟩
  obtain⟨sy,ry⟩:=g2 x H2 y Gp;have Ec:dh K [] (Dd ::B) H2 (cR own kp σ) (nC own kp δ):=Ej E1 (p'.trans (cZ.same sy)) fun a ha=>let⟨o,ho⟩:=Gp a ha;⟨o,sy a o ho⟩
  refine⟨[],Dd ::B,nC own kp δ,es[i],δ1,Ec,ry,h4,fun CP H3 s3 E3 _=>⟨[],Dd ::B,δ1,b,E3,h6,fun H4 s4=>?_⟩⟩
  have sAll:aP H' H4:=sy.trans (s3.trans s4);cases b with
  | true=>
    rw[if_pos rfl] at h7;refine Bk ?_;obtain⟨yv,h8,h9⟩:=R.ao h7;obtain⟨rs,KI,FR⟩:=R.ao h9;cases FR;refine⟨[],Dd ::B,δ1,yv,E3.same s4,h8,fun v H5 s5 r5=>?_⟩
    have s':aP H' H5:=sAll.trans s5;have KA:H5 Dd=some (.lst ys):=s' Dd _ hDl;have pu:cZ (Dd ::B) H5 (Dd ::B) (upd H5 Dd (.lst (ys++[v]))):=fun b o e nb=>⟨by rw[ba (fun(z:b=Dd)=>nb (by rw[z];exact List.mem_cons_self))];exact e,nb⟩
    refine⟨KA,by omega,es.length - (i+1),by omega,rfl,hlt,by rw[List.length_append,List.length_singleton];omega,aV,fun b o e=>?_,done++[yv],rs,by simp,((rd.same s').append (aC.cons r5 aC.nil)).a0 pu,KI⟩
    rw[ba (b_ e hD)];exact s' b o (ss b o e)
  | false=>
    rw[if_neg (by decide)] at h7
    refine BS ?_;exact⟨es.length - (i+1),by omega,rfl,hlt,by omega,sAll Dd _ hDl,ss.trans sAll,done,rest,rfl,rd.same sAll,h7⟩
 .have e:i=es.length:=by omega
  subst e;rw[List.drop_length] at hc;cases hc;rw[List.append_nil] at q;exact .inl ⟨stop,q Dd ys H' (s1.trans ss) (s1.free hD) hDl rd⟩
theorem CA{scope:Scope}{own:List Str}{kp:List Nat}{kn:List Str}{tg iter elt:Expr}{ifs:List Expr}{it:av->R (List D)}{t:FT}{c:av->R Bool}{f:FD}{pos:Pos}(hc:X.calm=true)(C:bz X scope own kp kn)(hi:Gi X tg iter it)
 (hg:∀fp s H,Ga (bF X scope (own++kn) fp s H) tg t) (AJ:∀fp s H,mi (bF X scope (own++kn) fp s H) ifs (Ey X.K c)) (he:∀fp s H,PD (bF X scope (own++kn) fp s H) elt f)
 (hs:∀x,foldedSetIterable iter X.env x=pure x:=by intro _;rfl):PN X (.ListComp elt [⟨tg,iter,ifs,0⟩] scope pos) (dy it t c f own kp):=
 (vW hc C hi hg AJ he hs).imp fun σ H Q h=>AV h
def jn:av->R Bool:=fun _=> .ok true
theorem yX:mi X [] (Ey X.K jn):=fun pins s σ H Q I ⟨Z,B,δ,b,E,hf,q⟩=>sL pins s σ H Q I (by cases hf;exact q H (aP.refl H))
theorem A7{c:av->R Bool}(h:PB X e c):mi X [e] (Ey X.K c):=t5 h
end
def cY(N:List Str)(ds:List D):av:=ds.map .val++List.replicate (N.length - ds.length) .un
def qE(N:List Str)(F:FS):List D->R D:=fun ds=>(F (cY N ds)).bind fun o=>match o with | .rt d=> .ok d | .nx _=> .ok .cL
theorem By{K:W.Frag}{B:List Addr}{H:Hp}{N:List Str}{ds:List D}{vs:List V}(hB:∀a∈B,∃o,H a=some o)(r:aC K B H ds vs):dh K B B H (start N vs) (cY N ds) where
 len:=by unfold start cY;simp [r.length]
 bs:=hB
 zb:=fun a ha=>ha
 val:=fun i d e=>by
  unfold cY at e;unfold start;by_cases hi:i < ds.length
  .rw [List.getElem?_append_left (by simpa using hi),List.getElem?_map] at e
   cases q:ds[i]? with
   | none=>rw [q] at e;cases e
   | some d'=>
     rw[q] at e;cases e;obtain⟨x,h1,h2⟩:=r.get q;exact⟨x,by rw[List.getElem?_append_left (by rw[List.length_map,<-r.length];exact hi),List.getElem?_map,h1];rfl,h2⟩
  .rw [List.getElem?_append_right (by simpa using hi),List.getElem?_replicate] at e
   split at e <;> cases e
 bld:=fun i es e=>by
  unfold cY at e;by_cases hi:i < ds.length
  .rw [List.getElem?_append_left (by simpa using hi),List.getElem?_map] at e
   cases q:ds[i]? with
   | none=>rw [q] at e;cases e
   | some d'=>rw [q] at e;cases e
  .rw [List.getElem?_append_right (by simpa using hi),List.getElem?_replicate] at e
   split at e <;> cases e
 dis:=fun i j a es fs e=>by
  unfold cY at e;by_cases hi:i < ds.length
  .rw [List.getElem?_append_left (by simpa using hi),List.getElem?_map] at e
   cases q:ds[i]? with
   | none=>rw [q] at e;cases e
   | some d'=>rw [q] at e;cases e
  .rw [List.getElem?_append_right (by simpa using hi),List.getElem?_replicate] at e
   split at e <;> cases e
theorem CJ{P:Program}{w:World}{K:W.Frag}{mg:PY}{base:Heap}{x qual:Str}{st:Stmt}{f:Addr}{fd:FuncData}{N ps:List Str}{k:Nat}{F:FS}(Fn:wb K x qual st f fd)(S:bp N ps (aJ st))
 (i9:∀(dC:Value) (A:Around) (outer:List Env) (s:Shared) (H:Hp) (E:XK),fF k (A.deeper (envOfC qual (aJ st) s.heap.objs.size f dC))->
   nB (og p9 P w K mg base N qual (aJ st) f dC A outer s H E).Cw (a9 st) F):iY P w K mg base p9 (k+1) f fd ps (BL K ps.length (qE N F)):=by
 refine Fn.ok S (fun vs H Q E h=>h.1) (fun dC A outer s H vs Q E hr h=>⟨_,i9 dC A outer s H E hr,?_⟩)
 obtain⟨_,B,ds,d,hB,r,hg,q⟩:=h;obtain⟨o,h1,h2⟩:=R.ao hg;refine⟨B,B,cY N ds,o,By hB r,h1,?_⟩;have sm:∀{B':List Addr} {H':Hp},Ev B B H B' H'->aP H H':=fun {B' H'} ev b u e=>by
  by_cases hb:b∈B
  .exact(ev.zs b u e hb).1
  .exact(ev.a0 b u e hb).1
 cases o with
 | nx du=>
   cases h2;exact fun cN B' H' ev _=>q _ H' (sm ev) (by unfold Rep;rfl)
 | rt d'=>
   cases h2;exact fun v B' H' ev z rr=>q v H' (sm ev) (rr.a0 fun b o e nb=>⟨e,fun hb=>nb (z b hb)⟩)
end L2
end
section
namespace L2
open PySem PySem.Spec PyProof.Rows
theorem Rep.int{K:W.Frag}{B:List Addr}{i:Int}{v:V}:Rep K B H (.int i) v↔v= .int i:=by unfold Rep;exact Iff.rfl
theorem Rep.bl{K:W.Frag}{B:List Addr}{i:Bool}{v:V}:Rep K B H (.bl i) v↔v= .bl i:=by unfold Rep;exact Iff.rfl
theorem Rep.str{K:W.Frag}{B:List Addr}{v:V}:Rep K B H (.str i) v↔v= .str i:=by unfold Rep;exact Iff.rfl
theorem Rep.cL{K:W.Frag}{B:List Addr}{v:V}:Rep K B H .cL v↔v= .cL:=by unfold Rep;exact Iff.rfl
theorem Rep.lst{K:W.Frag}{B:List Addr}{ds:List D}{v:V}:Rep K B H (.lst ds) v↔∃a xs,v= .ref a/\se K B H a xs/\aC K B H ds xs:=by rw[Rep]
theorem Rep.tup{K:W.Frag}{B:List Addr}{ds:List D}{v:V}:Rep K B H (.tup ds) v↔∃a xs,v= .ref a/\uj K B H a xs/\aC K B H ds xs:=by rw[Rep]
section
variable {X:Cx}
theorem jR.of{f:Value->Value->Sem Value}{r:R2}{g:D->D->R D}(h:jT X f r)
 (w:∀(B:List Addr) (H:Hp) (da db d:D) (x y:V) (Q:VK),(∀a∈B,∃o,H a=some o)->Rep X.K B H da x->Rep X.K B H db y->g da db= .ok d->(∀z H',aP H H'->Rep X.K B H' d z->Q z H')->r x y H Q):jR X f g:=by
 intro pins s σ H B da db d x y v u I hb rx ry ra rb hg;exact h pins s σ H x y v u _ I rx ry (w B H da db d x y _ hb ra rb hg fun z H' s1 r1=>⟨s1,r1⟩)
theorem cv.of{f:Value}{r:List V->Hp->VK->Prop}{g:List D->R D}(h:j4 X f r)
 (w:∀(B:List Addr) (H:Hp) (ds:List D) (d:D) (xs:List V) (Q:VK),(∀a∈B,∃o,H a=some o)->aC X.K B H ds xs->g ds= .ok d->(∀z H',aP H H'->Rep X.K B H' d z->Q z H')->r xs H Q):cv X f g:=by
 intro pins s σ H B ds d xs us I hb rx rs hg;exact h pins s σ H xs us _ I rx (w B H ds d xs _ hb rs hg fun z H' s1 r1=>⟨s1,r1⟩)
theorem cv.or{f:Value}{g g1 g2:List D->R D}(h1:cv X f g1)(h2:cv X f g2)(e:∀a d,g a= .ok d->g1 a= .ok d\/g2 a= .ok d):cv X f g:=by
 intro pins s σ H B ds d xs us I hb rx rs hg;rcases e ds d hg with q | q
 .exact h1 pins s σ H B ds d xs us I hb rx rs q
 .exact h2 pins s σ H B ds d xs us I hb rx rs q
def yR(C:Int->Int->Bool)(g:Int->Int->Int):D->D->R D
 | .int i, .int j=>R.a_ (C i j) (.ok (.int (g i j)))
 | _,_=> .no
theorem sE{f:Value->Value->Sem Value}{C:Int->Int->Bool}{Cp:Int->Int->Prop}{g:Int->Int->Int}(h:jT X f (rI Cp fun i j=> .int (g i j)))(hc:∀i j,C i j=true->Cp i j):jR X f (yR C g):=
 jR.of h fun B H da db d x y Q _ ra rb hg q=>by
  unfold yR at hg;split at hg
  .obtain⟨h1,h2⟩:=R.bj hg;cases h2;exact⟨_,_,Rep.int.mp ra,Rep.int.mp rb,hc _ _ h1,q _ H (aP.refl H) (Rep.int.mpr rfl)⟩
  .cases hg
def wV(g:Int->Int->Int):D->D->R D
 | .int i, .int j=> .ok (.int (g i j))
 | _,_=> .no
theorem qR{f:Value->Value->Sem Value}{g:Int->Int->Int}(h:jT X f (zE fun i j=> .int (g i j))):jR X f (wV g):=
 jR.of h fun B H da db d x y Q _ ra rb hg q=>by
  unfold wV at hg;split at hg
  .cases hg;exact⟨_,_,Rep.int.mp ra,Rep.int.mp rb,q _ H (aP.refl H) (Rep.int.mpr rfl)⟩
  .cases hg
def Gg(g:Int->Int->Bool):D->D->R D
 | .int i, .int j=> .ok (.bl (g i j))
 | _,_=> .no
theorem Ds{f:Value->Value->Sem Value}{g:Int->Int->Bool}(h:jT X f (zE fun i j=> .bl (g i j))):jR X f (Gg g):=
 jR.of h fun B H da db d x y Q _ ra rb hg q=>by
  unfold Gg at hg;split at hg
  .cases hg;exact⟨_,_,Rep.int.mp ra,Rep.int.mp rb,q _ H (aP.refl H) (Rep.bl.mpr rfl)⟩
  .cases hg
abbrev lJ:D->D->R D:=wV fun i j=>i - j
theorem l9:jR X (binaryOp .Sub) lJ:=qR D0
abbrev mS:D->D->R D:=yR (fun _ j=>decide (0 < j/\j < 1073741824)) fun i j=>i / j
theorem uH:jR X (binaryOp .FloorDiv) mS:=sE BN fun i j h=>(of_decide_eq_true h:0 < j/\j < 1073741824)
abbrev fG:D->D->R D:=yR (fun _ j=>decide (0 < j)) fun i j=>i % j
theorem eM:jR X (binaryOp .Mod) fG:=sE DQ fun i j h=>of_decide_eq_true h
abbrev xp:D->D->R D:=yR (fun i j=>decide (0<=j/\j<=1000000/\i.natAbs < 2 ^ 64)) fun i j=>i ^ j.toNat
theorem yO:jR X (binaryOp .Pow) xp:=sE ER fun i j h=>(of_decide_eq_true h:0<=j/\j<=1000000/\i.natAbs < 2 ^ 64)
abbrev Bn:D->D->R D:=yR (fun _ j=>decide (0<=j)) fun i j=>i / 2 ^ j.toNat
theorem DA:jR X (binaryOp .RShift) Bn:=sE EZ fun i j h=>of_decide_eq_true h
abbrev Dz:D->D->R D:=wV fun i j=>Builtin.bitAnd i j
theorem Aa:jR X (binaryOp .BitAnd) Dz:=qR Fu
abbrev HL:D->D->R D:=wV fun i j=>Builtin.bitOr i j
theorem DU:jR X (binaryOp .BitOr) HL:=qR GY
abbrev Df:D->D->R D:=wV fun i j=>Builtin.bitXor i j
theorem CF:jR X (binaryOp .BitXor) Df:=qR En
abbrev Pd:D->D->R D:=Gg fun i j=>decide (i < j)
abbrev OZ:D->D->R D:=Gg fun i j=>decide (i<=j)
abbrev y0:D->D->R D:=Gg fun i j=>decide (j < i)
theorem zo:jR X (compareOp .Gt) y0:=Ds GO
abbrev J6:D->D->R D:=Gg fun i j=>decide (j<=i)
theorem Jy:jR X (compareOp .GtE) J6:=Ds Hm
theorem se.oe{K:W.Frag}{B:List Addr}{H:Hp}{a:Addr}{xs:List V}(h:H a=some (.lst xs))(n:a ∉ B):se K B H a xs:= .inl ⟨n, .inl h⟩
theorem Inv.Fc{pins:PM}{s:Shared}{a:Addr}{xs:List V}{B:List Addr}(I:Inv X pins σ H s)(h:se X.K B H a xs):∃(its:List Value) (n:Nat),Vals xs its/\s.heap.get? a=some {cls:= .type "list",data:= .seq its.toArray n}/\xs.length<=sizeLine:=by
 rcases h with⟨_,h⟩ | ⟨its,n,hk,hz,r⟩
 .obtain⟨z,its,n,r,e⟩:=h.ok I.hok;exact⟨its,n,r,e,z⟩
 .exact⟨its,n,r,I.EK a _ hk,hz⟩
theorem Bd:jT X (binaryOp .Add) (fun x y H Q=>∃B l b xs zs,x= .ref l/\y= .ref b/\se X.K B H l xs/\se X.K B H b zs/\xs.length+zs.length<=sizeLine/\∀p,H p=none->Q (.ref p) (upd H p (.lst (xs++zs)))):=by
 intro pins s σ H x y v u Q I rx ry h;obtain⟨B,l,b,xs,zs,rfl,rfl,hH,hB,hz,q⟩:=h;cases rx;cases ry;obtain⟨its,n,r,e,_⟩:=I.Fc hH;obtain⟨kO,n2,r2,e2,_⟩:=I.Fc hB;have l1:=r.length;have l2:=r2.length;refine PySem.P.add_list e e2 ?_ (by rw[List.size_toArray,List.size_toArray];omega)
 have ea:its.toArray++kO.toArray=(its++kO).toArray:=by simp
 rw[ea];exact⟨.ref _,_,I.Bx (t':=s.toks) (r.append r2) (by rw[List.length_append];omega),rfl,q _ I.fresh⟩
def cf:D->D->R D
 | .int i, .int j=> .ok (.int (i+j))
 | .str a, .str b=>R.a_ (decide (a.length+b.length<=sizeLine)) (.ok (.str (a++b)))
 | .lst a, .lst b=>R.a_ (decide (a.length+b.length<=sizeLine)) (.ok (.lst (a++b)))
 | _,_=> .no
theorem bQ:jR X (binaryOp .Add) cf:=by
 intro pins s σ H B da db d x y v u I hb rx ry ra rb hg;unfold cf at hg;split at hg
 .cases hg;exact Ea pins s σ H x y v u _ I rx ry ⟨_,_,Rep.int.mp ra,Rep.int.mp rb,aP.refl H,Rep.int.mpr rfl⟩
 .obtain⟨h1,h2⟩:=R.bj hg;cases h2;exact ve pins s σ H x y v u _ I rx ry ⟨_,_,Rep.str.mp ra,Rep.str.mp rb,of_decide_eq_true h1,aP.refl H,Rep.str.mpr rfl⟩
 .obtain⟨h1,h2⟩:=R.bj hg;cases h2;obtain⟨a1,Ow,rfl,l1,r1⟩:=Rep.lst.mp ra;obtain⟨a2,Ox,rfl,l2,r2⟩:=Rep.lst.mp rb;refine Bd pins s σ H _ _ v u _ I rx ry ⟨B,a1,a2,Ow,Ox,rfl,rfl,l1,l2,by rw[<-r1.length,<-r2.length];exact of_decide_eq_true h1,fun p hp=>⟨aU hp,Rep.lst.mpr ⟨p,_,rfl, .oe aV fun ha=>?_,(r1.append r2).same (aU hp)⟩⟩⟩
  obtain⟨o,ho⟩:=hb p ha;rw[hp] at ho;cases ho
 .cases hg
theorem Cm:jT X (binaryOp .Mult) (fun x y H Q=>∃z n,x= .str z/\y= .int n/\MulOk z n/\Q (.str (Txt.mul z n)) H):=by
 intro pins s σ H x y v u Q I rx ry h;obtain⟨z,n,rfl,rfl,hm,q⟩:=h;obtain⟨t,rfl⟩:=rx;obtain⟨t',rfl⟩:=ry;exact SB.mul hm fun t2 k=>⟨.str _,H,I.tok _,⟨_,rfl⟩,q⟩
end
end L2
end
section
namespace L2
open PySem PySem.Spec PyProof.Rows
section
variable {X:Cx}
theorem mulOk_of{x:Str}{n:Int}(h1: -(2 ^ 63)<=n)(h2:n < 2 ^ 63)(h3:x.length*n.toNat<=sizeLine):MulOk x n:=by
 refine⟨by simp only[Bool.or_eq_false_iff,decide_eq_false_iff_not];omega,fun hn _=>?_,fun hn _=>?_⟩
 .have hz:sizeLine=16777216:=sizeLine_eq;have e:(n.toNat:Int)=n:=by omega
  have h4:(x.length:Int)*n<=16777216:=by
   have:((x.length*n.toNat:Nat):Int)<=((16777216:Nat):Int):=Int.ofNat_le.mpr (by omega)
   rw[Int.natCast_mul,e] at this;exact this
  have:(x.length:Int)<=(2 ^ 63 - 1) / n:=(Int.le_ediv_iff_mul_le (by omega)).mpr (by omega)
  omega
 .unfold Builtin.Str.tooLong;exact decide_eq_false (by omega)
def kl:D->D->R D
 | .int i, .int j=>R.a_ (decide ((-(2 ^ 64) < i/\i < 2 ^ 64)\/(-(2 ^ 64) < j/\j < 2 ^ 64))) (.ok (.int (i*j)))
 | .str x, .int n=>R.a_ (decide (-(2 ^ 63)<=n/\n < 2 ^ 63/\x.length*n.toNat<=sizeLine)) (.ok (.str (Txt.mul x n)))
 | _,_=> .no
theorem kR:jR X (binaryOp .Mult) kl:=by
 intro pins s σ H B da db d x y v u I hb rx ry ra rb hg;unfold kl at hg;split at hg
 .obtain⟨h1,h2⟩:=R.bj hg;cases h2;have h1:=of_decide_eq_true h1;exact E7 pins s σ H x y v u _ I rx ry ⟨_,_,Rep.int.mp ra,Rep.int.mp rb,h1,aP.refl H,Rep.int.mpr rfl⟩
 .obtain⟨h1,h2⟩:=R.bj hg;cases h2;have h1:=of_decide_eq_true h1;exact Cm pins s σ H x y v u _ I rx ry ⟨_,_,Rep.str.mp ra,Rep.int.mp rb,mulOk_of h1.1 h1.2.1 h1.2.2,aP.refl H,Rep.str.mpr rfl⟩
 .cases hg
mutual
def toPy:D->PyData
 | .cL=> .none
 | .bl b=> .bool b
 | .int i=> .int i
 | .str x=> .str x
 | .lst ds=> .list (jN ds)
 | .tup ds=> .tuple (jN ds)
 | .dct _ _=> .dict []
def jN:List D->List PyData
 | []=>[]
 | d ::ds=>toPy d ::jN ds
end
mutual
def eS:D->Bool
 | .dct _ _=>false
 | .lst ds=>g_ ds
 | .tup ds=>g_ ds
 | _=>true
def g_:List D->Bool
 | []=>true
 | d ::ds=>eS d && g_ ds
end
mutual
theorem Rep.reads{pins:PM}{s:Shared}{B:List Addr}(I:Inv X pins σ H s):∀{d:D} {v:V} {u:Value},eS d=true->Rep X.K B H d v->RelV v u->∃as,Reads s.heap u (toPy d) as
 | .cL,v,u,_,r,q=>by rw[Rep.cL.mp r] at q;cases q;unfold toPy;exact⟨_, .none⟩
 | .bl b,v,u,_,r,q=>by rw[Rep.bl.mp r] at q;cases q;unfold toPy;exact⟨_, .bool b⟩
 | .int i,v,u,_,r,q=>by rw[Rep.int.mp r] at q;obtain⟨t,rfl⟩:=q;unfold toPy;exact⟨_, .int i t⟩
 | .str x,v,u,_,r,q=>by rw[Rep.str.mp r] at q;obtain⟨t,rfl⟩:=q;unfold toPy;exact⟨_, .str x t⟩
 | .lst ds,v,u,hp,r,q=>by
   obtain⟨a,xs,rfl,l,rs⟩:=Rep.lst.mp r;cases q;obtain⟨its,rv,⟨o,n,e,hc,hd,he⟩,_⟩:=I.list l.sq;obtain⟨as,ra⟩:=aC.reads I (by unfold eS at hp;exact hp) rs rv
   unfold toPy;exact⟨_, .list e hc he (by simpa using ra)⟩
 | .tup ds,v,u,hp,r,q=>by
   obtain⟨a,xs,rfl,l,rs⟩:=Rep.tup.mp r;cases q;obtain⟨its,rv,⟨o,e,hc,n,hd⟩,_⟩:=I.tuple l.sq;obtain⟨as,ra⟩:=aC.reads I (by unfold eS at hp;exact hp) rs rv
   unfold toPy;exact⟨_, .tuple e hc hd (by simpa using ra)⟩
 | .dct _ _,v,u,hp,r,q=>by unfold eS at hp;cases hp
theorem aC.reads{pins:PM}{s:Shared}{B:List Addr}(I:Inv X pins σ H s):∀{ds:List D} {vs:List V} {us:List Value},g_ ds=true->aC X.K B H ds vs->Vals vs us->∃as,ReadsAll s.heap us (jN ds) as
 | [],vs,us,_,r,q=>by unfold aC at r;subst r;cases q;unfold jN;exact⟨_, .nil⟩
 | d ::ds,vs,us,hp,r,q=>by
   obtain⟨x,xs,rfl,r1,r2⟩:=r.bW;cases q with
   | cons q1 q2=>
     unfold g_ at hp;obtain⟨h1,h2⟩:=Bool.and_eq_true_iff.mp hp;obtain⟨as,a1⟩:=Rep.reads I h1 r1 q1;obtain⟨bs,a2⟩:=aC.reads I h2 r2 q2;unfold jN;exact⟨_, .cons a1 a2⟩
end
def Dr:D->D->R Bool
 | .int i, .int j=> .ok (decide (i=j))
 | .str x, .str y=> .ok (decide (x=y))
 | .bl a, .bl b=> .ok (decide (a=b))
 | d,e=>R.a_ (eS d && eS e && SeqAt.shaped (toPy d) && SeqAt.shaped (toPy e)) (.ok (PyData.eqv (toPy d) (toPy e)))
def tP(d e:D):R D:=(Dr d e).bind fun b=> .ok (.bl b)
def Dc(d e:D):R D:=(Dr d e).bind fun b=> .ok (.bl (!b))
theorem m4(hu:X.A.units+64 < cLine):jR X (compareOp .Eq) tP:=by
 intro pins s σ H B da db d x y v u I hb rx ry ra rb hg;obtain⟨b,h1,h2⟩:=R.ao hg;cases h2;unfold Dr at h1;split at h1
 .cases h1;rename_i i j;have:=Ao pins s σ H x y v u (fun z H'=>aP H H'/\Rep X.K B H' (.bl (decide (i=j))) z) I rx ry
  rw[Rep.int.mp ra,Rep.int.mp rb] at this;refine this ⟨rfl,aP.refl H,Rep.bl.mpr ?_⟩;simp [V.int.injEq]
 .cases h1;rename_i i j;have:=Ao pins s σ H x y v u (fun z H'=>aP H H'/\Rep X.K B H' (.bl (decide (i=j))) z) I rx ry
  rw[Rep.str.mp ra,Rep.str.mp rb] at this;refine this ⟨rfl,aP.refl H,Rep.bl.mpr ?_⟩;simp [V.str.injEq]
 .cases h1;rename_i i j;have:=Ao pins s σ H x y v u (fun z H'=>aP H H'/\Rep X.K B H' (.bl (decide (i=j))) z) I rx ry
  rw[Rep.bl.mp ra,Rep.bl.mp rb] at this;refine this ⟨rfl,aP.refl H,Rep.bl.mpr ?_⟩;simp [V.bl.injEq]
 .obtain⟨h3,h4⟩:=R.bj h1;cases h4;simp only[Bool.and_eq_true] at h3;obtain⟨⟨⟨p1,p2⟩,s1⟩,s2⟩:=h3;obtain⟨as,r1⟩:=ra.reads I p1 rx;obtain⟨bs,r2⟩:=rb.reads I p2 ry;exact eq_dataH r1 r2 s1 s2 hu ⟨.bl _,H,I,rfl,aP.refl H,Rep.bl.mpr rfl⟩
theorem Et(hu:X.A.units+64 < cLine):jR X (compareOp .NotEq) Dc:=by
 intro pins s σ H B da db d x y v u I hb rx ry ra rb hg;obtain⟨b,h1,h2⟩:=R.ao hg;cases h2;unfold Dr at h1;split at h1
 .cases h1;rename_i i j;have:=yY pins s σ H x y v u (fun z H'=>aP H H'/\Rep X.K B H' (.bl (!decide (i=j))) z) I rx ry
  rw[Rep.int.mp ra,Rep.int.mp rb] at this;refine this ⟨rfl,aP.refl H,Rep.bl.mpr ?_⟩;simp [V.int.injEq]
 .cases h1;rename_i i j;have:=yY pins s σ H x y v u (fun z H'=>aP H H'/\Rep X.K B H' (.bl (!decide (i=j))) z) I rx ry
  rw[Rep.str.mp ra,Rep.str.mp rb] at this;refine this ⟨rfl,aP.refl H,Rep.bl.mpr ?_⟩;simp [V.str.injEq]
 .cases h1;rename_i i j;have:=yY pins s σ H x y v u (fun z H'=>aP H H'/\Rep X.K B H' (.bl (!decide (i=j))) z) I rx ry
  rw[Rep.bl.mp ra,Rep.bl.mp rb] at this;refine this ⟨rfl,aP.refl H,Rep.bl.mpr ?_⟩;simp [V.bl.injEq]
 .obtain⟨h3,h4⟩:=R.bj h1;cases h4;simp only[Bool.and_eq_true] at h3;obtain⟨⟨⟨p1,p2⟩,s1⟩,s2⟩:=h3;obtain⟨as,r1⟩:=ra.reads I p1 rx;obtain⟨bs,r2⟩:=rb.reads I p2 ry;exact ne_dataH r1 r2 s1 s2 hu ⟨.bl _,H,I,rfl,aP.refl H,Rep.bl.mpr rfl⟩
def strs?:List D->Option (List Str)
 | []=>some []
 | .str x ::ds=>(strs? ds).map (x ::·)
 | _ ::_=>none
theorem iQ{K:W.Frag}{B:List Addr}:∀{ds:List D} {xs:List V} {ss:List Str},aC K B H ds xs->strs? ds=some ss->xs=ss.map V.str
 | [],xs,ss,r,h=>by unfold aC at r;subst r;cases h;rfl
 | d ::ds,xs,ss,r,h=>by
   obtain⟨x,r',rfl,r1,r2⟩:=r.bW;cases d with
   | str z=>
     unfold strs? at h;cases e:strs? ds with
     | none=>rw [e] at h;cases h
     | some tt=>
       rw[e] at h;cases h;rw[Rep.str.mp r1,iQ r2 e];rfl
   | _=>cases h
def ints?:List D->Option (List Int)
 | []=>some []
 | .int x ::ds=>(ints? ds).map (x ::·)
 | _ ::_=>none
theorem dU{K:W.Frag}{B:List Addr}:∀{ds:List D} {xs:List V} {ss:List Int},aC K B H ds xs->ints? ds=some ss->xs=ss.map V.int
 | [],xs,ss,r,h=>by unfold aC at r;subst r;cases h;rfl
 | d ::ds,xs,ss,r,h=>by
   obtain⟨x,r',rfl,r1,r2⟩:=r.bW;cases d with
   | int z=>
     unfold ints? at h;cases e:ints? ds with
     | none=>rw [e] at h;cases h
     | some tt=>
       rw[e] at h;cases h;rw[Rep.int.mp r1,dU r2 e];rfl
   | _=>cases h
def inD(d e:D):R Bool:=match d,e with
 | .str x, .lst ds=>(match strs? ds with | some ss=> .ok (ss.contains x) | none=> .no)
 | .str x, .tup ds=>(match strs? ds with | some ss=> .ok (ss.contains x) | none=> .no)
 | .str x, .str y=> .ok (!(Builtin.Str.occurrences y x 0 y.length 1).isEmpty)
 | .int x, .lst ds=>(match ints? ds with | some ss=> .ok (ss.contains x) | none=> .no)
 | .int x, .tup ds=>(match ints? ds with | some ss=> .ok (ss.contains x) | none=> .no)
 | _,_=> .no
def xD(d e:D):R D:=(inD d e).bind fun b=> .ok (.bl b)
def oY(d e:D):R D:=(inD d e).bind fun b=> .ok (.bl (!b))
theorem oZ(x:Str):∀ss:List Str,Dt (.str x) (ss.map V.str)=ss.contains x
 | []=>rfl
 | y ::ss=>by
   unfold Dt;rw[List.map_cons,List.any_cons];have ih:=oZ x ss;unfold Dt at ih;rw[ih];show(y==x || ss.contains x)=_
   rw[List.contains_cons];congr 1;exact Bool.eq_iff_iff.mpr ⟨fun h=>by simpa using(beq_iff_eq.mp h).symm,fun h=>by simpa using(beq_iff_eq.mp h).symm⟩
theorem oE(x:Int):∀ss:List Int,Dt (.int x) (ss.map V.int)=ss.contains x
 | []=>rfl
 | y ::ss=>by
   unfold Dt;rw[List.map_cons,List.any_cons];have ih:=oE x ss;unfold Dt at ih;rw[ih];show(y==x || ss.contains x)=_
   rw[List.contains_cons];congr 1;exact Bool.eq_iff_iff.mpr ⟨fun h=>by simpa using(beq_iff_eq.mp h).symm,fun h=>by simpa using(beq_iff_eq.mp h).symm⟩
theorem qb(ss:List Int):(ss.map V.int).all jH=true:=by
 rw[List.all_map];simp [List.all_eq_true,jH]
theorem qw(ss:List Str):(ss.map V.str).all jH=true:=by
 rw[List.all_map];simp [List.all_eq_true,jH]
theorem yw{neg:Bool}{op:CmpOp}{g:D->D->R D}(h1:jT X (compareOp op) (J9 X.K neg))(h2:jT X (compareOp op) (fun x y H Q=>∃i j,x= .str i/\y= .str j/\Q (.bl (if neg then !(!(Builtin.Str.occurrences j i 0 j.length 1).isEmpty) else(!(Builtin.Str.occurrences j i 0 j.length 1).isEmpty))) H))
 (hg:∀d e r,g d e= .ok r->∃b,inD d e= .ok b/\r= .bl (if neg then !b else b)):jR X (compareOp op) g:=by
 intro pins s σ H B da db d x y v u I hb rx ry ra rb hg';obtain⟨b,hi,rfl⟩:=hg da db d hg';unfold inD at hi;split at hi
 .rename_i z ds;split at hi
  .rename_i ss e;cases hi;obtain⟨a,xs,rfl,l,rs⟩:=Rep.lst.mp rb;refine h1 pins s σ H x _ v u _ I rx ry ⟨a,xs,rfl, .inl l.sq,by rw[Rep.str.mp ra];rfl,by rw[iQ rs e];exact qw _,aP.refl H,Rep.bl.mpr ?_⟩
   rw[iQ rs e,Rep.str.mp ra,oZ]
  .cases hi
 .rename_i z ds;split at hi
  .rename_i ss e;cases hi;obtain⟨a,xs,rfl,l,rs⟩:=Rep.tup.mp rb;refine h1 pins s σ H x _ v u _ I rx ry ⟨a,xs,rfl, .inr l.sq,by rw[Rep.str.mp ra];rfl,by rw[iQ rs e];exact qw _,aP.refl H,Rep.bl.mpr ?_⟩
   rw[iQ rs e,Rep.str.mp ra,oZ]
  .cases hi
 .cases hi;exact h2 pins s σ H x y v u _ I rx ry ⟨_,_,Rep.str.mp ra,Rep.str.mp rb,aP.refl H,Rep.bl.mpr rfl⟩
 .rename_i z ds;split at hi
  .rename_i ss e;cases hi;obtain⟨a,xs,rfl,l,rs⟩:=Rep.lst.mp rb;refine h1 pins s σ H x _ v u _ I rx ry ⟨a,xs,rfl, .inl l.sq,by rw[Rep.int.mp ra];rfl,by rw[dU rs e];exact qb _,aP.refl H,Rep.bl.mpr ?_⟩
   rw[dU rs e,Rep.int.mp ra,oE]
  .cases hi
 .rename_i z ds;split at hi
  .rename_i ss e;cases hi;obtain⟨a,xs,rfl,l,rs⟩:=Rep.tup.mp rb;refine h1 pins s σ H x _ v u _ I rx ry ⟨a,xs,rfl, .inr l.sq,by rw[Rep.int.mp ra];rfl,by rw[dU rs e];exact qb _,aP.refl H,Rep.bl.mpr ?_⟩
   rw[dU rs e,Rep.int.mp ra,oE]
  .cases hi
 .cases hi
theorem zP:jR X (compareOp .In) xD:=yw (neg:=false) wX xQ fun d e r h=>by
 obtain⟨b,h1,h2⟩:=R.ao h;cases h2;exact⟨b,h1,rfl⟩
theorem vU:jR X (compareOp .NotIn) oY:=yw (neg:=true) rO rn fun d e r h=>by
 obtain⟨b,h1,h2⟩:=R.ao h;cases h2;exact⟨b,h1,rfl⟩
def b6(d e:D):R D:=match d,e with
 | .lst ds, .int i=>(match qj ds i with | some x=> .ok x | none=> .no)
 | .tup ds, .int i=>(match qj ds i with | some x=> .ok x | none=> .no)
 | .str x, .int i=>R.a_ (decide (x.length<=sizeLine)) (match qj x.cps.toList i with | some c=> .ok (.str ⟨#[c]⟩) | none=> .no)
 | _,_=> .no
theorem ua{K:W.Frag}{B:List Addr}{ds:List D}{xs:List V}{i:Int}{d:D}(r:aC K B H ds xs)(h:qj ds i=some d):∃x,qj xs i=some x/\Rep K B H d x:=by
 unfold qj at h ⊢;rw[<-r.length];cases e:ze ds.length i with
 | none=>rw [e] at h;cases h
 | some j=>
   rw[e] at h;exact r.get h
theorem G7(ha:PD X a fa)(hb:PD X b fb)(hs:rK b):PD X (.Subscript a b pos) (e2 b6 fa fb):=by
 refine(HP (r:=L0 X.K) DL ha hb hs).imp fun σ H Q ⟨Z,B,δ,d,E,hf,q⟩=>?_
 obtain⟨d1,h1,h2⟩:=R.ao hf;obtain⟨d2,h3,h4⟩:=R.ao h2;refine⟨Z,B,δ,d1,E,h1,fun v1 H1 s1 r1=>⟨Z,B,δ,d2,E.same s1,h3,fun v2 H2 s2 r2=>?_⟩⟩
 have vo:=r1.same s2;unfold b6 at h4;split at h4
 .split at h4
  .rename_i e;cases h4;obtain⟨p,xs,rfl,l,rs⟩:=Rep.lst.mp vo;obtain⟨y,e1,e2⟩:=ua rs e;exact .inl ⟨p,xs,_,y,rfl,Rep.int.mp r2,l.sq,e1,q y H2 (s1.trans s2) e2⟩
  .cases h4
 .split at h4
  .rename_i e;cases h4;obtain⟨p,xs,rfl,l,rs⟩:=Rep.tup.mp vo;obtain⟨y,e1,e2⟩:=ua rs e;exact .inr (.inl ⟨p,xs,_,y,rfl,Rep.int.mp r2,l.sq,e1,q y H2 (s1.trans s2) e2⟩)
  .cases h4
 .obtain⟨hl,h5⟩:=R.bj h4;split at h5
  .rename_i e;cases h5;exact .inr (.inr ⟨_,_,_,Rep.str.mp vo,Rep.int.mp r2,of_decide_eq_true hl,e,q _ H2 (s1.trans s2) (Rep.str.mpr rfl)⟩)
  .cases h5
 .cases h4
abbrev FO:=av->R (Option Int)
def N3(K:W.Frag)(f:FO):TO:=fun σ H Q=>∃Z B δ o,dh K Z B H σ δ/\f δ= .ok o/\∀H',aP H H'->Q o H'
theorem PO.imp{X:Cx}{e:Option Expr}{t t':TO}(h:PO X e t)(w:∀σ H Q,t' σ H Q->t σ H Q):PO X e t':=fun pins s σ H Q I hq=>h pins s σ H Q I (w σ H Q hq)
abbrev PP(X:Cx)(e:Option Expr)(f:FO):Prop:=PO X e (N3 X.K f)
def qD:FO:=fun _=> .ok none
def lH(f:FD):FO:=fun δ=>(f δ).bind fun d=>match d with | .int i=> .ok (some i) | _=> .no
theorem Bq:PP X none qD:=Bt.imp fun σ H Q ⟨Z,B,δ,o,E,hf,q⟩=>by cases hf;exact q H (aP.refl H)
theorem A_(h:PD X e f):PP X (some e) (lH f):=(AY h).imp fun σ H Q ⟨Z,B,δ,o,E,hf,q⟩=>by
 obtain⟨d,h1,h2⟩:=R.ao hf;cases d with
 | int i=>cases h2;exact⟨Z,B,δ, .int i,E,h1,fun v H1 s1 r1=>⟨i,Rep.int.mp r1,q H1 s1⟩⟩
 | _=>cases h2
theorem E_:Ez X (fun x lo hi H Q=>∃z,x= .str z/\z.length<=sizeLine/\Q (.str (Txt.slice z lo hi)) H):=by
 intro pins s σ H x v vl vu lo hi sl Q I rx hs pl pu h;obtain⟨z,rfl,hz,q⟩:=h;obtain⟨t,rfl⟩:=rx;refine⟨"str",_,F.slot_str_getitem.lookup,typeIs_str _ _ _,?_⟩;have fin:∀t' k,EP X pins σ Q (.str (Txt.slice z lo hi) t') {s with toks:=k}:=fun t' k=>⟨.str _,H,I.tok _,⟨_,rfl⟩,q⟩
 obtain⟨o,ho,hc,hd⟩:=hs;cases pl with
 | none=>
   cases pu with
   | none=>exact wpAny_getItem_str_slice (l:=none) (u:=none) (st:=none) ⟨o,ho,hc,hd⟩ rfl (post_val_or_str ⟨Nat.le_trans (Txt.slice_le z _ _) hz,fin⟩)
   | int j u=>exact wpAny_getItem_str_slice (l:=none) (u:=some (j,u)) (st:=none) ⟨o,ho,hc,hd⟩ rfl (post_val_or_str ⟨Nat.le_trans (Txt.slice_le z _ _) hz,fin⟩)
 | int i t1=>
   cases pu with
   | none=>exact wpAny_getItem_str_slice (l:=some (i,t1)) (u:=none) (st:=none) ⟨o,ho,hc,hd⟩ rfl (post_val_or_str ⟨Nat.le_trans (Txt.slice_le z _ _) hz,fin⟩)
   | int j u=>exact wpAny_getItem_str_slice (l:=some (i,t1)) (u:=some (j,u)) (st:=none) ⟨o,ho,hc,hd⟩ rfl (post_val_or_str ⟨Nat.le_trans (Txt.slice_le z _ _) hz,fin⟩)
def cutD{α:Type}(xs:List α)(lo hi:Option Int):List α:=(xs.drop (HT.nF xs.length 0 lo)).take (HT.nF xs.length xs.length hi - HT.nF xs.length 0 lo)
def D3(d:D)(lo hi:Option Int):R D:=match d with
 | .str x=>R.a_ (decide (x.length<=sizeLine)) (.ok (.str (Txt.slice x lo hi)))
 | .lst ds=> .ok (.lst (cutD ds lo hi))
 | _=> .no
theorem yt{K:W.Frag}{B:List Addr}{ds:List D}{xs:List V}(r:aC K B H ds xs)(lo hi:Option Int):aC K B H (cutD ds lo hi) (uL xs lo hi):=by
 unfold cutD uL;rw[<-r.length];exact(r.drop _).take _
def CY(f:FD)(fl fh:FO):FD:=fun δ=>(f δ).bind fun d=>(fl δ).bind fun lo=>(fh δ).bind fun hi=>D3 d lo hi
theorem HF{lo hi:Option Expr}{fl fh:FO}(he:PD X e f)(hl:PP X lo fl)(hh:PP X hi fh):PD X (.Subscript e (.Slice lo hi none p2) pos) (CY f fl fh):=by
 refine(yq (E_.or B9) he hl hh).imp fun σ H Q ⟨Z,B,δ,d,E,hf,q⟩=>?_
 obtain⟨d1,h1,h2⟩:=R.ao hf;obtain⟨l,h3,h4⟩:=R.ao h2;obtain⟨h,h5,h6⟩:=R.ao h4;refine⟨Z,B,δ,d1,E,h1,fun v1 H1 s1 r1=>⟨Z,B,δ,l,E.same s1,h3,fun H2 s2=>⟨Z,B,δ,h,(E.same s1).same s2,h5,fun H3 s3=>?_⟩⟩⟩
 have sA:aP H H3:=s1.trans (s2.trans s3);have vo:=r1.same (s2.trans s3);unfold D3 at h6;split at h6
 .obtain⟨hz,h7⟩:=R.bj h6;cases h7;exact .inl ⟨_,Rep.str.mp vo,of_decide_eq_true hz,q _ H3 sA (Rep.str.mpr rfl)⟩
 .cases h6;obtain⟨a,xs,rfl,ls,rs⟩:=Rep.lst.mp vo;refine .inr ⟨a,xs,rfl,ls.sq,fun p hp=>q _ _ (sA.trans (aU hp)) (Rep.lst.mpr ⟨p,_,rfl, .oe aV fun ha=>?_,(yt rs l h).same (aU hp)⟩)⟩
  obtain⟨o,ho⟩:=(E.same sA).bs p ha;rw[hp] at ho;cases ho
 .cases h6
end
end L2
end
section
namespace L2
open PySem PySem.Spec PyProof.Rows
section
variable {X:Cx}
theorem aC.one{K:W.Frag}{B:List Addr}{d:D}{xs:List V}(h:aC K B H [d] xs):∃x,xs=[x]/\Rep K B H d x:=by
 obtain⟨x,r,rfl,h1,h2⟩:=h.bW;unfold aC at h2;subst h2;exact⟨x,rfl,h1⟩
theorem aC.two{K:W.Frag}{B:List Addr}{d e:D}{xs:List V}(h:aC K B H [d,e] xs):∃x y,xs=[x,y]/\Rep K B H d x/\Rep K B H e y:=by
 obtain⟨x,r,rfl,h1,h2⟩:=h.bW;obtain⟨y,rfl,h3⟩:=h2.one;exact⟨x,y,rfl,h1,h3⟩
def d3:List D->R D
 | [.str x]=>R.a_ (decide (x.length<=sizeLine)) (.ok (.int x.length))
 | [.lst ds]=> .ok (.int ds.length)
 | [.tup ds]=> .ok (.int ds.length)
 | _=> .no
theorem dI:cv X (.builtin "len") d3:=cv.of Av fun B H ds d xs Q _ rs hg q=>by
 unfold d3 at hg;split at hg
 .obtain⟨h1,h2⟩:=R.bj hg;cases h2;obtain⟨x,rfl,r⟩:=rs.one;exact⟨x,_,rfl,by rw[Rep.str.mp r];exact⟨of_decide_eq_true h1,rfl⟩,q _ H (aP.refl H) (Rep.int.mpr rfl)⟩
 .cases hg;obtain⟨x,rfl,r⟩:=rs.one;obtain⟨a,ys,rfl,l,r⟩:=Rep.lst.mp r;exact⟨_,_,rfl, .inl ⟨ys,l.sq,rfl⟩,q _ H (aP.refl H) (Rep.int.mpr (by rw[r.length]))⟩
 .cases hg;obtain⟨x,rfl,r⟩:=rs.one;obtain⟨a,ys,rfl,l,r⟩:=Rep.tup.mp r;exact⟨_,_,rfl, .inr ⟨ys,l.sq,rfl⟩,q _ H (aP.refl H) (Rep.int.mpr (by rw[r.length]))⟩
 .cases hg
def cInt:List D->R D
 | [.int i]=> .ok (.int i)
 | [.bl b]=> .ok (.int (if b then 1 else 0))
 | _=> .no
theorem HH:cv X (.type "int") cInt:=cv.of xh fun B H ds d xs Q _ rs hg q=>by
 unfold cInt at hg;split at hg
 .cases hg;obtain⟨x,rfl,r⟩:=rs.one;exact .inl ⟨_,by rw[Rep.int.mp r],q _ H (aP.refl H) (Rep.int.mpr rfl)⟩
 .cases hg;obtain⟨x,rfl,r⟩:=rs.one;exact .inr ⟨_,by rw[Rep.bl.mp r],q _ H (aP.refl H) (Rep.int.mpr rfl)⟩
 .cases hg
def cStr:List D->R D
 | [.int i]=>R.a_ (decide (i.natAbs.log2 < 1920)) (.ok (.str (toString i)))
 | _=> .no
def Eo:List D->R D
 | [.int i, .int j]=> .ok (.int (if j < i then j else i))
 | _=> .no
theorem Gy(hc:X.calm=true):cv X (.builtin "min") Eo:=cv.of (xk hc) fun B H ds d xs Q _ rs hg q=>by
 unfold Eo at hg;split at hg
 .cases hg;obtain⟨x,y,rfl,r1,r2⟩:=rs.two;exact⟨_,_,by rw[Rep.int.mp r1,Rep.int.mp r2],q _ H (aP.refl H) (Rep.int.mpr rfl)⟩
 .cases hg
def Fp:List D->R D
 | [.int i, .int j]=> .ok (.int (if j > i then j else i))
 | _=> .no
theorem Ht(hc:X.calm=true):cv X (.builtin "max") Fp:=cv.of (xO hc) fun B H ds d xs Q _ rs hg q=>by
 unfold Fp at hg;split at hg
 .cases hg;obtain⟨x,y,rfl,r1,r2⟩:=rs.two;exact⟨_,_,by rw[Rep.int.mp r1,Rep.int.mp r2],q _ H (aP.refl H) (Rep.int.mpr rfl)⟩
 .cases hg
def j_:List D->R D
 | [.lst ds]=> .ok (.tup ds)
 | [.tup ds]=> .ok (.tup ds)
 | _=> .no
theorem kG:cv X (.type "tuple") j_:=cv.of pQ fun B H ds d xs Q hb rs hg q=>by
 unfold j_ at hg;split at hg
 .cases hg;obtain⟨x,rfl,r⟩:=rs.one;obtain⟨a,ys,rfl,l,r⟩:=Rep.lst.mp r;refine⟨a,ys,rfl, .inl ⟨l.sq,fun p hp=>q _ _ (aU hp) (Rep.tup.mpr ⟨p,ys,rfl, .inl ⟨fun ha=>?_, .inl aV⟩,r.same (aU hp)⟩)⟩⟩
  obtain⟨o,ho⟩:=hb p ha;rw[hp] at ho;cases ho
 .cases hg;obtain⟨x,rfl,r⟩:=rs.one;have r0:=r;obtain⟨a,ys,rfl,l,r⟩:=Rep.tup.mp r;exact⟨a,ys,rfl, .inr ⟨l.sq,q _ H (aP.refl H) r0⟩⟩
 .cases hg
def wj:List D->R D
 | [.lst ds]=> .ok (.lst ds)
 | [.tup ds]=> .ok (.lst ds)
 | _=> .no
theorem zM:cv X (.type "list") wj:=cv.of l5 fun B H ds d xs Q hb rs hg q=>by
 unfold wj at hg;split at hg
 .cases hg;obtain⟨x,rfl,r⟩:=rs.one;obtain⟨a,ys,rfl,l,r⟩:=Rep.lst.mp r;refine⟨a,ys,rfl, .inl l.sq,fun p hp=>q _ _ (aU hp) (Rep.lst.mpr ⟨p,ys,rfl, .oe aV fun ha=>?_,r.same (aU hp)⟩)⟩
  obtain⟨o,ho⟩:=hb p ha;rw[hp] at ho;cases ho
 .cases hg;obtain⟨x,rfl,r⟩:=rs.one;obtain⟨a,ys,rfl,l,r⟩:=Rep.tup.mp r;refine⟨a,ys,rfl, .inr l.sq,fun p hp=>q _ _ (aU hp) (Rep.lst.mpr ⟨p,ys,rfl, .oe aV fun ha=>?_,r.same (aU hp)⟩)⟩
  obtain⟨o,ho⟩:=hb p ha;rw[hp] at ho;cases ho
 .cases hg
def cAbs:List D->R D
 | [.int i]=> .ok (.int (if i < 0 then -i else i))
 | _=> .no
def Ex:List D->R D
 | [.lst ds]=>(match ints? ds with | some ns=> .ok (.int ns.sum) | none=> .no)
 | _=> .no
theorem d4:∀{ns:List Int} {us:List Value},Vals (ns.map V.int) us->∃l:List (Int × Tok),us=l.map (fun p=>Value.int p.1 p.2)/\l.map (·.1)=ns
 | [],_, .nil=>⟨[],rfl,rfl⟩
 | n ::ns,_, .cons r t=>by
   obtain⟨l,rfl,e⟩:=d4 t;obtain⟨tk,rfl⟩:=r;exact⟨(n,tk) ::l,rfl,by rw[List.map_cons,e]⟩
theorem Hu(hc:X.calm=true):cv X (.builtin "sum") Ex:=by
 intro pins s σ H B ds d xs us I hb rx rs hg;unfold Ex at hg;split at hg
 .split at hg
  .rename_i es ns e;cases hg;obtain⟨x,rfl,r⟩:=rs.one;obtain⟨a,ys,rfl,l,r⟩:=Rep.lst.mp r;obtain⟨u,rfl,ru⟩:=vals1 rx;cases ru;obtain⟨its,n,rv,e1,hz⟩:=I.Fc l;rw[dU r e] at rv;obtain⟨ps,rfl,rfl⟩:=d4 rv;have hl:s.heap.IsList a (intItems ps.toArray):=⟨_,e1,rfl,n,by simp [intItems]⟩
   refine sum_intListG (I.ok.hd hc) hl fun h' tk t' k=>⟨.int _,H,I.kept k,⟨t',rfl⟩,aP.refl H,Rep.int.mpr ?_⟩
   rw[preSum_eq,List.take_of_length_le (by simp)]
  .cases hg
 .cases hg
def tyName:D->String
 | .cL=>"NoneType" | .bl _=>"bool" | .int _=>"int" | .str _=>"str" | .lst _=>"list" | .tup _=>"tuple" | .dct _ _=>"dict"
def NU(T:String)(f:FD):FD:=fun δ=>(f δ).bind fun d=>R.a_ (tyName d==T && d.atom) (.ok (.bl true))
def O6(X:Cx)(id:String)(g:D->List D->R D):Prop:=
 ∀(pins:PM) (s:Shared) (σ:St) (H:Hp) (B:List Addr) (da d:D) (ds:List D) (x:V) (xs:List V) (v:Value) (us:List Value),Inv X pins σ H s->(∀a∈B,∃o,H a=some o)->RelV x v->Vals xs us->Rep X.K B H da x->aC X.K B H ds xs->g da ds= .ok d->
  wpAny (model X.prog X.w) X.A (call (.builtin id) (v ::us)) (EP X pins σ fun z H'=>aP H H'/\Rep X.K B H' d z) X.xe s
def O9(T:String)(g:D->List D->R D)(f:FD)(fs:av->R (List D)):FD:=fun δ=>(f δ).bind fun d=>R.a_ (tyName d==T && (d.atom || T=="list")) ((fs δ).bind fun ds=>g d ds)
def Lj(d:D)(ds:List D):R D:=match d,ds with
 | .str sep,[.lst es]=>(match strs? es with | some ss=>R.a_ (JoinOk sep ss) (.ok (.str (Str.join sep ss))) | none=> .no)
 | _,_=> .no
abbrev PJ(X:Cx)(es:List Expr)(f:av->R (List Str)):Prop:=
 ∀(pins:PM) (s:Shared) (σ:St) (H:Hp) (Z B:List Addr) (δ:av) (acc:Str) (ss:List Str) (Q:VK),Inv X pins σ H s->dh X.K Z B H σ δ->f δ= .ok ss->(ss.foldl (·++·) acc).length<=sizeLine->(∀H',aP H H'->Q (.str (ss.foldl (·++·) acc)) H')->
  wpAny (model X.prog X.w) X.A (joinParts acc (evalEach es X.env)) (EP X pins σ Q) X.xe s
def NN:av->R (List Str):=fun _=> .ok []
def K5(f:FD)(g:av->R (List Str)):av->R (List Str):=fun δ=>(f δ).bind fun d=>match d with | .str x=>(g δ).bind fun ss=> .ok (x ::ss) | _=> .no
def IF(g:av->R (List Str)):FD:=fun δ=>(g δ).bind fun ss=>R.a_ (decide ((ss.foldl (·++·) Str.empty).length<=sizeLine)) (.ok (.str (ss.foldl (·++·) Str.empty)))
def IX:D->R D
 | .str x=>R.a_ (decide (x.length<=sizeLine)) (.ok (.str x))
 | .int i=>R.a_ (decide (i.natAbs.log2 < 1920)) (.ok (.str (toString i)))
 | _=> .no
def Np(f:FD):FD:=fun δ=>(f δ).bind IX
def HQ:List (D × D)->Str->R (Option D)
 | [],_=> .ok none
 | (.str y,d) ::r,x=>(HQ r x).bind fun o=> .ok (match o with | some e=>some e | none=>if y=x then some d else none)
 | _ ::_,_=> .no
def GX(x:Str):List D:=x.cps.toList.map fun c=> .str ⟨#[c]⟩
def O2(x:Str):It:=⟨fun i _=>i < x.cps.size,fun i H v H'=>H'=H/\∃c,x.cps[i]? =some c/\v= .str ⟨#[c]⟩,fun i _=>x.cps.size<=i⟩
def LR(f:FD):av->R (List D):=fun δ=>(f δ).bind fun d=>match d with | .str x=> .ok (GX x) | _=> .no
def Mo(K:W.Frag)(a:Addr):It:=
 ⟨fun i H=>∃xs x,lE K H a xs/\xs[i]? =some x,fun i H v H'=>∃p x,H p=none/\v= .ref p/\(∀xs,lE K H a xs->xs[i]? =some x)/\H'=upd H p (.tup [.int i,x]),fun i H=>∃xs,lE K H a xs/\xs.length<=i⟩
theorem wW{K:W.Frag}{k:Nat}(a e it:Addr)(Gu:e≠it):Turn P w K (.Tuple elts k pos) (Mo K a) [e,it] e (fun i h=>(∃old,IsEnum h e it ((i:Nat):Int) old)/\h.IsListIter it a i) where
 mem:=by simp
 obj:=fun i h st b hb=>by
  obtain⟨⟨old,he⟩,o,ho,c,d⟩:=st;rcases List.mem_cons.mp hb with rfl | hb
  .exact⟨_,he,fun v z=>by cases z⟩
  .have e:b=it:=by simpa using hb
   subst e;exact⟨o,ho,fun v z=>by rw[d] at z;cases z⟩
 keep:=fun i h h' st k=>by
  obtain⟨⟨old,he⟩,hi⟩:=st;exact⟨⟨old,k e (by simp) _ he⟩,hi.at fun o x=>k it (by simp) o x⟩
 item:=by
  intro X hP hw hK hc i pins s σ H E I hf st hg;subst hP hw hK;obtain⟨xs,x,hq,hx⟩:=hg;obtain⟨its,rv,p,hz⟩:=I.list hq;obtain⟨u,hu,ru⟩:=rv.get hx;obtain⟨⟨old,he⟩,hit⟩:=st;obtain⟨f0,f1,f2,f3,f4,f5⟩:=hf e (by simp)
  obtain⟨g0,g1,g2,g3,g4,g5⟩:=hf it (by simp)
  refine wpAny_pyNext_enum_item he hit p.isList (x:=u) (by simpa using hu) Gu fun i8 AS vm AF Ie Ay=>⟨_,rfl,?_⟩
  refine wpAny_letOwnedTupleGo_enum AS fun lB AD ky=>?_
  replace ky:Heap.SameBut e i8 lB:=ky
  have hel:e < s.heap.objs.size:=Heap.lt_size he;have AE:lB.get? s.heap.objs.size=some {cls:= .type "tuple",data:= .seq #[.int i s.toks,u]}:=(ky.2 _ (Nat.ne_of_gt hel)).trans AF;have kk:∀b o,b≠e->b≠it->s.heap.get? b=some o->lB.get? b=some o:=fun b o h1 h2 q=>(ky.2 b h1).trans (Ay b o h1 h2 q)
  have hn:H s.heap.objs.size=none:=I.fresh;have sm:aP H (upd H s.heap.objs.size (.tup [.int i,x])):=aU hn;have nit:∀b o,H b=some o->b≠e/\b≠it:=fun b o q=>⟨fun z=>(by rw[z,f0] at q;cases q),fun z=>(by rw[z,g0] at q;cases q)⟩
  have hok:lq X.prog X.w (upd H s.heap.objs.size (.tup [.int i,x])) lB:=fun b ob q=>by
   by_cases hb:b=s.heap.objs.size
   .subst hb;rw[aV] at q;cases q;exact⟨by show 2<=sizeLine;decide,[.int i s.toks,u], .cons ⟨_,rfl⟩ (.cons ru .nil),⟨_,AE,rfl,_,rfl⟩⟩
   .rw [ba hb] at q;refine(I.hok b ob q).uZ (fun c v hc z=>?_) (fun c z=>sm c _ z) fun c ys z=>sm c _ z
    rcases hc with rfl | hc
    .exact kk c v (nit c _ q).1 (nit c _ q).2 z
    .exact kk c v (nit c _ hc).1 (nit c _ hc).2 z
  have nch:∀b,b ∉ [e,it]->b≠e/\b≠it:=fun b hb=>⟨fun z=>hb (by simp [z]),fun z=>hb (by simp [z])⟩
  have I2:Inv X pins σ (upd H s.heap.objs.size (.tup [.int i,x])) {s with heap:=lB,toks:=s.toks+1}:=by
   refine I.step (g':=s.gens) (d':=s.drawn) (ch:=[e,it]) (fun b hb=>?_) (fun b o _ _ hb q _=>kk b o (nch b hb).1 (nch b hb).2 q) (fun b o _ _ hb q _=>⟨o.slots,kk b o (nch b hb).1 (nch b hb).2 q⟩)
    (fun b o hb q n=>by rw[ba (Nat.ne_of_lt (Heap.lt_size q))];exact n) (fun b o hb q=>⟨o,kk b o (nch b hb).1 (nch b hb).2 q⟩) (fun b ys z=>sm b _ z) (fun b o u z=>sm b _ z) (fun b ps z=>⟨#[],by rw[sm b _ z];simp⟩) (fun m hm=>?_) hok I.bare
   .rcases List.mem_cons.mp hb with rfl | hb
    .exact⟨f3,f1,f4,f5⟩
    .have z:b=it:=by simpa using hb
     subst z;exact⟨g3,g1,g4,g5⟩
   .obtain⟨o,es,ep,ho,r⟩:=hm;exact⟨o,es,ep,kk _ o (Ne.symm f1) (Ne.symm g1) ho,r⟩
  refine⟨.ref s.heap.objs.size,_,I2,rfl,⟨s.heap.objs.size,x,hn,rfl,fun ys hy=>(by rw[I.sx hy hq];exact hx),rfl⟩,⟨⟨_,by simpa using AD⟩,vm.at fun o q=>(ky.2 it (Ne.symm Gu)).trans q⟩,fun b hb=>?_⟩
  rcases List.mem_cons.mp hb with rfl | hb
  .rw [ba (Nat.ne_of_lt hel)];exact f0
  .have z:b=it:=by simpa using hb
   subst z;obtain⟨o,ho,_⟩:=hit;rw[ba (Nat.ne_of_lt (Heap.lt_size ho))];exact g0
 done:=by
  intro X hP hw hK hc i pins s σ H E I hf st hg;subst hP hw hK;obtain⟨xs,hq,hx⟩:=hg;obtain⟨its,rv,p,hz⟩:=I.list hq;obtain⟨⟨old,he⟩,hit⟩:=st;obtain⟨g0,g1,g2,g3,g4,g5⟩:=hf it (by simp)
  have hl:=rv.length;exact wpAny_pyNext_enum_end (I.ok.hd hc) he hit p.isList (by simp;omega) fun h' eb=>⟨rfl,I.turned (t':=s.toks) (fun b o hb q=>eb b o hb q) g0 g1 g3 g4 g5⟩
 self:=fun A i s Q E st h=>let⟨⟨_,he⟩,_⟩:=st;wpAny_pyIter_enum he h
def cT(ds:List D):List D:=ds.zipIdx.map fun p=> .tup [.int p.2,p.1]
def eE(f:FD):av->R (List D):=fun δ=>(f δ).bind fun d=>match d with | .lst ds=> .ok (cT ds) | _=> .no
theorem su{elts:List Expr}{k:Nat}{rZ:Pos}{p pos:Pos}(h:PD X a f)(hg:Gl X "enumerate")(hm:X.mg "enumerate"=none)(hs:starEach [a] X.env=[(false,eval a X.env)]:=by rfl):Gi X (.Tuple elts k rZ) (.Call (.Name "enumerate" p) [a] [] pos) (eE f):=by
 intro pins s σ H RR I ⟨Z,B,δ,ds,E,hf,q⟩;obtain⟨d,h1,h2⟩:=R.ao hf;have hA:=et h gO hs pos pins s σ H (fun vs H1=>aP H H1/\∃v,vs=[v]/\Rep X.K B H1 d v) I ⟨Z,B,δ,d,E,h1,fun v H1 s1 r1=>⟨s1,v,rfl,r1⟩⟩
 refine Call_ (jj I hg hm boot_enumerate (PyProof.Rows.callWith_type1 (dG hA fun us s1 ⟨vs,H1,I1,r1,ss,v,ev,rr⟩=>?_) hs rfl))
 subst ev;obtain⟨u,rfl,ru⟩:=vals1 r1;cases d with
 | lst es=>
   cases h2;obtain⟨b,xs,rfl,l,rs⟩:=Rep.lst.mp rr;cases ru;obtain⟨its,n,rv,e1,hz⟩:=I1.Fc l;refine call_enumerate_list (items:=its.toArray) ⟨_,e1,rfl,n,rfl⟩ fun h' he hit hsz kk=>wpAny_pyIter_enum he ?_
   have I2:Inv X pins σ H1 {s1 with heap:=h'}:=I1.kept (t':=s1.toks) kk
   refine⟨s1.heap.objs.size+1,[s1.heap.objs.size+1,s1.heap.objs.size],_,_,H1,rfl,I2,wW b (s1.heap.objs.size+1) s1.heap.objs.size (Nat.succ_ne_self _),⟨⟨_,he⟩,hit⟩,fun c hc=>?_,q _ H1 ss fun B' H' pr=>?_⟩
   .have hle:s1.heap.objs.size<=c:=by
     rcases List.mem_cons.mp hc with z | hc
     .rw [z];exact Nat.le_succ _
     .have z:c=s1.heap.objs.size:=by simpa using hc
      rw[z];exact Nat.le_refl _
    exact I1.uW hle (I1.hok.fresh hle)
   .have l':se X.K B' H' b xs:=l.a0 pr;have rs':=rs.a0 pr;refine⟨fun i d hd=>?_,⟨xs,l'.sq,by rw[<-rs.length];unfold cT;simp⟩⟩
    unfold cT at hd;rw[List.getElem?_map,List.getElem?_zipIdx] at hd;cases e:es[i]? with
    | none=>rw [e] at hd;cases hd
    | some d0=>
      rw[e] at hd;have hd:D.tup [.int ((0+i:Nat):Int),d0]=d:=Option.some.inj hd;rw[Nat.zero_add] at hd;obtain⟨x,hx,rx⟩:=rs'.get e;refine⟨⟨xs,x,l'.sq,hx⟩,fun v lF y Gp=>?_⟩
      obtain⟨p,y,hp,rfl,hy,rfl⟩:=y;refine⟨aU hp,?_⟩;subst hd;have hy2:=hy xs l'.sq;rw[hx] at hy2;cases hy2;refine Rep.tup.mpr ⟨p,_,rfl, .inl ⟨fun ha=>?_, .inl aV⟩,aC.cons (Rep.int.mpr rfl) (aC.cons (rx.same (aU hp)) aC.nil)⟩
      obtain⟨o,ho⟩:=Gp p ha;rw[hp] at ho;cases ho
 | _=>cases h2
end
end L2
end
section
namespace L2
open PySem PySem.Spec PyProof.Rows
def Def(K:W.Frag)(mg:PY)(x:Str)(st:Stmt):Prop:=∃f fd,wb K x x st f fd/\mg x=some (.ref f)
def Callee(P:Program)(w:World)(K:W.Frag)(mg:PY)(base:Heap)(k:Nat)(x:Str)(n:Nat)(g:List D->R D):Prop:=
 ∃f fd ps,iY P w K mg base p9 k f fd ps (BL K n g)/\mg x=some (.ref f)/\PySem.W.keepIn K (.ref f)=true/\Binds K fd ps []
theorem aY:∀(δ:av) (ds:List D),aG δ= .ok ds->ds.length=0:=fun δ ds h=>by cases h;rfl
theorem au{g:av->R (List D)}{n:Nat}(h:∀(δ:av) (ds:List D),g δ= .ok ds->ds.length=n):∀(δ:av) (ds:List D),aj f g δ= .ok ds->ds.length=n+1:=fun δ ds e=>by
 obtain⟨d,h1,h2⟩:=R.ao e;obtain⟨es,h3,h4⟩:=R.ao h2;cases h4;rw[List.length_cons,h δ es h3]
theorem Ac{P:Program}{w:World}{K:W.Frag}{mg:PY}{base:Heap}{x qual:Str}{st:Stmt}{f:Addr}{fd:FuncData}{N ps:List Str}{k:Nat}{F:FS}{b:List Stmt}{sc:Scope}(hb:a9 st=b)(hs:aJ st=sc)(Fn:wb K x qual st f fd)(S:bp N ps sc)
 (i9:∀(dC:Value) (A:Around) (outer:List Env) (s:Shared) (H:Hp) (E:XK),fF k (A.deeper (envOfC qual sc s.heap.objs.size f dC))->
   nB (og p9 P w K mg base N qual sc f dC A outer s H E).Cw b F):iY P w K mg base p9 (k+1) f fd ps (BL K ps.length (qE N F)):=by
 subst hb hs;exact CJ Fn S i9
section
variable {X:Cx}
theorem zp{g:List D->R D}{k j n:Nat}{x:Str}{p pos:Pos}{e:Expr}{es:List Expr}{fs:av->R (List D)}(C:Callee X.prog X.w X.K X.mg X.base k x n g)(hr:fF j X.A)(HZ:k<=j)(hg:Gl X x)(ha:AN X (e ::es) fs)
 (hn:∀δ ds,fs δ= .ok ds->ds.length=n) (pY:(x==("__debug__":Str))=false:=by decide) (he:starEach (e ::es) X.env=(false,eval e X.env) ::starEach es X.env:=by rfl) (kN:(backTo pos (starEach es X.env)).any (·.1)=false:=by rfl) :
 PD X (.Call (.Name x p) (e ::es) [] pos) (aF g fs):=by
 obtain⟨f,fd,ps,F,hm,hk,hb⟩:=C;exact BJ F (hr.mono HZ) hg hm hk hb ha hn pY he kN
def He(sc:Scope)(N:List Str)(scope:Scope)(kp:List Nat)(kn:List Str):Bool:=
 decide (scope.kind= .function) && scope.names.all (fun y=>decide (y.2= .cell->scope.names.lookup y.1=some .cell)) && scope.names.all (fun y=>decide (y.2= .local->scope.names.lookup y.1=some .local))
  && scope.names.all (fun y=>decide (y.2= .free->(sc.names.lookup y.1=some .cell\/sc.names.lookup y.1=some .free))) && scope.names.all (fun y=>decide (y.2= .free->scope.names.lookup y.1=some .free)) && decide (kn.length=kp.length)
  && (List.range kp.length).all (fun j=>decide ((kp[j]?).bind (N[·]?)=kn[j]?)) && kn.all (fun x=>decide (scope.names.lookup x=some .free))
theorem bz.of{own:List Str}{kp:List Nat}{kn:List Str}{N:List Str}(h1:X.env.scope=sc)(h2:X.N=N)(h:He sc N scope kp kn=true):bz X scope own kp kn:=by
 unfold He at h;simp only[Bool.and_eq_true,decide_eq_true_eq,List.all_eq_true] at h;obtain⟨⟨⟨⟨⟨⟨⟨a1,a2⟩,a3⟩,a4⟩,a8⟩,a5⟩,a6⟩,a7⟩:=h;refine⟨a1,a2,a3,fun y hy hf=>?_,a8,a5,fun j i x hj hx=>?_,a7⟩
 .have:=a4 y hy hf;unfold Env.kindOf;rw[h1];exact this
 .have hlt:j < kp.length:=(List.getElem?_eq_some_iff.mp hj).1;have:=a6 j (List.mem_range.mpr hlt);rw[hj] at this;rw[h2];exact this.trans hx
def z_(kvs:List (Key × V))(f g:FD):FD:=fun δ=>(f δ).bind fun k=>(g δ).bind fun d=>match k with
 | .str x=>(match ij (jm [] kvs) (Sum.inr x) with | some (.int i)=> .ok (.int i) | none=> .ok d | _=> .no)
 | _=> .no
theorem D6{keys:List (Option Expr)}{values:List Expr}{qH:List (TE × TE)}{r6 apos cw:Pos}{e f:Expr}{fe ff:FD}{kvs:List (Key × V)}(hu:X.A.units+1 < cLine)(h:EI X r6 keys values qH)(yb:keys.all (·.isSome)=true)(hl:keys.length=values.length)(h0:keys≠[])
 (hc:∀σ H Q,Q (kvs.map fun kv=>(kV kv.1,kv.2)) H->mF qH σ H Q) (hlen:kvs.length<=15) (he:PD X e fe) (hf:PD X f ff) (m:M2 X (.Dict keys values r6) "get" apos e f cw)
 (hd:PE X (.Dict keys values r6) (zy qH)):PD X (.Call (.Attribute (.Dict keys values r6) "get" apos) [e,f] [] cw) (z_ kvs fe ff):=by
 refine(zX hu hd he hf m).imp fun σ H Q ⟨Z,B,δ,d,E,hfd,q⟩=>?_
 obtain⟨k,h1,h2⟩:=R.ao hfd;obtain⟨dd,h3,h4⟩:=R.ao h2;intro p hp;refine hc σ _ _ ⟨aV,kvs,rfl,hlen,p,rfl, .inl ⟨_, .inl aV⟩,?_⟩;rw[Bw];have s0:aP H (upd H p (.dK (jm [] kvs))):=aU hp;refine⟨Z,B,δ,k,E.same s0,h1,fun v1 H1 s1 r1=>⟨Z,B,δ,dd,(E.same s0).same s1,h3,fun v2 H2 s2 r2=>?_⟩⟩
 have hH2:H2 p=some (.dK (jm [] kvs)):=s2 p _ (s1 p _ aV);have sA:aP H H2:=s0.trans (s1.trans s2);split at h4
 .rename_i x;refine⟨ij (jm [] kvs) (Sum.inr x),?_,?_⟩
  .rw [Rep.str.mp r1];exact jX.k (k:=Sum.inr x) hH2
  .split at h4
   .rename_i i e1;cases h4;rw[e1];exact q _ H2 sA (Rep.int.mpr rfl)
   .rename_i e1;cases h4;rw[e1];exact q _ H2 sA r2
   .cases h4
 .cases h4
def K1(i:Nat)(f:FD):FS:=fun δ=>(f δ).bind fun d=>match d with
 | .lst es=>(nQ δ i).bind fun ds=>R.a_ (decide (ds.length+es.length<=sizeLine)) (.ok (.nx (δ.set i (.bld (ds++es)))))
 | _=> .no
end
end L2
end
section
namespace L2
open PySem PySem.Spec PyProof.Rows
structure QD (X:Cx) (e:Expr) (f:FD):Prop where
 h:PD X e f
structure QN (X:Cx) (e:Expr) (f:av->R (List D)):Prop where
 h:PN X e f
structure QB (X:Cx) (e:Expr) (f:av->R Bool):Prop where
 h:PB X e f
structure D9 (X:Cx) (e:Expr) (f:av->R Bool):Prop where
 h:AR X e f
structure Dg (X:Cx) (e:List Expr) (f:av->R (List D)):Prop where
 h:AN X e f
structure AQ (X:Cx) (e:Stmt) (f:FS):Prop where
 h:Ba X e f
structure pT (X:Cx) (e:List Stmt) (f:FS):Prop where
 h:nB X e f
structure HJ (X:Cx) (e:Expr) (f:FT):Prop where
 h:Ga X e f
structure BG (X:Cx) (e:List Expr) (f:zV):Prop where
 h:Ab X e f
structure xU (X:Cx) (tg e:Expr) (f:av->R (List D)):Prop where
 h:Gi X tg e f
structure QP (X:Cx) (e:Option Expr) (f:FO):Prop where
 h:PP X e f
structure QJ (X:Cx) (e:List Expr) (f:av->R (List Str)):Prop where
 h:PJ X e f
structure E5 (X:Cx) (e:List Expr) (c:av->R Bool):Prop where
 h:mi X e (Ey X.K c)
section
variable {X:Cx}
theorem bo{f:av->R (List D)}(h:QN X e f):QD X e (eNew f):=⟨Em h.1⟩
theorem aa(i:Nat){pos:Pos}(hN:X.N[i]? =some x:=by rfl)(hv:Cq X.env.scope x:=by first | exact Or.inl rfl | exact Or.inr (Or.inl rfl) | exact Or.inr (Or.inr rfl))(hd:(x==("__debug__":Str))=false:=by decide)(pE:(x==("__classdict__":Str))=false:=by decide):QD X (.Name x pos) (ae i):=⟨DZ i hN hv hd pE⟩
theorem ag{i j pos}:QD X (.Constant (.int i) j pos) (eC (.int i)):=⟨Eu⟩
theorem ur{b j pos}:QD X (.Constant (.bool b) j pos) (eC (.bl b)):=⟨Hq⟩
theorem dc{x j pos}:QD X (.Constant (.str x) j pos) (eC (.str x)):=⟨DW⟩
theorem oG{d:D}{pos:Pos}(g:Glob X.K X.mg x d)(hg:Gl X x)(hd:(x==("__debug__":Str))=false:=by decide):QD X (.Name x pos) (eC d):=⟨BC g hg hd⟩
theorem af:Dg X [] aG:=⟨CG⟩
theorem ab{g:av->R (List D)}(h:QD X e f)(t:Dg X es g)(hs:starEach (e ::es) X.env=(false,eval e X.env) ::starEach es X.env:=by rfl):Dg X (e ::es) (aj f g):=⟨yT h.1 t.1 hs⟩
theorem b8{g:av->R (List D)}{x1 pos}(h:Dg X es g):QD X (.Tuple es x1 pos) (fH g):=⟨D1 h.1⟩
theorem cb{g:av->R (List D)}{pos}(h:Dg X es g):QN X (.List es pos) (fB g):=⟨Ee h.1⟩
theorem ay{op:Operator}{g:D->D->R D}(ho:jR X (binaryOp op) g)(ha:QD X a fa)(hb:QD X b fb):QD X (.BinOp a op b pos) (e2 g fa fb):=⟨GG ho ha.1 hb.1⟩
theorem jt{op:CmpOp}{g:D->D->R D}(ho:jR X (compareOp op) g)(ha:QD X a fa)(hb:QD X b fb)(hm:behindInMarks op b=false):QD X (.Compare a [op] [b] pos) (e2 g fa fb):=⟨ET ho ha.1 hb.1 hm⟩
theorem bO{op:CmpOp}{g:D->D->R D}(ho:jR X (compareOp op) g)(ha:QD X a fa)(hb:QD X b fb)(hm:behindInMarks op b=false):QB X (.Compare a [op] [b] pos) (b2 g fa fb):=⟨EG ho ha.1 hb.1 hm⟩
theorem vS{f:av->R Bool}(h:D9 X e f):QB X e f:=⟨AR.pb h.1⟩
theorem xR{f:av->R Bool}(h:QB X a f):D9 X (.BoolOp .And [a] pos) f:=⟨zq h.1⟩
theorem yW{f:av->R Bool}(h:QB X a f):D9 X (.BoolOp .Or [a] pos) f:=⟨Bb h.1⟩
theorem Ai{rest:List Expr}{f g:av->R Bool}(ha:QB X a f)(hb:D9 X (.BoolOp .And (b ::rest) pos) g):D9 X (.BoolOp .And (a ::b ::rest) pos) (BQ f g):=⟨Bi ha.1 hb.1⟩
theorem vR{rest:List Expr}{f g:av->R Bool}(ha:QB X a f)(hb:D9 X (.BoolOp .Or (b ::rest) pos) g):D9 X (.BoolOp .Or (a ::b ::rest) pos) (Hi f g):=⟨Ek ha.1 hb.1⟩
theorem yQ{fc:av->R Bool}(hc:QB X c fc)(ha:QD X a f)(hb:QD X b g):QD X (.IfExp c a b pos) (Gh fc f g):=⟨HC hc.1 ha.1 hb.1⟩
theorem aR{g:List D->R D}{id:String}{p pos:Pos}{fs:av->R (List D)}(hc:cv X (.builtin id) g)(hg:Gl X x)(hm:X.mg x=none)(hv:bootBuiltins x=some (.builtin id))(ha:Dg X (e ::es) fs)(hn:x≠"__name__":=by decide)(pY:(x==("__debug__":Str))=false:=by decide)(he:starEach (e ::es) X.env=(false,eval e X.env) ::starEach es X.env:=by rfl)(kN:(backTo pos (starEach es X.env)).any (·.1)=false:=by rfl):QD X (.Call (.Name x p) (e ::es) [] pos) (aF g fs):=⟨yG hc hg hm hv ha.1 hn pY he kN⟩
theorem bR{g:List D->R D}{T:String}{p pos:Pos}{fs:av->R (List D)}(hc:cv X (.type T) g)(hg:Gl X x)(hm:X.mg x=none)(hv:bootBuiltins x=some (.type T))(ha:Dg X (e ::es) fs)(hn:x≠"__name__":=by decide)(pY:(x==("__debug__":Str))=false:=by decide)(he:starEach (e ::es) X.env=(false,eval e X.env) ::starEach es X.env:=by rfl)(kN:(backTo pos (starEach es X.env)).any (·.1)=false:=by rfl):QD X (.Call (.Name x p) (e ::es) [] pos) (aF g fs):=⟨xm hc hg hm hv ha.1 hn pY he kN⟩
theorem d9:pT X [] m7:=⟨A3⟩
theorem bK{st:Stmt}{rest:List Stmt}{F G:FS}(h1:AQ X st F)(h2:pT X rest G):pT X (st ::rest) (fJ F G):=⟨Ap h1.1 h2.1⟩
theorem bu{st:Stmt}{F:FS}(h1:AQ X st F):pT X [st] F:=⟨Cd h1.1⟩
theorem iU{i:Nat}{pos pos':Pos}(hN:X.N.Nodup)(hi:X.N[i]? =some x)(hx:Loc X.env.scope x)(he:QD X e f)(hs:swapsWith e (some (.Name x pos')) pos.line X.env=pure false:=by rfl)(hf:X.fn x=true\/X.env.scope.names.lookup x=some .local:=by first | exact .inl rfl | exact .inr rfl | assumption):AQ X (.Assign [.Name x pos'] e pos) (nS i f):=⟨BW hN hi hx he.1 hs hf⟩
theorem sk{i:Nat}{f:av->R (List D)}{pos pos':Pos}(hN:X.N.Nodup)(hi:X.N[i]? =some x)(hx:Loc X.env.scope x)(he:QN X e f)(hs:swapsWith e (some (.Name x pos')) pos.line X.env=pure false:=by rfl)(hf:X.fn x=true\/X.env.scope.names.lookup x=some .local:=by first | exact .inl rfl | exact .inr rfl | assumption):AQ X (.Assign [.Name x pos'] e pos) (uC i f):=⟨Ci hN hi hx he.1 hs hf⟩
theorem zY{i:Nat}{x:Str}{e:Expr}{f:av->R (List D)}{gW apos cw pos:Pos}(hN:X.N[i]? =some x)(hv:Cq X.env.scope x)(he:QN X e f)(hd:(x==("__debug__":Str))=false:=by decide)(pE:(x==("__classdict__":Str))=false:=by decide)(hs:starEach [e] X.env=(false,eval e X.env) ::starEach [] X.env:=by rfl)(me:(apos.endLine==cw.line)=true:=by rfl)(rY:((backTo cw (starEach [e] X.env)).all (fun x=>!x.1) && (backToKw cw (keywordEach [] X.env)).all (fun x=>x.1.isSome)
 && decide (([e]:List Expr).length+([]:List Keyword).length+(if([]:List Keyword).isEmpty then 0 else 1) < 30))=true:=by rfl) (x_:swapsWith (.Call (.Attribute (.Name x gW) "extend" apos) [e] [] cw) none pos.line X.env=pure false:=by rfl) (md:attributeBase (.Name x gW) "extend" X.env (eval (.Name x gW) X.env)=eval (.Name x gW) X.env:=by rfl):AQ X (.Expr (.Call (.Attribute (.Name x gW) "extend" apos) [e] [] cw) pos) (Bh i f):=⟨Cn hN hv he.1 hd pE hs me rY x_ md⟩
theorem ub(i:Nat){F:FS}(h:pT X DI F):pT X DI (zf i F):=⟨B6 i h.1⟩
theorem bX(he:QD X e f):AQ X (.Return (some e) pos) (gP f):=⟨A5 he.1⟩
theorem e8{fc:av->R Bool}{F G:FS}(hc:QB X c fc)(ha:pT X a F)(hb:pT X b G):AQ X (.If c a b pos) (tG fc F G):=⟨Ep hc.1 ha.1 hb.1⟩
theorem aO{i:Nat}{pos:Pos}(hN:X.N.Nodup)(hi:X.N[i]? =some x)(hx:Loc X.env.scope x)(hf:X.fn x=true\/X.env.scope.names.lookup x=some .local:=by first | exact .inl rfl | exact .inr rfl | assumption):HJ X (.Name x pos) (bc i):=⟨z0 hN hi hx hf⟩
theorem cJ:BG X [] fD:=⟨zc⟩
theorem aW{u:zV}(h1:HJ X e t)(h2:BG X es u)(hs:(assignEach (e ::es) X.env).map (·.2)=assign e X.env ::(assignEach es X.env).map (·.2):=by rfl):BG X (e ::es) (bH t u):=⟨xg h1.1 h2.1 hs⟩
theorem dj{k:Nat}{t:zV}{n:Nat}{pos:Pos}(hc:X.calm=true)(h:BG X es t)(hn:(assignEach es X.env).length=n:=by rfl)(CN:(assignEach es X.env).findIdx? (·.1)=none:=by rfl):HJ X (.Tuple es k pos) (fE n t):=⟨CH hc h.1 hn CN⟩
theorem bU(h:QD X e f):xU X tg e (c8 f):=⟨BY h.1⟩
theorem bL{tg a:Expr}{p pos:Pos}(h:QD X a f)(hg:Gl X "range")(hm:X.mg "range"=none)(hs:starEach [a] X.env=[(false,eval a X.env)]:=by rfl):xU X tg (.Call (.Name "range" p) [a] [] pos) (cV f):=⟨uv h.1 hg hm hs⟩
theorem tZ{it:av->R (List D)}{F:FS}{pos:Pos}(hp:PassesOwn (model X.prog X.w) X.A X.env X.xe)(hc:X.calm=true)(hi:xU X tg iter it)(hg:HJ X tg t)(hb:pT X body F)(hs:∀x,foldedSetIterable iter X.env x=pure x:=by intro _;rfl):AQ X (.For tg iter body [] pos) (wZ it t F):=⟨AX hp hc hi.1 hg.1 hb.1 hs⟩
theorem ck{own:List Str}{kp:List Nat}{kn:List Str}{it:av->R (List D)}{c:av->R Bool}{pos:Pos}(hc:X.calm=true)(C:bz X scope own kp kn)(hi:xU X tg iter it)(hg:∀fp s H,HJ (bF X scope (own++kn) fp s H) tg t)(AJ:∀fp s H,E5 (bF X scope (own++kn) fp s H) ifs c)(he:∀fp s H,QD (bF X scope (own++kn) fp s H) elt f)(hs:∀x,foldedSetIterable iter X.env x=pure x:=by intro _;rfl):QN X (.ListComp elt [⟨tg,iter,ifs,0⟩] scope pos) (dy it t c f own kp):=⟨CA hc C hi.1 (fun fp s H=>(hg fp s H).1) (fun fp s H=>(AJ fp s H).1) (fun fp s H=>(he fp s H).1) hs⟩
theorem bZ:E5 X [] jn:=⟨yX⟩
theorem Au{c:av->R Bool}(h:QB X e c):E5 X [e] c:=⟨A7 h.1⟩
theorem aA(ha:QD X a fa)(hb:QD X b fb)(hs:rK b):QD X (.Subscript a b pos) (e2 b6 fa fb):=⟨G7 ha.1 hb.1 hs⟩
theorem lZ:QP X none qD:=⟨Bq⟩
theorem ke(h:QD X e f):QP X (some e) (lH f):=⟨A_ h.1⟩
theorem qU{lo hi:Option Expr}{fl fh:FO}(he:QD X e f)(hl:QP X lo fl)(hh:QP X hi fh):QD X (.Subscript e (.Slice lo hi none p2) pos) (CY f fl fh):=⟨HF he.1 hl.1 hh.1⟩
theorem dP{elts:List Expr}{k:Nat}{rZ:Pos}{p pos:Pos}(h:QD X a f)(hg:Gl X "enumerate")(hm:X.mg "enumerate"=none)(hs:starEach [a] X.env=[(false,eval a X.env)]:=by rfl):xU X (.Tuple elts k rZ) (.Call (.Name "enumerate" p) [a] [] pos) (eE f):=⟨su h.1 hg hm hs⟩
theorem cC{P:Program}{w:World}{K:W.Frag}{mg:PY}{base:Heap}{x qual:Str}{st:Stmt}{f:Addr}{fd:FuncData}{N ps:List Str}{k:Nat}{F:FS}{b:List Stmt}{sc:Scope}(hb:a9 st=b)(hs:aJ st=sc)(Fn:wb K x qual st f fd)(S:bp N ps sc)(i9:∀(dC:Value) (A:Around) (outer:List Env) (s:Shared) (H:Hp) (E:XK),fF k (A.deeper (envOfC qual sc s.heap.objs.size f dC))->
 pT (og p9 P w K mg base N qual sc f dC A outer s H E).Cw b F):iY P w K mg base p9 (k+1) f fd ps (BL K ps.length (qE N F)):=Ac hb hs Fn S (fun dC A outer s H E hr=>(i9 dC A outer s H E hr).1)
theorem aN{g:List D->R D}{k j n:Nat}{p pos:Pos}{fs:av->R (List D)}(C:Callee X.prog X.w X.K X.mg X.base k x n g)(hr:fF j X.A)(HZ:k<=j)(hg:Gl X x)(ha:Dg X (e ::es) fs)(hn:∀δ ds,fs δ= .ok ds->ds.length=n)(pY:(x==("__debug__":Str))=false:=by decide)(he:starEach (e ::es) X.env=(false,eval e X.env) ::starEach es X.env:=by rfl)(kN:(backTo pos (starEach es X.env)).any (·.1)=false:=by rfl):QD X (.Call (.Name x p) (e ::es) [] pos) (aF g fs):=⟨zp C hr HZ hg ha.1 hn pY he kN⟩
theorem B5{keys:List (Option Expr)}{values:List Expr}{qH:List (TE × TE)}{kvs:List (Key × V)}(hu:X.A.units+1 < cLine)(h:EI X r6 keys values qH)(yb:keys.all (·.isSome)=true)(hl:keys.length=values.length)(h0:keys≠[])(hc:∀σ H Q,Q (kvs.map fun kv=>(kV kv.1,kv.2)) H->mF qH σ H Q)(hlen:kvs.length<=15)(he:QD X e fe)(hf:QD X f ff)(m:M2 X (.Dict keys values r6) "get" apos e f cw)(hd:PE X (.Dict keys values r6) (zy qH)):QD X (.Call (.Attribute (.Dict keys values r6) "get" apos) [e,f] [] cw) (z_ kvs fe ff):=⟨D6 hu h yb hl h0 hc hlen he.1 hf.1 m hd⟩
end
end L2
end
section
namespace L2
open PySem PySem.Spec PyProof.Rows
theorem xx{P:Program}{w:World}{K:W.Frag}{mg mb:PY}{CX:yL}{k:Nat}{fa a:Addr}{fd:FuncData}{x:Str}{sp:Sp}{s₁:Shared}{vs:List Value}{ns:List Int}
 (KX:K.In s₁.heap) (Me:s₁.heap.Ns mainGlobals mg) (hb:s₁.heap.Ns builtinsNs mb) (OE:∀x:Str,x≠"__name__"->mb x=bootBuiltins x) (Kr:s₁.heap.NoLimit) (hg:s₁.gens=#[])
 (ha:s₁.heap.get? a=some {cls:= .type "list",data:= .seq vs.toArray}) (hi:IntsAre vs ns) (hl:ns.length<=sizeLine) (hr:fF k callerA)
 (F:∀base:Heap,K.In base->base.Ns mainGlobals mg->iY P w K mg base CX k fa fd [x] sp) (Ij:∀(s:Shared) (u:Value),BindsTo s fd ⟨[u],[]⟩ [(x,u)])
 (Gm:∀H:Hp,GF H->se K [] H a (ns.map V.int)->sp [.ref a] H (fun v _=>v= .bl true) fun _ _ _=>False)
 (OL:∀H e s',CX [] H s₁ (fun _ _ _=>False) e s'->False) :
 codeAny (model P w) callerA (.call (.ref fa) ⟨[.ref a],[]⟩) (fun r s'=>r= .ok (.ret (.bool true))/\OldK s₁.heap s'.heap/\s'.os=s₁.os/\AllBare s'.gens) s₁:=by
 have rv:=p_ hi;have lenV:=hi.length;have core:∀H:Hp,GF H->se K [] H a (ns.map V.int)->lq P w H s₁.heap->(∀b,H b≠none->b=a)->(H a≠none->K.lookup a=none)->
  codeAny (model P w) callerA (.call (.ref fa) ⟨[.ref a],[]⟩) (fun r s'=>r= .ok (.ret (.bool true))/\OldK s₁.heap s'.heap/\s'.os=s₁.os/\AllBare s'.gens) s₁:=by
  intro H hO hS hok hA hK;have wK:∀{b:Addr} {o:Obj},s₁.heap.get? b=some o->H b=none->(q9 s₁.heap H).get? b=some o:=fun e n=>zH e n
  have noA:∀{b:Addr} {o:Obj} {es:Array DictEntry} {ep:Nat},s₁.heap.get? b=some o->o.data= .dict es ep->H b=none:=fun {b o es ep} e d=>by
   cases q:H b with
   | none=>rfl
   | some u=>
     have e':b=a:=hA b (by rw[q];simp)
     subst e';rw[ha] at e;cases e;have d':Data.seq vs.toArray _=Data.dict es ep:=d;cases d'
  have nsK:∀{b:Addr} {m:PY},s₁.heap.Ns b m->(q9 s₁.heap H).Ns b m:=fun {b m} ⟨o,es,ep,e,d,r⟩=>⟨o,es,ep,wK e (noA e d),d,r⟩
  have hKb:K.In (q9 s₁.heap H):=fun b o e=>wK (KX b o e) (by
   cases q:H b with
   | none=>rfl
   | some u=>
     have e':b=a:=hA b (by rw[q];simp)
     subst e';rw[hK (by rw[q];simp)] at e;cases e)
  have hM:Mod K mg (q9 s₁.heap H):=⟨hKb,nsK Me,⟨mb,nsK hb,OE⟩,let⟨mc,h1,h2⟩:=Kr;⟨mc,nsK h1,h2⟩⟩
  have e0:Cu P w K mg (q9 s₁.heap H) callerA [] s₁ H:=⟨rfl,hM,fun b o e=>BD e,Nat.le_of_eq (xH _ _),trivial,fun b hb=>absurd (show b∈([]:List Addr) from hb) (by simp),hok, .of_eq hg⟩
  refine codeAny_mono ((F _ hKb (nsK Me)).run callerA [] s₁ H ⟨[.ref a],[]⟩ [.ref a] [.ref a] _ _ hr e0 (Ij s₁ (.ref a)) (.cons rfl .nil) (Gm H hO hS)) fun r s' h=>?_
  cases r with
  | error e=>exact(OL H e s' h).elim
  | ok fl=>
    cases fl with
    | next=>exact False.elim h
    | brk=>exact False.elim h
    | cont=>exact False.elim h
    | ret u=>
      obtain⟨v,H',os,bare,un,Kw,r',q⟩:=h;have q':v= .bl true:=q;subst q';obtain rfl:u=Value.bool true:=r';refine⟨rfl,OldK.of_keep fun b o e=>?_,os,bare⟩
      cases q:H b with
      | none=>exact un.keep b o e q (by intro z;exact absurd (show b∈([]:List Addr) from z) (by simp)) (by simp)
      | some u=>
        rcases hO b with z | ⟨ob,xs,z⟩
        .rw [q] at z;cases z
        .have z2:=un.frzs b ob _ z;obtain⟨e1,_⟩:=hok b _ z;obtain⟨e2,_⟩:=Kw b _ z2;rw[e] at e1;cases e1;exact e2
 cases hk:K.lookup a with
 | some o=>
   have e:=KX a o hk;rw[ha] at e;cases e;refine core (fun _=>none) (fun _=> .inl rfl) (.inr ⟨vs,_,hk,by rw[List.length_map];exact hl,rv⟩) (fun b u z=>by have z':(none:Option HO)=some u:=z;cases z') (fun b z=>absurd rfl z) fun z=>absurd rfl z
 | none=>
   refine core (fun b=>if b=a then some (.ic {cls:= .type "list",data:= .seq vs.toArray} (.lst (ns.map V.int))) else none) (fun b=>?_) (.inl ⟨by simp, .inr ⟨{cls:= .type "list",data:= .seq vs.toArray},if_pos rfl⟩⟩) (fun b u z=>?_) (fun b z=>?_) fun _=>hk
   .by_cases hb:b=a
    .exact .inr ⟨_,_,if_pos hb⟩
    .exact .inl (if_neg hb)
   .by_cases hb:b=a
    .have z':=(if_pos hb).symm.trans z;cases z';subst hb;exact⟨ha,by rw[List.length_map];exact hl,vs,_,rv,ha⟩
    .have z':=(if_neg hb).symm.trans z;cases z'
   .by_cases hb:b=a
    .exact hb
    .exact absurd (if_neg hb) z
theorem ints_rep{K:W.Frag}{B:List Addr}:∀ns:List Int,aC K B H (ns.map D.int) (ns.map V.int)
 | []=>aC.nil
 | n ::ns=>aC.cons (Rep.int.mpr rfl) (ints_rep ns)
theorem Hx{l:PySem.W.OpenLaw}{n k:Nat}{q:Program}{loose:List Str}{XP:(Str->Option Value)->Heap->Prop}{YP:World->Heap->Prop}{d:DefRec}{K:Params->W.Frag}{x:Str}{g:List D->R D}
 (hn:l.most=some n) (IK:n<=sizeLine) (KD:d.params.defaults=[]) (hr:fF k callerA) (hY:∀(w:World) (h:Heap),YP w h->(K w.params).In h)
 (F:∀(w:World) (mg:PY) (fa:Addr) (h:Heap),(K w.params).In h->h.Ns mainGlobals mg->mg d.name=some (.ref fa)->
   ∃fd:FuncData,(∀(s:Shared) (u:Value),BindsTo s fd ⟨[u],[]⟩ [(x,u)])/\∀base:Heap,(K w.params).In base->base.Ns mainGlobals mg->iY l.prog w (K w.params) mg base p9 k fa fd [x] (BL (K w.params) 1 g))
 (hg:∀ns:List Int,ns.length<=n->g [.lst (ns.map D.int)]= .ok (.bl true)):PySem.W.WalkO q loose XP YP l.row.toRowW d [] (fun f vs=>PySem.call f vs):=by
 refine Att.sv hn KD fun w s₀ s₁ mg mb fa o pm cd doc a vs ns G Y ho hd pE Iq F4 hints hlen KW=>?_
 have KX:=hY w _ Y;obtain⟨fd,hb,hF⟩:=F w mg fa _ KX G.T.g Iq;refine xx KX G.T.g G.T.b G.T.builtins G.T.nolimit KW F4 hints (Nat.le_trans hlen IK) hr hF hb (fun H hO hS=>?_) fun H e s' h=>h
 refine⟨rfl,[],[.lst (ns.map D.int)], .bl true,fun b hb=>(by cases hb),aC.cons (Rep.lst.mpr ⟨_,_,rfl,hS,ints_rep ns⟩) aC.nil,hg ns hlen,fun z H' _ r=>Rep.bl.mp r⟩
theorem cq{K:W.Frag}{h:Heap}{mg:PY}{x:Str}{st:Stmt}{f:Addr}{oc:Value}{od an:Option Addr}{yc:Array (Option Value)}{kV doc pm dC ct:Value}(X:K.In h)(G:h.Ns mainGlobals mg)(a:PySem.W.nsIn K mainGlobals x=some (some (.ref f)))
 (l:K.lookup f=some ⟨oc,od, .func (PySem.W.fnOf x x (l3 st) (a9 st) (aJ st) .none kV doc pm an dC ct),yc⟩) (c:PySem.W.codeIn K dC x=true) (k:PySem.W.keepIn K (.ref f)=true):Def K mg x st:=
 ⟨f,_,Eb l c k,PySem.W.mg_of X G a⟩
theorem n9{K:W.Frag}{h:Heap}{mg:PY}(X:K.In h)(G:h.Ns mainGlobals mg){i:Int}{t:Tok}(a:PySem.W.nsIn K mainGlobals x=some (some (.int i t))):Glob K mg x (.int i):=
 ⟨_, .int i,PySem.W.mg_of X G a,⟨t,rfl⟩,fun _ _=>Rep.int.mpr rfl⟩
end L2
end
section
namespace L2
open PySem PySem.Spec PyProof.Rows
theorem oS{t:FT}{body:FS}:∀(ds:List D) (n:Nat) (P:Nat->av->Prop) {δ:av},P n δ->
 (∀i d δ,ds[i]? =some d->P (n+i) δ->∃du,((t d δ).bind body)= .ok (.nx du)/\P (n+i+1) du)->∃du,mR t body ds δ= .ok (.nx du)/\P (n+ds.length) du
 | [],n,P,δ,h0,_=>⟨δ,rfl,h0⟩
 | d ::ds,n,P,δ,h0,hs=>by
   obtain⟨δ1,e1,p1⟩:=hs 0 d δ rfl h0;obtain⟨ft,e2,p2⟩:=oS ds (n+1) P p1 (fun i d' du hi hp=>by
    have:=hs (i+1) d' du (by simpa using hi) (by rw[show n+(i+1)=n+1+i by omega];exact hp)
    rw[show n+(i+1)+1=n+1+i+1 by omega] at this
    exact this)
   refine⟨ft,?_,by rw[List.length_cons,show n+(ds.length+1)=n+1+ds.length by omega];exact p2⟩
   obtain⟨Pm,h1,h2⟩:=R.ao e1;show(t d δ).bind (fun δ1=>(body δ1).bind fun o=>match o with | .nx ft=>mR t body ds ft | .rt r=> .ok (.rt r))=_
   rw[h1,R.aX,h2,R.aX];exact e2
theorem qh{t:FT}{body:FS}{ds:List D}(P:Nat->av->Prop){δ:av}(h0:P 0 δ)
 (hs:∀i d δ,ds[i]? =some d->P i δ->∃du,((t d δ).bind body)= .ok (.nx du)/\P (i+1) du):∃du,mR t body ds δ= .ok (.nx du)/\P ds.length du:=by
 have:=oS (t:=t) (body:=body) ds 0 P h0 (fun i d δ hi hp=>by simpa using hs i d δ hi (by simpa using hp))
 simpa using this
theorem rC{α:Type}{xs:List α}{i:Int}(h0:0<=i)(h:i.toNat < xs.length):qj xs i=some xs[i.toNat]:=by
 unfold qj ze;rw[if_pos h0,if_pos (by omega)]
 simp [h]
theorem ints_map:∀ss:List Int,ints? (ss.map D.int)=some ss
 | []=>rfl
 | s ::ss=>by show(ints? (ss.map D.int)).map (s ::·)=_;rw [ints_map ss];rfl
theorem b9{F G:FS}{δ δ1:av}{r:R Out}(h:F δ= .ok (.nx δ1))(h2:G δ1=r):fJ F G δ=r:=by unfold fJ;rw [h,R.aX];exact h2
theorem cc{f:av->R (List D)}{δ:av}{ds:List D}(h:f δ= .ok ds):eNew f δ= .ok (.lst ds):=by unfold eNew;rw [h];rfl
theorem qF{c:av->R Bool}{F G:FS}{δ:av}{r:R Out}(h:c δ= .ok true)(h2:F δ=r):tG c F G δ=r:=by unfold tG;rw [h,R.aX,if_pos rfl];exact h2
theorem g9{c:av->R Bool}{F G:FS}{δ:av}{r:R Out}(h:c δ= .ok false)(h2:G δ=r):tG c F G δ=r:=by unfold tG;rw [h,R.aX,if_neg (by decide)];exact h2
theorem vL{it:av->R (List D)}{F:FS}{δ:av}{ds:List D}{r:R Out}(h:it δ= .ok ds)(h2:mR t F ds δ=r):wZ it t F δ=r:=by unfold wZ;rw [h,R.aX];exact h2
theorem c_{f:FD}{δ:av}{d:D}(h:f δ= .ok d):gP f δ= .ok (.rt d):=by unfold gP;rw [h];rfl
theorem eF{N:List Str}{F:FS}{ds:List D}{d:D}(h:F (cY N ds)= .ok (.rt d)):qE N F ds= .ok d:=by unfold qE;rw [h];rfl
theorem bM{α:Type}{p:Prop} [Decidable p](r:R α)(h:p):R.a_ (decide p) r=r:=by rw[decide_eq_true h];rfl
theorem kD{i:Nat}{f:FD}{δ:av}{d:D}(h:f δ= .ok d)(hi:i < δ.length):nS i f δ= .ok (.nx (δ.set i (.val d))):=by unfold nS;rw [h,R.aX,bM _ hi]
theorem vH{i:Nat}{f:av->R (List D)}{δ:av}{ds:List D}(h:f δ= .ok ds)(hi:i < δ.length):uC i f δ= .ok (.nx (δ.set i (.bld ds))):=by unfold uC;rw [h,R.aX,bM _ hi]
theorem cj{it:av->R (List D)}{c:av->R Bool}{own:List Str}{kp:List Nat}{δ:av}{ds ys:List D}(h1:it δ= .ok ds)(h2:ds.length<=sizeLine)(h3:l6 t c f (nC own kp δ) ds= .ok ys):dy it t c f own kp δ= .ok ys:=by unfold dy;rw [h1,R.aX,bM _ h2,h3]
theorem zl{ds:List D}{i:Int}{d:D}(h:qj ds i=some d):b6 (.lst ds) (.int i)= .ok d:=by unfold b6;simp only[h]
theorem uP{ds:List D}{i:Int}{d:D}(h:qj ds i=some d):b6 (.tup ds) (.int i)= .ok d:=by unfold b6;simp only[h]
theorem dv{x:Str}{i:Int}{c:Nat}(hz:x.length<=sizeLine)(h:qj x.cps.toList i=some c):b6 (.str x) (.int i)= .ok (.str ⟨#[c]⟩):=by unfold b6;simp only[h,bM _ hz]
end L2
end
section
namespace L2
open PySem PySem.Spec PyProof.Rows
theorem aq{g:D->D->R D}{fa fb:FD}{δ:av}{a b:D}{r:R D}(ha:fa δ= .ok a)(hb:fb δ= .ok b)(h:g a b=r):e2 g fa fb δ=r:=by unfold e2;rw [ha,R.aX,hb,R.aX];exact h
theorem d_{g:D->D->R D}{fa fb:FD}{δ:av}{a b:D}{k:Bool}(ha:fa δ= .ok a)(hb:fb δ= .ok b)(h:g a b= .ok (.bl k)):b2 g fa fb δ= .ok k:=by unfold b2;rw [aq ha hb h];rfl
theorem az{f:FD}{g:av->R (List D)}{δ:av}{d:D}{ds:List D}(h:f δ= .ok d)(h2:g δ= .ok ds):aj f g δ= .ok (d ::ds):=by unfold aj;rw [h,R.aX,h2];rfl
theorem ax{g:List D->R D}{fs:av->R (List D)}{δ:av}{ds:List D}{r:R D}(h:fs δ= .ok ds)(h2:g ds=r):aF g fs δ=r:=by unfold aF;rw [h,R.aX];exact h2
theorem c9{g:av->R (List D)}{δ:av}{ds:List D}(h:g δ= .ok ds)(hl:ds.length<=sizeLine):fH g δ= .ok (.tup ds):=by unfold fH;rw [h,R.aX,bM _ hl]
theorem nH{g:av->R (List D)}{δ:av}{ds:List D}(h:g δ= .ok ds)(hl:ds.length<=sizeLine):fB g δ= .ok ds:=by unfold fB;rw [h,R.aX,bM _ hl]
theorem qP{f:FD}{fl fh:FO}{δ:av}{d:D}{lo hi:Option Int}{r:R D}(h:f δ= .ok d)(h1:fl δ= .ok lo)(h2:fh δ= .ok hi)(h3:D3 d lo hi=r):CY f fl fh δ=r:=by unfold CY;rw [h,R.aX,h1,R.aX,h2,R.aX];exact h3
theorem lY{f:FD}{δ:av}{i:Int}(h:f δ= .ok (.int i)):lH f δ= .ok (some i):=by unfold lH;rw [h];rfl
theorem CC{a b:List D}(h:a.length+b.length<=sizeLine):cf (.lst a) (.lst b)= .ok (.lst (a++b)):=by unfold cf;exact bM _ h
theorem oO{a b:Int}(h:0 < b):fG (.int a) (.int b)= .ok (.int (a % b)):=by unfold fG yR;exact bM _ h
theorem vI{a b:Int}(h:0 < b)(h2:b < 1073741824):mS (.int a) (.int b)= .ok (.int (a / b)):=by unfold mS yR;exact bM _ ⟨h,h2⟩
theorem rA{f:FD}{δ:av}{n:Nat}(h:f δ= .ok (.int n))(hn:n < 1000000):cV f δ= .ok (il 0 n):=by
 unfold cV;rw [h,R.aX];show R.a_ (decide (-(2 ^ 62)<=(n:Int)/\(n:Int) < 2 ^ 62)) _=_;rw[bM _ ⟨by omega,by omega⟩,Int.toNat_natCast]
theorem jZ{f:FD}{δ:av}{ds:List D}(h:f δ= .ok (.lst ds)):c8 f δ= .ok ds:=by unfold c8;rw [h];rfl
theorem oU{f:FD}{δ:av}{ds:List D}(h:f δ= .ok (.tup ds)):c8 f δ= .ok ds:=by unfold c8;rw [h];rfl
theorem j5{f:FD}{δ:av}{ds:List D}(h:f δ= .ok (.lst ds)):eE f δ= .ok (cT ds):=by unfold eE;rw [h];rfl
theorem um(ds:List D):d3 [.lst ds]= .ok (.int ds.length):=rfl
end L2
end
section
namespace L3
open PySem PySem.Spec PyProof.Rows L2
inductive V3 where
 | d (x:D) | loc (k:Nat) | lst (vs:List V3) | tup (vs:List V3) | fn (x:Str)
inductive SO where
 | lst (ds:List D) | dct (kvs:List (Key × D)) | ins (c:Nat) (fs:List (Str × V3)) | ic | exc (c:Nat)
abbrev bw:=List SO
inductive R3 (α:Type) where
 | ok (a:α) (S:bw) | ex (c:Nat) (S:bw) | no
def R3.bind{α β:Type}:R3 α->(α->bw->R3 β)->R3 β
 | .ok a S,f=>f a S
 | .ex c S,_=> .ex c S
 | .no,_=> .no
theorem R3.ao{α β:Type}{r:R3 α}{f:α->bw->R3 β}{b:β}{S':bw}(h:r.bind f= .ok b S'):∃a S,r= .ok a S/\f a S= .ok b S':=by
 cases r with
 | ok a S=>exact⟨a,S,rfl,h⟩
 | ex c S=>cases h
 | no=>cases h
@[simp] theorem R3.aX{α β:Type}(a:α)(S:bw)(f:α->bw->R3 β):(R3.ok a S).bind f=f a S:=rfl
def R3.a_{α:Type}(c:Bool)(r:R3 α):R3 α:=if c then r else .no
theorem R3.bj{α:Type}{c:Bool}{r:R3 α}{a:α}{S:bw}(h:R3.a_ c r= .ok a S):c=true/\r= .ok a S:=by
 cases c with
 | true=>exact⟨rfl,h⟩
 | false=>cases h
def R3.of{α:Type}(r:R α)(S:bw):R3 α:=match r with | .ok a=> .ok a S | _=> .no
theorem R3.of_ok{α:Type}{r:R α}{S S':bw}{a:α}(h:R3.of r S= .ok a S'):r= .ok a/\S'=S:=by
 cases r with
 | ok b=>cases h;exact⟨rfl,rfl⟩
 | ex c=>cases h
 | no=>cases h
structure P3 where
 r:List Addr
 z:List Addr
 f:List Addr
def P3.b(ρ:P3):List Addr:=ρ.r.filter (fun a=>!ρ.f.contains a)++ρ.z
theorem P3.c5{ρ:P3}{a:Addr}:a∈ρ.b↔(a∈ρ.r/\a ∉ ρ.f)\/a∈ρ.z:=by
 unfold P3.b;rw[List.mem_append,List.mem_filter];simp
def P3.push(ρ:P3)(a:Addr):P3:=⟨ρ.r++[a],ρ.z,ρ.f⟩
def P3.cut(ρ:P3)(n:Nat):P3:=⟨ρ.r.take n,ρ.z,ρ.f⟩
mutual
def bE(K:W.Frag)(ρ:P3)(H:Hp):V3->V->Prop
 | .d x,v=>Rep K ρ.b H x v
 | .loc k,v=>∃a,ρ.r[k]? =some a/\v= .ref a
 | .lst vs,v=>∃a xs,v= .ref a/\se K ρ.b H a xs/\aK K ρ H vs xs
 | .tup vs,v=>∃a xs,v= .ref a/\uj K ρ.b H a xs/\aK K ρ H vs xs
 | .fn x,v=>∃a,PySem.W.nsIn K mainGlobals x=some (some (.ref a))/\v= .ref a
def aK(K:W.Frag)(ρ:P3)(H:Hp):List V3->List V->Prop
 | [],xs=>xs=[]
 | d ::ds,xs=>∃x r,xs=x ::r/\bE K ρ H d x/\aK K ρ H ds r
end
structure Pre (ρ:P3) (H:Hp) (cD:P3) (H':Hp):Prop where
 a0:cZ ρ.b H cD.b H'
 zz:cD.z=ρ.z
 zs:∀(b:Addr) (o:HO),b∈ρ.z->H b=some o->H' b=some o
 ext:∀(k:Nat) (a:Addr),ρ.r[k]? =some a->cD.r[k]? =some a
theorem Pre.refl(ρ:P3)(H:Hp):Pre ρ H ρ H:=⟨cZ.refl ρ.b H,rfl,fun _ _ _ h=>h,fun _ _ h=>h⟩
theorem Pre.trans(a:Pre ρ H cD H')(b:Pre cD H' AL lF):Pre ρ H AL lF:=⟨a.a0.trans b.a0,b.zz.trans a.zz,fun c o hc h=>b.zs c o (by rw[a.zz];exact hc) (a.zs c o hc h),fun k x h=>b.ext k x (a.ext k x h)⟩
theorem Pre.same(s:aP H H'):Pre ρ H ρ H':=⟨cZ.same s,rfl,fun b o _ h=>s b o h,fun _ _ h=>h⟩
theorem uj.a0{K:W.Frag}{B B':List Addr}(p:cZ B H B' H'){a:Addr}{xs:List V}(l:uj K B H a xs):uj K B' H' a xs:=
 l.elim (fun z=> .inl ⟨(p.rd z.2 z.1).2,(p.rd z.2 z.1).1⟩) .inr
mutual
theorem bE.pre{K:W.Frag}(p:Pre ρ H cD H'):∀{d:V3} {v:V},bE K ρ H d v->bE K cD H' d v
 | .d x,v,h=>by unfold bE at h ⊢;exact h.a0 p.a0
 | .loc k,v,h=>by unfold bE at h ⊢;obtain⟨a,h1,h2⟩:=h;exact⟨a,p.ext k a h1,h2⟩
 | .lst vs,v,h=>by unfold bE at h ⊢;obtain⟨a,xs,e,l,r⟩:=h;exact⟨a,xs,e,l.a0 p.a0,aK.pre p r⟩
 | .tup vs,v,h=>by unfold bE at h ⊢;obtain⟨a,xs,e,l,r⟩:=h;exact⟨a,xs,e,uj.a0 p.a0 l,aK.pre p r⟩
 | .fn x,v,h=>by unfold bE at h ⊢;exact h
theorem aK.pre{K:W.Frag}(p:Pre ρ H cD H'):∀{ds:List V3} {xs:List V},aK K ρ H ds xs->aK K cD H' ds xs
 | [],_,h=>by unfold aK at h ⊢;exact h
 | d ::ds,xs,h=>by
   unfold aK at h ⊢;obtain⟨x,r,e,h1,h2⟩:=h;exact⟨x,r,e,bE.pre p h1,aK.pre p h2⟩
end
structure PW (ρ:P3) (H:Hp) (cD:P3) (H':Hp):Prop where
 a0:cZ ρ.b H cD.b H'
 ext:∀(k:Nat) (a:Addr),ρ.r[k]? =some a->cD.r[k]? =some a
theorem Pre.pw(p:Pre ρ H cD H'):PW ρ H cD H':=⟨p.a0,p.ext⟩
theorem PW.trans(a:PW ρ H cD H')(b:PW cD H' AL lF):PW ρ H AL lF:=⟨a.a0.trans b.a0,fun k x h=>b.ext k x (a.ext k x h)⟩
mutual
theorem bE.pw{K:W.Frag}(p:PW ρ H cD H'):∀{d:V3} {v:V},bE K ρ H d v->bE K cD H' d v
 | .d x,v,h=>by unfold bE at h ⊢;exact h.a0 p.a0
 | .loc k,v,h=>by unfold bE at h ⊢;obtain⟨a,h1,h2⟩:=h;exact⟨a,p.ext k a h1,h2⟩
 | .lst vs,v,h=>by unfold bE at h ⊢;obtain⟨a,xs,e,l,r⟩:=h;exact⟨a,xs,e,l.a0 p.a0,aK.pw p r⟩
 | .tup vs,v,h=>by unfold bE at h ⊢;obtain⟨a,xs,e,l,r⟩:=h;exact⟨a,xs,e,uj.a0 p.a0 l,aK.pw p r⟩
 | .fn x,v,h=>by unfold bE at h ⊢;exact h
theorem aK.pw{K:W.Frag}(p:PW ρ H cD H'):∀{ds:List V3} {xs:List V},aK K ρ H ds xs->aK K cD H' ds xs
 | [],_,h=>by unfold aK at h ⊢;exact h
 | d ::ds,xs,h=>by
   unfold aK at h ⊢;obtain⟨x,r,e,h1,h2⟩:=h;exact⟨x,r,e,bE.pw p h1,aK.pw p h2⟩
end
theorem aK.nil{K:W.Frag}:aK K ρ H [] []:=by unfold aK;rfl
theorem aK.cons{K:W.Frag}{d:V3}{ds:List V3}{x:V}{xs:List V}(h:bE K ρ H d x)(t:aK K ρ H ds xs):aK K ρ H (d ::ds) (x ::xs):=by
 unfold aK;exact⟨x,xs,rfl,h,t⟩
theorem aK.bW{K:W.Frag}{d:V3}{ds:List V3}{xs:List V}(h:aK K ρ H (d ::ds) xs):∃x r,xs=x ::r/\bE K ρ H d x/\aK K ρ H ds r:=by
 unfold aK at h;exact h
theorem aK.length{K:W.Frag}:∀{ds:List V3} {xs:List V},aK K ρ H ds xs->ds.length=xs.length
 | [],_,h=>by unfold aK at h;rw [h];rfl
 | d ::ds,xs,h=>by
   obtain⟨x,r,rfl,_,h2⟩:=h.bW;simp [h2.length]
theorem aK.of{K:W.Frag}{ρ:P3}:∀{ds:List D} {xs:List V},aC K ρ.b H ds xs->aK K ρ H (ds.map .d) xs
 | [],_,h=>by unfold aC at h;subst h;exact aK.nil
 | d ::ds,xs,h=>by
   obtain⟨x,r,rfl,h1,h2⟩:=h.bW;exact aK.cons (by unfold bE;exact h1) (aK.of h2)
theorem aK.to{K:W.Frag}{ρ:P3}:∀{ds:List D} {xs:List V},aK K ρ H (ds.map .d) xs->aC K ρ.b H ds xs
 | [],_,h=>by unfold aK at h;subst h;exact aC.nil
 | d ::ds,xs,h=>by
   obtain⟨x,r,rfl,h1,h2⟩:=aK.bW h;unfold bE at h1;exact aC.cons h1 (aK.to h2)
def isExc(C b:Addr):Heap->Prop:=fun h=>∃o,h.get? b=some o/\o.cls= .ref C
def Ar(K:W.Frag)(cl:P0)(ρ:P3)(H:Hp):SO->Option HO->Prop
 | .lst ds,h=>∃xs,h=some (.lst xs)/\aC K ρ.b H ds xs
 | .dct kvs,h=>∃ys,h=some (.dK ys)/\ys.map (·.1)=kvs.map (·.1)/\aC K ρ.b H (kvs.map (·.2)) (ys.map (·.2))
 | .ins c fs,h=>∃dx ys,h=some (.ins (cl c) dx ys)/\ys.map (·.1)=fs.map (·.1)/\aK K ρ H (fs.map (·.2)) (ys.map (·.2))
 | .ic,h=>∃u,h=some u
 | .exc c,h=>∃b,h=some (.ext (isExc (cl c) b))
theorem Ar.pre{K:W.Frag}{cl:P0}(p:Pre ρ H cD H'){o:SO}{h:Option HO}(r:Ar K cl ρ H o h):Ar K cl cD H' o h:=by
 cases o with
 | lst ds=>obtain⟨xs,e,q⟩:=r;exact⟨xs,e,q.a0 p.a0⟩
 | dct kvs=>obtain⟨ys,e,e2,q⟩:=r;exact⟨ys,e,e2,q.a0 p.a0⟩
 | ins c fs=>obtain⟨dx,ys,e,e2,q⟩:=r;exact⟨dx,ys,e,e2,q.pre p⟩
 | ic=>exact r
 | exc c=>exact r
theorem Ar.pw{K:W.Frag}{cl:P0}(p:PW ρ H cD H'){o:SO}{h:Option HO}(r:Ar K cl ρ H o h):Ar K cl cD H' o h:=by
 cases o with
 | lst ds=>obtain⟨xs,e,q⟩:=r;exact⟨xs,e,q.a0 p.a0⟩
 | dct kvs=>obtain⟨ys,e,e2,q⟩:=r;exact⟨ys,e,e2,q.a0 p.a0⟩
 | ins c fs=>obtain⟨dx,ys,e,e2,q⟩:=r;exact⟨dx,ys,e,e2,q.pw p⟩
 | ic=>exact r
 | exc c=>exact r
theorem Ar.some{K:W.Frag}{cl:P0}{o:SO}{h:Option HO}(r:Ar K cl ρ H o h):∃u,h=some u:=by
 cases o with
 | lst ds=>obtain⟨xs,e,q⟩:=r;exact⟨_,e⟩
 | dct kvs=>obtain⟨ys,e,e2,q⟩:=r;exact⟨_,e⟩
 | ins c fs=>obtain⟨dx,ys,e,e2,q⟩:=r;exact⟨_,e⟩
 | ic=>exact r
 | exc c=>obtain⟨b,e⟩:=r;exact⟨_,e⟩
structure SW (K:W.Frag) (cl:P0) (ρ:P3) (H:Hp) (S:bw):Prop where
 len:ρ.r.length=S.length
 nd:∀(i j:Nat) (a:Addr),ρ.r[i]? =some a->ρ.r[j]? =some a->i=j
 ob:∀(k:Nat) (a:Addr) (o:SO),ρ.r[k]? =some a->S[k]? =some o->Ar K cl ρ H o (H a)
 zb:∀b∈ρ.z,(∃xs,H b=some (.lst xs))/\b ∉ ρ.r
 fz:∀(k:Nat) (a:Addr),ρ.r[k]? =some a->S[k]?≠some .ic->a ∉ ρ.f
 ff:∀a∈ρ.f,∃o,H a=some o
 fi:∀(k:Nat) (a:Addr),ρ.r[k]? =some a->S[k]? =some .ic->a∈ρ.f
theorem SW.rs{K:W.Frag}{cl:P0}{ρ:P3}{H:Hp}{S:bw}(w:SW K cl ρ H S):∀a∈ρ.r,∃o,H a=some o:=fun a z=>by
 obtain⟨k,hk⟩:=List.getElem?_of_mem z;have hl:=(List.getElem?_eq_some_iff.mp hk).1;exact(w.ob k a _ hk (List.getElem?_eq_getElem (by rw[<-w.len];exact hl))).some
theorem SW.bs{K:W.Frag}{cl:P0}{ρ:P3}{H:Hp}{S:bw}(w:SW K cl ρ H S):∀a∈ρ.b,∃o,H a=some o:=fun a ha=>by
 rcases P3.c5.mp ha with z | z
 .exact w.rs a z.1
 .obtain⟨xs,h⟩:=(w.zb a z).1;exact⟨_,h⟩
theorem SW.same{K:W.Frag}{cl:P0}{S:bw}(w:SW K cl ρ H S)(s:aP H H'):SW K cl ρ H' S:=
 ⟨w.len,w.nd,fun k a o h1 h2=>by
   have r:=w.ob k a o h1 h2;obtain⟨u,hu⟩:=r.some;rw[s a u hu,<-hu];exact r.pre (Pre.same s),fun b hb=>let⟨⟨o,ho⟩,n⟩:=w.zb b hb;⟨⟨o,s b _ ho⟩,n⟩,w.fz,fun a ha=>let⟨o,ho⟩:=w.ff a ha;⟨o,s a o ho⟩,w.fi⟩
theorem P3.mem_push{ρ:P3}{a b:Addr}(h:b∈(ρ.push a).b):b∈ρ.b\/b=a:=by
 rcases P3.c5.mp h with⟨z,n⟩ | z
 .rcases List.mem_append.mp z with y | y
  .exact .inl (P3.c5.mpr (.inl ⟨y,n⟩))
  .exact .inr (List.mem_singleton.mp y)
 .exact .inl (P3.c5.mpr (.inr z))
theorem SW.new{K:W.Frag}{cl:P0}{ρ:P3}{H H':Hp}{S:bw}(w:SW K cl ρ H S){a:Addr}{o:SO}(s:aP H H')(n:H a=none)(r:Ar K cl (ρ.push a) H' o (H' a))(DC:o≠SO.ic:=by intro h;cases h) :
 SW K cl (ρ.push a) H' (S++[o])/\Pre ρ H (ρ.push a) H':=by
 have na:a ∉ ρ.b:=fun ha=>by obtain⟨o,ho⟩:=w.bs a ha;rw [n] at ho;cases ho
 have nr:a ∉ ρ.r:=fun ha=>by obtain⟨o,ho⟩:=w.rs a ha;rw [n] at ho;cases ho
 have nf:a ∉ ρ.f:=fun ha=>by obtain⟨o,ho⟩:=w.ff a ha;rw [n] at ho;cases ho
 have p:Pre ρ H (ρ.push a) H':=⟨fun b u e nb=>⟨s b u e,fun hb=>by
  rcases P3.mem_push hb with z | z
  .exact nb z
  .subst z;rw [n] at e;cases e⟩,rfl,fun b o _ h=>s b o h,fun k x hx=>by
   show(ρ.r++[a])[k]? =_;rw[List.getElem?_append_left (List.getElem?_eq_some_iff.mp hx).1];exact hx⟩
 have last:∀(i:Nat) (b:Addr),(ρ.push a).r[i]? =some b->(i < ρ.r.length/\ρ.r[i]? =some b)\/(i=ρ.r.length/\b=a):=fun i b h=>by
  have h:(ρ.r++[a])[i]? =some b:=h;by_cases q:i < ρ.r.length
  .rw [List.getElem?_append_left q] at h;exact .inl ⟨q,h⟩
  .rw [List.getElem?_append_right (by omega)] at h
   have h0:i - ρ.r.length=0:=by
    have:=(List.getElem?_eq_some_iff.mp h).1;simp at this;omega
   rw[h0] at h;cases h;exact .inr ⟨by omega,rfl⟩
 refine⟨⟨by show(ρ.r++[a]).length=_;rw [List.length_append,List.length_append,w.len];rfl,fun i j b hi hj=>?_,fun k b u hk hu=>?_,fun b hb=>?_,fun k b hk hu=>?_,fun b hb=>?_,fun k b hk hu=>?_⟩,p⟩
 .rcases last i b hi with⟨q1,q2⟩ | ⟨q1,rfl⟩
  .rcases last j b hj with⟨z1,z2⟩ | ⟨z1,rfl⟩
   .exact w.nd i j b q2 z2
   .exact absurd (List.mem_of_getElem? q2) nr
  .rcases last j b hj with⟨z1,z2⟩ | ⟨z1,z3⟩
   .exact absurd (List.mem_of_getElem? z2) nr
   .omega
 .rcases last k b hk with⟨q1,q2⟩ | ⟨q1,rfl⟩
  .rw [List.getElem?_append_left (by rw[<-w.len];exact q1)] at hu
   have r0:=w.ob k b u q2 hu;obtain⟨x,hx⟩:=r0.some;rw[s b x hx,<-hx];exact r0.pre p
  .rw [List.getElem?_append_right (by rw[<-w.len];omega),q1,w.len,Nat.sub_self] at hu
   cases hu;exact r
 .obtain⟨⟨o,ho⟩,nb⟩:=w.zb b hb;refine⟨⟨o,s b _ ho⟩,fun h=>?_⟩
  rcases List.mem_append.mp h with y | y
  .exact nb y
  .rw [List.mem_singleton] at y;subst y;rw [n] at ho;cases ho
 .rcases last k b hk with⟨q1,q2⟩ | ⟨q1,rfl⟩
  .rw [List.getElem?_append_left (by rw[<-w.len];exact q1)] at hu
   exact w.fz k b q2 hu
  .exact nf
 .obtain⟨o,ho⟩:=w.ff b hb;exact⟨o,s b o ho⟩
 .rcases last k b hk with⟨q1,q2⟩ | ⟨q1,rfl⟩
  .rw [List.getElem?_append_left (by rw[<-w.len];exact q1)] at hu
   exact w.fi k b q2 hu
  .rw [List.getElem?_append_right (by rw[<-w.len];omega),q1,w.len,Nat.sub_self] at hu
   cases hu;exact absurd rfl DC
theorem SW.put{K:W.Frag}{cl:P0}{ρ:P3}{S:bw}(w:SW K cl ρ H S){k:Nat}{a:Addr}{o:SO}{u:HO}(hk:ρ.r[k]? =some a)(hf:a ∉ ρ.f)(r:Ar K cl ρ H o (some u))(DC:o≠SO.ic:=by intro h;cases h) :
 SW K cl ρ (upd H a u) (S.set k o)/\Pre ρ H ρ (upd H a u):=by
 have ha:a∈ρ.r:=List.mem_of_getElem? hk;have hb:a∈ρ.b:=P3.c5.mpr (.inl ⟨ha,hf⟩);have nz:∀b∈ρ.z,b≠a:=fun b hb z=>(w.zb b hb).2 (by rw[z];exact ha)
 have p:Pre ρ H ρ (upd H a u):=⟨fun b x e nb=>⟨by rw[ba (fun(z:b=a)=>nb (by rw[z];exact hb))];exact e,nb⟩,rfl,fun b o hb h=>by rw[ba (nz b hb)];exact h,fun _ _ h=>h⟩
 have hl:k < S.length:=by rw[<-w.len];exact(List.getElem?_eq_some_iff.mp hk).1
 refine⟨⟨by rw[List.length_set];exact w.len,w.nd,fun j b x hj hx=>?_,fun b hb=>?_,fun j b hj hx=>?_,fun b hb=>?_,fun j b hj hx=>?_⟩,p⟩
 .by_cases q:k=j
  .subst q;rw[hk] at hj;cases hj;rw[List.getElem?_set_self hl] at hx;cases hx;rw[aV];exact r.pre p
  .rw [List.getElem?_set_ne q] at hx;have ne:b≠a:=fun z=>by subst z;exact q (w.nd k j b hk hj)
   rw[ba ne];exact(w.ob j b x hj hx).pre p
 .obtain⟨⟨o,ho⟩,nb⟩:=w.zb b hb;exact⟨⟨o,by rw[ba (nz b hb)];exact ho⟩,nb⟩
 .by_cases q:k=j
  .subst q;rw[hk] at hj;cases hj;exact hf
  .rw [List.getElem?_set_ne q] at hx;exact w.fz j b hj hx
 .obtain⟨o,ho⟩:=w.ff b hb;exact⟨o,by rw[ba (fun z=>hf (by rw[<-z];exact hb))];exact ho⟩
 .by_cases q:k=j
  .subst q;rw[List.getElem?_set_self hl] at hx;cases hx;exact absurd rfl DC
  .rw [List.getElem?_set_ne q] at hx;exact w.fi j b hj hx
theorem SW.ic{K:W.Frag}{cl:P0}{ρ:P3}{S:bw}(w:SW K cl ρ H S){k:Nat}{a:Addr}{ds:List D}(hk:ρ.r[k]? =some a)(hS:S[k]? =some (.lst ds)) :
 SW K cl ⟨ρ.r,ρ.z,a ::ρ.f⟩ H (S.set k .ic)/\Pre ρ H ⟨ρ.r,ρ.z,a ::ρ.f⟩ H/\Rep K (⟨ρ.r,ρ.z,a ::ρ.f⟩:P3).b H (.lst ds) (.ref a):=by
 have hl:k < S.length:=by rw[<-w.len];exact(List.getElem?_eq_some_iff.mp hk).1
 have sub:∀b,b∈(⟨ρ.r,ρ.z,a ::ρ.f⟩:P3).b->b∈ρ.b:=fun b hb=>by
  rcases P3.c5.mp hb with⟨z,n⟩ | z
  .exact P3.c5.mpr (.inl ⟨z,fun h=>n (List.mem_cons_of_mem _ h)⟩)
  .exact P3.c5.mpr (.inr z)
 have p:Pre ρ H ⟨ρ.r,ρ.z,a ::ρ.f⟩ H:=⟨fun b o e nb=>⟨e,fun hb=>nb (sub b hb)⟩,rfl,fun _ _ _ h=>h,fun _ _ h=>h⟩
 obtain⟨xs,e1,r1⟩:=w.ob k a _ hk hS;refine⟨⟨by rw[List.length_set];exact w.len,w.nd,fun j b x hj hx=>?_,w.zb,fun j b hj hx=>?_,fun b hb=>?_,fun j b hj hx=>?_⟩,p,?_⟩
 .by_cases q:k=j
  .subst q;rw[List.getElem?_set_self hl] at hx;cases hx;rw[hk] at hj;cases hj;exact⟨_,e1⟩
  .rw [List.getElem?_set_ne q] at hx;exact(w.ob j b x hj hx).pre p
 .by_cases q:k=j
  .subst q;rw[List.getElem?_set_self hl] at hx;exact absurd rfl hx
  .rw [List.getElem?_set_ne q] at hx;intro h;rcases List.mem_cons.mp h with z | z
   .subst z;exact q (w.nd k j b hk hj)
   .exact w.fz j b hj hx z
 .rcases List.mem_cons.mp hb with z | z
  .subst z;exact⟨_,e1⟩
  .exact w.ff b z
 .by_cases q:k=j
  .subst q;rw[hk] at hj;cases hj;exact List.mem_cons_self
  .rw [List.getElem?_set_ne q] at hx;exact List.mem_cons_of_mem _ (w.fi j b hj hx)
 .refine Rep.lst.mpr ⟨a,xs,rfl, .inl ⟨fun hb=>?_, .inl e1⟩,r1.a0 p.a0⟩
  rcases P3.c5.mp hb with⟨_,n⟩ | z
  .exact n List.mem_cons_self
  .exact(w.zb a z).2 (List.mem_of_getElem? hk)
mutual
def pN:D->Bool
 | .lst _=>false
 | .dct _ _=>false
 | .tup ds=>mZ ds
 | _=>true
def mZ:List D->Bool
 | []=>true
 | d ::ds=>pN d && mZ ds
end
mutual
theorem Rep.tE{K:W.Frag}{B:List Addr}(hB:∀b∈B,∀xs,¬Rd H b (.tup xs)):∀{d:D} {v:V},pN d=true->Rep K [] H d v->Rep K B H d v
 | .cL,v,_,r=>Rep.cL.mpr (Rep.cL.mp r)
 | .bl _,v,_,r=>Rep.bl.mpr (Rep.bl.mp r)
 | .int _,v,_,r=>Rep.int.mpr (Rep.int.mp r)
 | .str _,v,_,r=>Rep.str.mpr (Rep.str.mp r)
 | .lst _,v,h,_=>by unfold pN at h;cases h
 | .dct _ _,v,h,_=>by unfold pN at h;cases h
 | .tup ds,v,h,r=>by
   unfold pN at h;obtain⟨a,xs,rfl,l,rs⟩:=Rep.tup.mp r;exact Rep.tup.mpr ⟨a,xs,rfl,l.elim (fun z=> .inl ⟨fun hb=>hB a hb xs z.2,z.2⟩) .inr,aC.tE hB h rs⟩
theorem aC.tE{K:W.Frag}{B:List Addr}(hB:∀b∈B,∀xs,¬Rd H b (.tup xs)):∀{ds:List D} {vs:List V},mZ ds=true->aC K [] H ds vs->aC K B H ds vs
 | [],_,_,r=>by unfold aC at r;subst r;exact aC.nil
 | d ::ds,vs,h,r=>by
   unfold mZ at h;obtain⟨h1,h2⟩:=Bool.and_eq_true_iff.mp h;obtain⟨x,xs,rfl,r1,r2⟩:=r.bW;exact aC.cons (Rep.tE hB h1 r1) (aC.tE hB h2 r2)
end
theorem SW.nt{K:W.Frag}{cl:P0}{ρ:P3}{S:bw}(w:SW K cl ρ H S):∀b∈ρ.b,∀xs,¬Rd H b (.tup xs):=fun b hb xs h=>by
 have key:∀o,H b=some o->(∀xs,o≠ .tup xs)->(∀ob xs,o≠ .ic ob (.tup xs))->False:=fun o e h1 h2=>by
  rcases h with z | ⟨ob,z⟩
  .rw [e] at z;cases z;exact h1 _ rfl
  .rw [e] at z;cases z;exact h2 _ _ rfl
 rcases P3.c5.mp hb with⟨z,n⟩ | z
 .obtain⟨k,hk⟩:=List.getElem?_of_mem z;have hl:=(List.getElem?_eq_some_iff.mp hk).1;have hS:S[k]? =some (S[k]'(by rw[<-w.len];exact hl)):=List.getElem?_eq_getElem (by rw[<-w.len];exact hl)
  have r:=w.ob k b _ hk hS;generalize S[k]'(by rw[<-w.len];exact hl)=o at r hS
  cases o with
  | lst ds=>obtain⟨ys,e,_⟩:=r;exact key _ e (fun _ q=>by cases q) (fun _ _ q=>by cases q)
  | dct kvs=>obtain⟨ys,e,_⟩:=r;exact key _ e (fun _ q=>by cases q) (fun _ _ q=>by cases q)
  | ins c fs=>obtain⟨dx,ys,e,_⟩:=r;exact key _ e (fun _ q=>by cases q) (fun _ _ q=>by cases q)
  | ic=>exact n (w.fi k b hk hS)
  | exc c=>obtain⟨b',e⟩:=r;exact key _ e (fun _ q=>by cases q) (fun _ _ q=>by cases q)
 .obtain⟨⟨ys,e⟩,_⟩:=w.zb b z;exact key _ e (fun _ q=>by cases q) (fun _ _ q=>by cases q)
abbrev DE:=List (Option V3)
structure eG (K:W.Frag) (cl:P0) (ρ:P3) (H:Hp) (S:bw) (σ:L2.St) (δ:DE):Prop where
 len:δ.length=σ.length
 sw:SW K cl ρ H S
 val:∀(i:Nat) (d:V3),δ[i]? =some (some d)->∃v,σ[i]? =some (some v)/\bE K ρ H d v
theorem eG.to{K:W.Frag}{cl:P0}{S S':bw}{σ:L2.St}{δ:DE}(E:eG K cl ρ H S σ δ)(p:Pre ρ H cD H')(w:SW K cl cD H' S'):eG K cl cD H' S' σ δ:=
 ⟨E.len,w,fun i d e=>let⟨v,h1,h2⟩:=E.val i d e;⟨v,h1,h2.pre p⟩⟩
theorem eG.set{K:W.Frag}{cl:P0}{S:bw}{σ:L2.St}{δ:DE}(E:eG K cl ρ H S σ δ){i:Nat}{d:V3}{v:V}(hi:i < σ.length)(r:bE K ρ H d v):eG K cl ρ H S (σ.set i (some v)) (δ.set i (some d)):=
 ⟨by rw[List.length_set,List.length_set];exact E.len,E.sw,fun j d' e=>by
   by_cases h:i=j
   .subst h;rw[List.getElem?_set_self (by rw[E.len];exact hi)] at e
    cases e;exact⟨v,List.getElem?_set_self hi,r⟩
   .rw [List.getElem?_set_ne h] at e ⊢;exact E.val j d' e⟩
def down(δ:DE):av:=δ.map fun x=>match x with | some (.d d)=> .val d | _=> .un
theorem eG.down{K:W.Frag}{cl:P0}{ρ:P3}{S:bw}{σ:L2.St}{δ:DE}(E:eG K cl ρ H S σ δ):dh K [] ρ.b H σ (down δ) where
 len:=by unfold L3.down;rw [List.length_map];exact E.len
 bs:=E.sw.bs
 zb:=fun a ha=>by cases ha
 val:=fun i d e=>by
  unfold L3.down at e;rw[List.getElem?_map] at e;cases q:δ[i]? with
  | none=>rw [q] at e;cases e
  | some x=>
    rw[q] at e
    match x,e,q with
    | some (.d y),e,q=>
      cases e;obtain⟨v,h1,h2⟩:=E.val i _ q;unfold bE at h2;exact⟨v,h1,h2⟩
    | some (.loc k),e,q=>cases e
    | some (.lst k),e,q=>cases e
    | some (.tup k),e,q=>cases e
    | none,e,q=>cases e
 bld:=fun i ds e=>by
  unfold L3.down at e;rw[List.getElem?_map] at e;cases q:δ[i]? with
  | none=>rw [q] at e;cases e
  | some x=>
    rw[q] at e
    match x,e with
    | some (.d y),e=>cases e
    | some (.loc k),e=>cases e
    | some (.lst k),e=>cases e
    | some (.tup k),e=>cases e
    | none,e=>cases e
 dis:=fun i j a ds es e=>by
  unfold L3.down at e;rw[List.getElem?_map] at e;cases q:δ[i]? with
  | none=>rw [q] at e;cases e
  | some x=>
    rw[q] at e
    match x,e with
    | some (.d y),e=>cases e
    | some (.loc k),e=>cases e
    | some (.lst k),e=>cases e
    | some (.tup k),e=>cases e
    | none,e=>cases e
mutual
def res(S:bw):V3->Option D
 | .d x=>some x
 | .loc k=>(match S[k]? with | some (.lst ds)=>some (.lst ds) | some (.dct kvs)=>some (.dct (kvs.map (·.1)) (kvs.map (·.2))) | _=>none)
 | .lst vs=>(ux S vs).map D.lst
 | .tup vs=>(ux S vs).map D.tup
 | .fn _=>none
def ux(S:bw):List V3->Option (List D)
 | []=>some []
 | v ::vs=>(res S v).bind fun d=>(ux S vs).map (d ::·)
end
def c0(S:bw)(δ:DE):av:=δ.map fun x=>match x with | some v=>(match res S v with | some d=> .val d | none=> .un) | none=> .un
theorem eQ{α β:Type}{o:Option α}{f:α->β}{b:β}(h:o.map f=some b):∃a,o=some a/\f a=b:=by
 cases o with
 | none=>cases h
 | some a=>cases h;exact⟨a,rfl,rfl⟩
theorem lp{α β:Type}{o:Option α}{f:α->Option β}{b:β}(h:o.bind f=some b):∃a,o=some a/\f a=some b:=by
 cases o with
 | none=>cases h
 | some a=>exact⟨a,rfl,h⟩
mutual
def jS(n:Nat):V3->Bool
 | .d _=>true
 | .loc k=>decide (n<=k)
 | .lst vs=>mU n vs
 | .tup vs=>mU n vs
 | .fn _=>true
def mU(n:Nat):List V3->Bool
 | []=>true
 | v ::vs=>jS n v && mU n vs
end
mutual
theorem bE.resB{K:W.Frag}{cl:P0}{ρ:P3}{S:bw}{B':List Addr}{n:Nat}(w:SW K cl ρ H S)(p:cZ ρ.b H B' H)(hn:∀(k:Nat) (a:Addr),n<=k->ρ.r[k]? =some a->a ∉ B'):∀{v:V3} {d:D} {x:V},jS n v=true->res S v=some d->bE K ρ H v x->Rep K B' H d x
 | .d y,d,x,_,h,r=>by unfold L3.res at h;cases h;unfold bE at r;exact r.a0 p
 | .fn y,d,x,_,h,r=>by unfold L3.res at h;cases h
 | .loc k,d,x,g,h,r=>by
   unfold L3.res at h;unfold bE at r;unfold jS at g;obtain⟨a,h1,rfl⟩:=r;split at h
   .rename_i ds e;cases h;obtain⟨xs,e2,q⟩:=w.ob k a _ h1 e;unfold Rep;exact⟨a,xs,rfl, .inl ⟨hn k a (of_decide_eq_true g) h1, .inl e2⟩,q.a0 p⟩
   .rename_i kvs e;cases h;obtain⟨ys,e2,e3,q⟩:=w.ob k a _ h1 e;unfold Rep;exact⟨a,ys,rfl,⟨hn k a (of_decide_eq_true g) h1,e2⟩,e3,q.a0 p⟩
   .cases h
 | .lst vs,d,x,g,h,r=>by
   unfold L3.res at h;unfold jS at g;obtain⟨ds,e,rfl⟩:=eQ h;unfold bE at r;obtain⟨a,xs,rfl,l,r⟩:=r;unfold Rep;exact⟨a,xs,rfl,l.a0 p,aK.resB w p hn g e r⟩
 | .tup vs,d,x,g,h,r=>by
   unfold L3.res at h;unfold jS at g;obtain⟨ds,e,rfl⟩:=eQ h;unfold bE at r;obtain⟨a,xs,rfl,l,r⟩:=r;unfold Rep;exact⟨a,xs,rfl,uj.a0 p l,aK.resB w p hn g e r⟩
theorem aK.resB{K:W.Frag}{cl:P0}{ρ:P3}{S:bw}{B':List Addr}{n:Nat}(w:SW K cl ρ H S)(p:cZ ρ.b H B' H)(hn:∀(k:Nat) (a:Addr),n<=k->ρ.r[k]? =some a->a ∉ B'):∀{vs:List V3} {ds:List D} {xs:List V},mU n vs=true->ux S vs=some ds->aK K ρ H vs xs->aC K B' H ds xs
 | [],ds,xs,_,h,r=>by unfold ux at h;cases h;unfold aK at r;subst r;exact aC.nil
 | v ::vs,ds,xs,g,h,r=>by
   unfold ux at h;unfold mU at g;obtain⟨g1,g2⟩:=Bool.and_eq_true_iff.mp g;obtain⟨d,e1,h2⟩:=lp h;obtain⟨es,e2,rfl⟩:=eQ h2;obtain⟨y,ys,rfl,r1,r2⟩:=r.bW;exact aC.cons (bE.resB w p hn g1 e1 r1) (aK.resB w p hn g2 e2 r2)
end
mutual
theorem qy:∀v:V3,jS 0 v=true
 | .d _=>by unfold jS;rfl
 | .loc k=>by unfold jS;exact decide_eq_true (Nat.zero_le _)
 | .lst vs=>by unfold jS;exact lx vs
 | .tup vs=>by unfold jS;exact lx vs
 | .fn _=>by unfold jS;rfl
theorem lx:∀vs:List V3,mU 0 vs=true
 | []=>by unfold mU;rfl
 | v ::vs=>by unfold mU;rw [qy v,lx vs];rfl
end
theorem bE.res{K:W.Frag}{cl:P0}{S:bw}(w:SW K cl ρ H S){v:V3}{d:D}{x:V}(h:res S v=some d)(r:bE K ρ H v x):Rep K [] H d x:=
 r.resB w (fun b o e _=>⟨e,by simp⟩) (n:=0) (fun _ _ _ _=>by simp) (qy v) h
theorem mj{S:bw}{δ:DE}{i:Nat}{y:Sl}(e:(c0 S δ)[i]? =some y):(∃v d,δ[i]? =some (some v)/\res S v=some d/\y= .val d)\/y= .un:=by
 unfold c0 at e;rw[List.getElem?_map] at e;cases q:δ[i]? with
 | none=>rw [q] at e;cases e
 | some x=>
   rw[q] at e;cases x with
   | none=>cases e;exact .inr rfl
   | some v=>
     cases z:res S v with
     | none=>
       have e:some (match res S v with | some d=>Sl.val d | none=> .un)=some y:=e
       rw[z] at e;cases e;exact .inr rfl
     | some d=>
       have e:some (match res S v with | some d=>Sl.val d | none=> .un)=some y:=e
       rw[z] at e;cases e;exact .inl ⟨v,d,rfl,z,rfl⟩
theorem eG.c0{K:W.Frag}{cl:P0}{S:bw}{σ:L2.St}{δ:DE}(E:eG K cl ρ H S σ δ):dh K [] [] H σ (c0 S δ) where
 len:=by unfold L3.c0;rw [List.length_map];exact E.len
 bs:=fun a ha=>by cases ha
 zb:=fun a ha=>by cases ha
 val:=fun i d e=>by
  rcases mj e with⟨v,d',h1,h2,h3⟩ | h
  .cases h3;obtain⟨x,q1,q2⟩:=E.val i v h1;exact⟨x,q1,q2.res E.sw h2⟩
  .cases h
 bld:=fun i ds e=>by
  rcases mj e with⟨v,d',h1,h2,h3⟩ | h
  .cases h3
  .cases h
 dis:=fun i j a ds es e=>by
  rcases mj e with⟨v,d',h1,h2,h3⟩ | h
  .cases h3
  .cases h
abbrev FX:=DE->bw->R3 V3
abbrev FB:=DE->bw->R3 Bool
abbrev FA:=DE->bw->R3 (List V3)
def tX(K:W.Frag)(cl:P0)(f:FX):TE:=fun σ H Q=>∃ρ S δ v S',eG K cl ρ H S σ δ/\f δ S= .ok v S'/\∀u cD H',Pre ρ H cD H'->SW K cl cD H' S'->bE K cD H' v u->Q u H'
def Fo(K:W.Frag)(cl:P0)(f:FB):TT:=fun σ H Q=>∃ρ S δ b S',eG K cl ρ H S σ δ/\f δ S= .ok b S'/\∀cD H',Pre ρ H cD H'->SW K cl cD H' S'->Q b H'
def ND(K:W.Frag)(cl:P0)(f:FA):TA:=fun σ H Q=>∃ρ S δ vs S',eG K cl ρ H S σ δ/\f δ S= .ok vs S'/\∀us cD H',Pre ρ H cD H'->SW K cl cD H' S'->aK K cD H' vs us->Q us H'
structure PX (X:Cx) (cl:P0) (e:Expr) (f:FX):Prop where
 go:PE X e (tX X.K cl f)
structure GR (X:Cx) (cl:P0) (e:Expr) (f:FB):Prop where
 go:PT X e (Fo X.K cl f)
structure Iv (X:Cx) (cl:P0) (es:List Expr) (f:FA):Prop where
 go:PA X es (ND X.K cl f)
section
variable {X:Cx} {cl:P0}
def xP(f:FD):FX:=fun δ S=>(R3.of (f (down δ)) S).bind fun d S=> .ok (.d d) S
theorem ak(h:QD X e f):PX X cl e (xP f):=⟨h.1.imp fun σ H Q ⟨ρ,S,δ,v,S',E,hf,q⟩=>by
 obtain⟨d,S1,h1,h2⟩:=R3.ao hf;obtain⟨h3,e3⟩:=R3.of_ok h1;cases h2;subst e3;exact⟨[],ρ.b,down δ,d,E.down,h3,fun v H' s r=>q v ρ H' (Pre.same s) (E.sw.same s) (by unfold bE;exact r)⟩⟩
def xT(f:FD):FX:=fun δ S=>(R3.of (f (c0 S δ)) S).bind fun d S=>R3.a_ (pN d) (.ok (.d d) S)
theorem nJ(h:QD X e f):PX X cl e (xT f):=⟨h.1.imp fun σ H Q ⟨ρ,S,δ,v,S',E,hf,q⟩=>by
 obtain⟨d,S1,h1,h2⟩:=R3.ao hf;obtain⟨h4,e3⟩:=R3.of_ok h1;obtain⟨ha,h3⟩:=R3.bj h2;cases h3;subst e3;exact⟨[],[],c0 _ δ,d,E.c0,h4,fun v H' s r=>q v ρ H' (Pre.same s) (E.sw.same s) (by unfold bE;exact Rep.tE (E.sw.same s).nt ha r)⟩⟩
def bP(f:av->R Bool):FB:=fun δ S=>R3.of (f (down δ)) S
theorem iM{f:av->R Bool}(h:QB X e f):GR X cl e (bP f):=⟨h.1.imp fun σ H Q ⟨ρ,S,δ,v,S',E,hf,q⟩=>by
 obtain⟨h1,e3⟩:=R3.of_ok hf;subst e3;exact⟨[],ρ.b,down δ,v,E.down,h1,fun H' s=>q ρ H' (Pre.same s) (E.sw.same s)⟩⟩
def bT(f:av->R Bool):FB:=fun δ S=>R3.of (f (c0 S δ)) S
theorem tf{f:av->R Bool}(h:QB X e f):GR X cl e (bT f):=⟨h.1.imp fun σ H Q ⟨ρ,S,δ,v,S',E,hf,q⟩=>by
 obtain⟨h1,e3⟩:=R3.of_ok hf;subst e3;exact⟨[],[],c0 _ δ,v,E.c0,h1,fun H' s=>q ρ H' (Pre.same s) (E.sw.same s)⟩⟩
def rX(i:Nat):FX:=fun δ S=>match δ[i]? with | some (some v)=> .ok v S | _=> .no
theorem nU(i:Nat){x:Str}{pos:Pos}(hN:X.N[i]? =some x:=by rfl)(hv:Cq X.env.scope x:=by first | exact Or.inl rfl | exact Or.inr (Or.inl rfl) | exact Or.inr (Or.inr rfl))(hd:(x==("__debug__":Str))=false:=by decide)
 (pE:(x==("__classdict__":Str))=false:=by decide):PX X cl (.Name x pos) (rX i):=⟨(oi hN hv hd pE).imp fun σ H Q ⟨ρ,S,δ,v,S',E,hf,q⟩=>by
 unfold rX at hf;split at hf
 .rename_i d' e;cases hf;obtain⟨u,h1,h2⟩:=E.val i _ e;exact⟨u,h1,q u ρ H (Pre.refl ρ H) E.sw h2⟩
 .cases hf⟩
def tJ(f:av->R (List D)):FX:=fun δ S=>(R3.of (f (down δ)) S).bind fun ds S=> .ok (.loc S.length) (S++[.lst ds])
theorem mG{f:av->R (List D)}(h:QN X e f):PX X cl e (tJ f):=⟨h.1.imp fun σ H Q ⟨ρ,S,δ,v,S',E,hf,q⟩=>by
 obtain⟨ds,S1,h1,h2⟩:=R3.ao hf;obtain⟨h3,e3⟩:=R3.of_ok h1;cases h2;subst e3;refine⟨[],ρ.b,down δ,ds,E.down,h3,fun a xs H' s n e r=>?_⟩
 have r':aC X.K (ρ.push a).b H' ds xs:=r.a0 fun b o e nb=>⟨e,fun hb=>nb (by
  rcases P3.mem_push hb with z | z
  .exact List.mem_cons_of_mem _ z
  .subst z;exact List.mem_cons_self)⟩
 obtain⟨w,p⟩:=E.sw.new (o:= .lst ds) s n ⟨xs,e,r'⟩;exact q _ _ H' p w (by unfold bE;exact⟨a,by show(ρ.r++[a])[_]? =_;rw [<-E.sw.len,List.getElem?_append_right (by omega),Nat.sub_self];rfl,rfl⟩)⟩
end
end L3
end
section
namespace L3
open PySem PySem.Spec PyProof.Rows L2
section
variable {X:Cx} {cl:P0}
def jg:FA:=fun _ S=> .ok [] S
def bB(f:FX)(g:FA):FA:=fun δ S=>(f δ S).bind fun v S1=>(g δ S1).bind fun vs S2=> .ok (v ::vs) S2
theorem dz:Iv X cl [] jg:=⟨gO.imp fun σ H Q ⟨ρ,S,δ,v,S',E,hf,q⟩=>by
 cases hf;exact q [] ρ H (Pre.refl ρ H) E.sw aK.nil⟩
theorem aH(h:PX X cl e f)(t:Iv X cl es g)(hs:starEach (e ::es) X.env=(false,eval e X.env) ::starEach es X.env:=by rfl):Iv X cl (e ::es) (bB f g):=
 ⟨(et h.1 t.1 hs).imp fun σ H Q ⟨ρ,S,δ,v,S',E,hf,q⟩=>by
   obtain⟨v1,S1,h1,h2⟩:=R3.ao hf;obtain⟨vs,S2,h3,h4⟩:=R3.ao h2;cases h4;exact⟨ρ,S,δ,v1,S1,E,h1,fun u dN H1 p1 w1 r1=>⟨dN,S1,δ,vs,_,E.to p1 w1,h3,fun us AK H2 p2 w2 r2=>q _ AK H2 (p1.trans p2) w2 (aK.cons (r1.pre p2) r2)⟩⟩⟩
def ny:List V3->Option (List D)
 | []=>some []
 | .d x ::r=>(ny r).map (x ::·)
 | _ ::_=>none
theorem qB:∀{vs:List V3} {ds:List D},ny vs=some ds->vs=ds.map .d
 | [],ds,h=>by cases h;rfl
 | .d x ::r,ds,h=>by
   cases e:ny r with
   | none=>have h:(ny r).map (x ::·)=some ds:=h;rw [e] at h;cases h
   | some es=>
     have h:(ny r).map (x ::·)=some ds:=h
     rw[e] at h;cases h;rw[qB e];rfl
 | .loc _ ::_,_,h=>by cases h
 | .lst _ ::_,_,h=>by cases h
 | .tup _ ::_,_,h=>by cases h
 | .fn _ ::_,_,h=>by cases h
theorem tO:∀ds:List D,ny (ds.map .d)=some ds
 | []=>rfl
 | d ::ds=>by show(ny (ds.map .d)).map (d ::·)=_;rw [tO ds];rfl
def GB(vs:List V3):V3:=match ny vs with | some ds=> .d (.tup ds) | none=> .tup vs
def qd(vs:List V3):V3:=match ny vs with | some ds=> .d (.lst ds) | none=> .lst vs
def M7(g:FA):FX:=fun δ S=>(g δ S).bind fun vs S=>R3.a_ (decide (vs.length<=sizeLine)) (.ok (GB vs) S)
theorem xq{K:W.Frag}{ρ:P3}{vs:List V3}{xs:List V}{a:Addr}(l:se K ρ.b H a xs)(r:aK K ρ H vs xs):bE K ρ H (qd vs) (.ref a):=by
 unfold qd;split
 .rename_i ds e;rw[qB e] at r;unfold bE Rep;exact⟨a,xs,rfl,l,r.to⟩
 .unfold bE;exact⟨a,xs,rfl,l,r⟩
def Mt(g:FA):FX:=fun δ S=>(g δ S).bind fun vs S=>R3.a_ (decide (vs.length<=sizeLine)) (.ok (qd vs) S)
def x2(g:D->D->R D)(fa fb:FX):FX:=fun δ S=>(fa δ S).bind fun a S1=>(fb δ S1).bind fun b S2=>match a,b with
 | .d x, .d y=>(R3.of (g x y) S2).bind fun d S=> .ok (.d d) S
 | _,_=> .no
theorem Kk{K:W.Frag}{g:D->D->R D}{σ:L2.St}{Q:VK}(h:tX K cl (x2 g fa fb) σ H Q) :
 Ge (fun x y H Q=>∃B da db d,(∀a∈B,∃o,H a=some o)/\Rep K B H da x/\Rep K B H db y/\g da db= .ok d/\∀z H',aP H H'->Rep K B H' d z->Q z H') (tX K cl fa) (tX K cl fb) σ H Q:=by
 obtain⟨ρ,S,δ,v,S',E,hf,q⟩:=h;obtain⟨a,S1,h1,h2⟩:=R3.ao hf;obtain⟨b,S2,h3,h4⟩:=R3.ao h2
 match a,b,h1,h3,h4 with
 | .d x, .d y,h1,h3,h4=>
   obtain⟨d,S3,h5,h6⟩:=R3.ao h4;obtain⟨h7,e⟩:=R3.of_ok h5;cases h6;subst e;refine⟨ρ,S,δ, .d x,S1,E,h1,fun u1 dN H1 p1 w1 r1=>⟨dN,S1,δ, .d y,_,E.to p1 w1,h3,fun u2 AK H2 p2 w2 r2=>?_⟩⟩
   have vo:=r1.pre p2;unfold bE at vo r2;exact⟨AK.b,x,y,d,w2.bs,vo,r2,h7,fun z H' s r=>q z AK H' (p1.trans (p2.trans (Pre.same s))) (w2.same s) (by unfold bE;exact r)⟩
 | .d x, .loc _,_,_,h4=>cases h4
 | .d x, .lst _,_,_,h4=>cases h4
 | .d x, .tup _,_,_,h4=>cases h4
 | .d x, .fn _,_,_,h4=>cases h4
 | .loc _,_,_,_,h4=>cases h4
 | .lst _,_,_,_,h4=>cases h4
 | .tup _,_,_,_,h4=>cases h4
 | .fn _,_,_,_,h4=>cases h4
def I_(g:D->D->R D)(fa fb:FX):FB:=fun δ S=>(x2 g fa fb δ S).bind fun v S=>match v with | .d (.bl b)=> .ok b S | _=> .no
theorem BR{op:CmpOp}{g:D->D->R D}(ho:jR X (compareOp op) g)(ha:PX X cl a fa)(hb:PX X cl b fb)(hm:behindInMarks op b=false):GR X cl (.Compare a [op] [b] pos) (I_ g fa fb):=
 ⟨(vG ho.r ha.1 hb.1 hm).imp fun σ H Q ⟨ρ,S,δ,b,S',E,hf,q⟩=>by
   obtain⟨v,S1,h1,h2⟩:=R3.ao hf;have hv:v= .d (.bl b)/\S1=S':=by
    match v,h2 with
    | .d (.bl k),h2=>cases h2;exact⟨rfl,rfl⟩
    | .d .cL,h2=>cases h2
    | .d (.int _),h2=>cases h2
    | .d (.str _),h2=>cases h2
    | .d (.lst _),h2=>cases h2
    | .d (.tup _),h2=>cases h2
    | .d (.dct _ _),h2=>cases h2
    | .loc _,h2=>cases h2
    | .lst _,h2=>cases h2
    | .tup _,h2=>cases h2
    | .fn _,h2=>cases h2
   obtain⟨rfl,rfl⟩:=hv;exact Kk (g:=g) (Q:=fun x H'=>∃k,x= .bl k/\Q k H') ⟨ρ,S,δ,_,_,E,h1,fun u cD H' p w r=>⟨b,by unfold bE Rep at r;exact r,q cD H' p w⟩⟩⟩
inductive Ou where
 | nx (δ:DE) | rt (v:V3)
abbrev FZ:=DE->bw->R3 Ou
def Bc(K:W.Frag)(cl:P0)(ρ:P3)(H:Hp)(D:Ends)(S':bw):Ou->Prop
 | .nx du=>∀cN cD H',Pre ρ H cD H'->eG K cl cD H' S' cN du->D.nx cN H'
 | .rt v=>∀u cD H',Pre ρ H cD H'->SW K cl cD H' S'->bE K cD H' v u->D.rt u H'
theorem Bc.pre{K:W.Frag}{D:Ends}{S':bw}{o:Ou}(q:Bc K cl ρ H D S' o)(p:Pre ρ H dN H1):Bc K cl dN H1 D S' o:=by
 cases o with
 | nx du=>exact fun cN cD H' p' E'=>q cN cD H' (p.trans p') E'
 | rt d=>exact fun v cD H' p' w r=>q v cD H' (p.trans p') w r
def sX(K:W.Frag)(cl:P0)(F:FZ):TS:=fun D σ H=>∃ρ S δ o S',eG K cl ρ H S σ δ/\F δ S= .ok o S'/\Bc K cl ρ H D S' o
structure PZ (X:Cx) (cl:P0) (st:Stmt) (F:FZ):Prop where
 go:PS X st (sX X.K cl F)
structure za (X:Cx) (cl:P0) (st:List Stmt) (F:FZ):Prop where
 go:sf X st (sX X.K cl F)
def uG:FZ:=fun δ S=> .ok (.nx δ) S
def bC(F G:FZ):FZ:=fun δ S=>(F δ S).bind fun o S1=>match o with | .nx du=>G du S1 | .rt d=> .ok (.rt d) S1
theorem lQ:za X cl [] uG:=⟨vT.imp fun D σ H ⟨ρ,S,δ,o,S',E,hf,q⟩=>by
 cases hf;exact q σ ρ H (Pre.refl ρ H) E⟩
theorem aw{st:Stmt}{rest:List Stmt}(h1:PZ X cl st F)(h2:za X cl rest G):za X cl (st ::rest) (bC F G):=⟨(sH h1.1 h2.1).imp fun D σ H ⟨ρ,S,δ,o,S',E,hf,q⟩=>by
 obtain⟨o1,S1,h1,h2⟩:=R3.ao hf;refine⟨ρ,S,δ,o1,S1,E,h1,?_⟩;cases o1 with
 | nx δ1=>
   intro Ir dN H1 p1 E1;exact⟨dN,S1,δ1,o,S',E1,h2,q.pre p1⟩
 | rt d=>
   cases h2;exact q⟩
theorem bq{st:Stmt}(h1:PZ X cl st F):za X cl [st] F:=⟨wa h1.1⟩
def bS(i:Nat)(f:FX):FZ:=fun δ S=>(f δ S).bind fun v S=>R3.a_ (decide (i < δ.length)) (.ok (.nx (δ.set i (some v))) S)
theorem aZ{i:Nat}{pos pos':Pos}(hN:X.N.Nodup)(hi:X.N[i]? =some x)(hx:Loc X.env.scope x)(he:PX X cl e f)(hs:swapsWith e (some (.Name x pos')) pos.line X.env=pure false:=by rfl)(hf:X.fn x=true\/X.env.scope.names.lookup x=some .local:=by first | exact .inl rfl | exact .inr rfl | assumption) :
 PZ X cl (.Assign [.Name x pos'] e pos) (bS i f):=⟨(uU hN hi hx he.1 hs hf).imp fun D σ H ⟨ρ,S,δ,o,S',E,hf,q⟩=>by
 obtain⟨v,S1,h1,h2⟩:=R3.ao hf;obtain⟨hi,h3⟩:=R3.bj h2;cases h3;refine⟨ρ,S,δ,v,_,E,h1,fun u dN H1 p1 w1 r1=>?_⟩
 exact q _ dN H1 p1 ((E.to p1 w1).set (by rw[<-E.len];exact of_decide_eq_true hi) r1)⟩
def lS(f:FX):FZ:=fun δ S=>(f δ S).bind fun v S=> .ok (.rt v) S
theorem gg(he:PX X cl e f):PZ X cl (.Return (some e) pos) (lS f):=⟨(yB he.1).imp fun D σ H ⟨ρ,S,δ,o,S',E,hf,q⟩=>by
 obtain⟨v,S1,h1,h2⟩:=R3.ao hf;cases h2;exact⟨ρ,S,δ,v,_,E,h1,fun u dN H1 p1 w1 r1=>q u dN H1 p1 w1 r1⟩⟩
def Dp(c:FB)(F G:FZ):FZ:=fun δ S=>(c δ S).bind fun b S=>if b then F δ S else G δ S
theorem qq(hc:GR X cl c fc)(ha:za X cl a F)(hb:za X cl b G):PZ X cl (.If c a b pos) (Dp fc F G):=⟨(Di hc.1 ha.1 hb.1).imp fun D σ H ⟨ρ,S,δ,o,S',E,hf,q⟩=>by
 obtain⟨k,S1,h1,h2⟩:=R3.ao hf;refine⟨ρ,S,δ,k,S1,E,h1,fun dN H1 p1 w1=>?_⟩
 cases k with
 | true=>rw [if_pos rfl] at h2;exact Bk ⟨dN,S1,δ,o,S',E.to p1 w1,h2,q.pre p1⟩
 | false=>rw [if_neg (by decide)] at h2;exact BS ⟨dN,S1,δ,o,S',E.to p1 w1,h2,q.pre p1⟩⟩
def qa(f:FX):FZ:=fun δ S=>(f δ S).bind fun _ S=> .ok (.nx δ) S
theorem nG{pos:Pos}(he:PX X cl e f)(x_:swapsWith e none pos.line X.env=pure false:=by rfl):PZ X cl (.Expr e pos) (qa f):=⟨(nM he.1 x_).imp fun D σ H ⟨ρ,S,δ,o,S',E,hf,q⟩=>by
 obtain⟨v,S1,h1,h2⟩:=R3.ao hf;cases h2;exact⟨ρ,S,δ,v,_,E,h1,fun u dN H1 p1 w1 r1=>q _ dN H1 p1 (E.to p1 w1)⟩⟩
def wx(c:FB)(body:FZ):Nat->FZ
 | 0,_,_=> .no
 | n+1,δ,S=>(c δ S).bind fun b S=>if b then(body δ S).bind fun o S=>match o with | .nx ft=>wx c body n ft S | .rt r=> .ok (.rt r) S else .ok (.nx δ) S
def JQ(n:Nat)(c:FB)(body:FZ):FZ:=fun δ S=>wx c body n δ S
end
end L3
end
section
namespace L3
open PySem PySem.Spec PyProof.Rows L2
theorem aK.get{K:W.Frag}:∀{ds:List V3} {xs:List V} {i:Nat} {d:V3},aK K ρ H ds xs->ds[i]? =some d->∃x,xs[i]? =some x/\bE K ρ H d x
 | [],_,_,_,_,e=>by simp at e
 | d ::ds,xs,0,d',h,e=>by
   obtain⟨x,r,rfl,h1,h2⟩:=h.bW;simp at e;subst e;exact⟨x,rfl,h1⟩
 | d ::ds,xs,i+1,d',h,e=>by
   obtain⟨x,r,rfl,h1,h2⟩:=h.bW;obtain⟨y,e1,e2⟩:=aK.get (i:=i) h2 (by simpa using e)
   exact⟨y,by simpa using e1,e2⟩
def IC(K:W.Frag)(ρ:P3)(H:Hp)(J:It)(vs:List V3):Prop:=∀cD H',PW ρ H cD H'->(∀a∈cD.b,∃o,H' a=some o)->(∀(i:Nat) (d:V3),vs[i]? =some d->J.go i H'/\∀x lF,J.yld i H' x lF->aP H' lF/\bE K cD lF d x)/\J.stop vs.length H'
theorem IC.of{K:W.Frag}{ρ:P3}{J:It}{ds:List D}(h:zL K ρ.b H J ds):IC K ρ H J (ds.map .d):=fun cD H' p bs=>by
 obtain⟨h1,h2⟩:=h cD.b H' p.a0;refine⟨fun i v hv=>?_,by rw[List.length_map];exact h2⟩
 rw[List.getElem?_map] at hv;cases e:ds[i]? with
 | none=>rw [e] at hv;cases hv
 | some d=>
   rw[e] at hv;cases hv;obtain⟨g1,g2⟩:=h1 i d e;exact⟨g1,fun x lF y=>let⟨s,r⟩:=g2 x lF y bs;⟨s,by unfold bE;exact r⟩⟩
def K9(K:W.Frag)(cl:P0)(f:FA):TI:=fun σ H R=>∃ρ S δ vs S',eG K cl ρ H S σ δ/\f δ S= .ok vs S'/\∀J dN H1,Pre ρ H dN H1->SW K cl dN H1 S'->IC K dN H1 J vs->R J H1
structure Iz (X:Cx) (cl:P0) (tg e:Expr) (f:FA):Prop where
 go:PI X tg e (K9 X.K cl f)
section
variable {X:Cx} {cl:P0}
def iP(f:av->R (List D)):FA:=fun δ S=>(R3.of (f (down δ)) S).bind fun ds S=> .ok (ds.map .d) S
theorem bA{f:av->R (List D)}(h:xU X tg e f):Iz X cl tg e (iP f):=⟨h.1.imp fun σ H Q ⟨ρ,S,δ,vs,S',E,hf,q⟩=>by
 obtain⟨ds,S1,h1,h2⟩:=R3.ao hf;obtain⟨h3,e3⟩:=R3.of_ok h1;cases h2;subst e3;exact⟨[],ρ.b,down δ,ds,E.down,h3,fun J H1 s r=>q J ρ H1 (Pre.same s) (E.sw.same s) (IC.of r)⟩⟩
def C8(f:FX):FA:=fun δ S=>(f δ S).bind fun v S=>match v with | .d (.int j)=>R3.a_ (decide (-(2 ^ 62)<=j/\j < 2 ^ 62)) (.ok ((il 0 j.toNat).map .d) S) | _=> .no
def MM(f:FX):FA:=fun δ S=>(f δ S).bind fun v S=>match v with | .d (.lst ds)=> .ok (ds.map .d) S | .lst vs=> .ok vs S | _=> .no
abbrev FG:=V3->DE->Option DE
abbrev BE:=List V3->DE->Option DE
def gX(K:W.Frag)(cl:P0)(t:FG):TG:=fun v σ H Q=>∃ρ S δ x du,eG K cl ρ H S σ δ/\bE K ρ H x v/\t x δ=some du/\∀cN H',aP H H'->eG K cl ρ H' S cN du->Q cN H'
def N6(K:W.Frag)(cl:P0)(t:BE):yk:=fun v σ H Q=>∃ρ S δ x du,eG K cl ρ H S σ δ/\aK K ρ H x v/\t x δ=some du/\∀cN H',aP H H'->eG K cl ρ H' S cN du->Q cN H'
structure F7 (X:Cx) (cl:P0) (tg:Expr) (t:FG):Prop where
 go:PG X tg (gX X.K cl t)
structure BI (X:Cx) (cl:P0) (tg:List Expr) (t:BE):Prop where
 go:AZ X tg (N6 X.K cl t)
theorem eG.same{K:W.Frag}{S:bw}{σ:L2.St}{δ:DE}(E:eG K cl ρ H S σ δ)(s:aP H H'):eG K cl ρ H' S σ δ:=E.to (Pre.same s) (E.sw.same s)
def g6(i:Nat):FG:=fun d δ=>if i < δ.length then some (δ.set i (some d)) else none
theorem aL{i:Nat}{pos:Pos}(hN:X.N.Nodup)(hi:X.N[i]? =some x)(hx:Loc X.env.scope x)(hf:X.fn x=true\/X.env.scope.names.lookup x=some .local:=by first | exact .inl rfl | exact .inr rfl | assumption):F7 X cl (.Name x pos) (g6 i):=
 ⟨(vy hN hi hx hf).imp fun v σ H Q ⟨ρ,S,δ,d,du,E,r,ht,q⟩=>by
   unfold g6 at ht;split at ht
   .rename_i hi;cases ht;exact q _ H (aP.refl H) (E.set (by rw[<-E.len];exact hi) r)
   .cases ht⟩
def ui:BE:=fun ds δ=>match ds with | []=>some δ | _=>none
def kP(t:FG)(u:BE):BE:=fun ds δ=>match ds with | d ::r=>(t d δ).bind fun du=>u r du | []=>none
theorem cE:BI X cl [] ui:=⟨vQ.imp fun vs σ H Q ⟨ρ,S,δ,ds,du,E,r,ht,q⟩=>by
 cases ds with
 | nil=>unfold aK at r;cases ht;exact⟨r,q σ H (aP.refl H) E⟩
 | cons=>cases ht⟩
theorem aQ{u:BE}(h1:F7 X cl e t)(h2:BI X cl es u)(hs:(assignEach (e ::es) X.env).map (·.2)=assign e X.env ::(assignEach es X.env).map (·.2):=by rfl):BI X cl (e ::es) (kP t u):=
 ⟨(tF h1.1 h2.1 hs).imp fun vs σ H Q ⟨ρ,S,δ,ds,du,E,r,ht,q⟩=>by
   cases ds with
   | nil=>cases ht
   | cons d ds=>
     obtain⟨x,xs,rfl,r1,r2⟩:=r.bW;have ht:(t d δ).bind (fun du=>u ds du)=some du:=ht
     cases e1:t d δ with
     | none=>rw [e1] at ht;cases ht
     | some δ1=>
       rw[e1] at ht;exact⟨x,xs,rfl,ρ,S,δ,d,δ1,E,r1,e1,fun Ir H1 s1 E1=>⟨ρ,S,δ1,ds,du,E1,r2.pre (Pre.same s1),ht,fun r9 H2 s2 E2=>q r9 H2 (s1.trans s2) E2⟩⟩⟩
def uc(n:Nat)(t:BE):FG:=fun d δ=>match d with
 | .d (.tup ds)=>if ds.length=n then t (ds.map .d) δ else none
 | .tup vs=>if vs.length=n then t vs δ else none
 | _=>none
theorem df{k:Nat}{t:BE}{n:Nat}{pos:Pos}(hc:X.calm=true)(h:BI X cl es t)(hn:(assignEach es X.env).length=n:=by rfl)(CN:(assignEach es X.env).findIdx? (·.1)=none:=by rfl):F7 X cl (.Tuple es k pos) (uc n t):=
 ⟨(zG hc h.1 hn CN).imp fun v σ H Q ⟨ρ,S,δ,d,du,E,r,ht,q⟩=>by
   have key:∃vs a xs,v= .ref a/\uj X.K ρ.b H a xs/\aK X.K ρ H vs xs/\vs.length=n/\t vs δ=some du:=by
    unfold uc at ht;split at ht
    .rename_i ds;split at ht
     .rename_i hl;unfold bE Rep at r;obtain⟨a,xs,e,l,r⟩:=r;exact⟨ds.map .d,a,xs,e,l,aK.of r,by rw[List.length_map];exact hl,ht⟩
     .cases ht
    .rename_i vs;split at ht
     .rename_i hl;unfold bE at r;obtain⟨a,xs,e,l,r⟩:=r;exact⟨vs,a,xs,e,l,r,hl,ht⟩
     .cases ht
    .cases ht
   obtain⟨vs,a,xs,rfl,l,r,hl,ht⟩:=key;exact⟨a,xs,rfl,l.sq,by rw[<-r.length];exact hl,ρ,S,δ,vs,du,E,r,ht,q⟩⟩
def MO(f:FX)(t:FG):FZ:=fun δ S=>(f δ S).bind fun d S=>match t d δ with | some du=> .ok (.nx du) S | none=> .no
def ma(t:FG)(body:FZ):List V3->FZ
 | [],δ,S=> .ok (.nx δ) S
 | d ::ds,δ,S=>match t d δ with
   | none=> .no
   | some δ1=>(body δ1 S).bind fun o S=>match o with | .nx ft=>ma t body ds ft S | .rt r=> .ok (.rt r) S
def kI(it:FA)(t:FG)(body:FZ):FZ:=fun δ S=>(it δ S).bind fun vs S=>ma t body vs δ S
theorem eR{tg iter:Expr}{body:List Stmt}{it:FA}{t:FG}{F:FZ}{pos:Pos}(hp:PassesOwn (model X.prog X.w) X.A X.env X.xe)(hc:X.calm=true)(hi:Iz X cl tg iter it)(hg:F7 X cl tg t)(hb:za X cl body F)
 (hs:∀x,foldedSetIterable iter X.env x=pure x:=by intro _;rfl):PZ X cl (.For tg iter body [] pos) (kI it t F):=⟨(yA hp hc hi.1 hg.1 hb.1 hs).imp fun D σ H ⟨ρ,S,δ,o,S',E,hf,q⟩=>by
 obtain⟨ds,S0,h1,h2⟩:=R3.ao hf;refine⟨ρ,S,δ,ds,S0,E,h1,fun J dN H1 p1 w1 ir=>?_⟩
 refine⟨fun i m cN H'=>m=ds.length - i/\i<=ds.length/\∃cD S1 du,Pre dN H1 cD H'/\eG X.K cl cD H' S1 cN du/\ma t F (ds.drop i) du S1= .ok o S',⟨ds.length,rfl,Nat.zero_le _,dN,S0,δ,Pre.refl dN H1,E.to p1 w1,by simpa using h2⟩,?_⟩
 rintro i m cN H' ⟨rfl,hi,cD,S1,du,pv,E',hl⟩;obtain⟨go,stop⟩:=ir cD H' pv.pw E'.sw.bs;by_cases hlt:i < ds.length
 .have hd:ds[i]? =some ds[i]:=List.getElem?_eq_getElem hlt;have hdrop:ds.drop i=ds[i] ::ds.drop (i+1):=List.drop_eq_getElem_cons hlt;rw[hdrop] at hl;unfold ma at hl;split at hl
  .cases hl
  .rename_i δ1 h3;obtain⟨o1,S2,h5,h6⟩:=R3.ao hl;obtain⟨g1,g2⟩:=go i _ hd;refine .inr ⟨g1,fun r9 H2=>∃AK S2 ft,Pre dN H1 AK H2/\eG X.K cl AK H2 S2 r9 ft/\ma t F (ds.drop (i+1)) ft S2= .ok o S',fun r9 H2 n=>⟨ds.length - (i+1),by omega,rfl,hlt,n⟩,fun x lF y=>?_⟩
   obtain⟨ss,rr⟩:=g2 x lF y;refine⟨cD,S1,du,ds[i],δ1,E'.same ss,rr,h3,fun r9 H2 s2 E2=>⟨cD,S1,δ1,o1,S2,E2,h5,?_⟩⟩
   have pv2:Pre dN H1 cD H2:=pv.trans (Pre.same (ss.trans s2));cases o1 with
   | nx ft=>exact fun CP HU H3 p3 E3=>⟨HU,S2,ft,pv2.trans p3,E3,h6⟩
   | rt d=>
     cases h6;exact fun v HU H3 p3 w r=>q v HU H3 (p1.trans (pv2.trans p3)) w r
 .have e:i=ds.length:=by omega
  subst e;rw[List.drop_length] at hl;cases hl;exact .inl ⟨stop,q cN cD H' (p1.trans pv) E'⟩⟩
end
end L3
end
section
namespace L3
open PySem PySem.Spec PyProof.Rows L2
mutual
def tM(n:Nat):V3->Bool
 | .d _=>true
 | .loc k=>decide (k < n)
 | .lst vs=>my n vs
 | .tup vs=>my n vs
 | .fn _=>true
def my(n:Nat):List V3->Bool
 | []=>true
 | v ::vs=>tM n v && my n vs
end
def xM(n:Nat):SO->Bool
 | .ins _ fs=>my n (fs.map (·.2))
 | _=>true
theorem A6{ρ:P3}{n:Nat}{b:Addr}(h:b∈(ρ.cut n).b):b∈ρ.b:=by
 rcases P3.c5.mp h with z | z
 .exact P3.c5.mpr (.inl ⟨List.mem_of_mem_take z.1,z.2⟩)
 .exact P3.c5.mpr (.inr z)
theorem gS{ρ:P3}(n:Nat):cZ ρ.b H (ρ.cut n).b H:=fun b o e nb=>⟨e,fun hb=>nb (A6 hb)⟩
mutual
theorem bE.cut{K:W.Frag}{ρ:P3}{n:Nat}:∀{v:V3} {x:V},tM n v=true->bE K ρ H v x->bE K (ρ.cut n) H v x
 | .fn y,x,_,h=>by unfold bE at h ⊢;exact h
 | .d y,x,_,h=>by unfold bE at h ⊢;exact h.a0 (gS n)
 | .loc k,x,o,h=>by
   unfold bE at h ⊢;unfold tM at o;obtain⟨a,h1,h2⟩:=h;exact⟨a,by show(ρ.r.take n)[k]? =_;rw [List.getElem?_take_of_lt (of_decide_eq_true o)];exact h1,h2⟩
 | .lst vs,x,o,h=>by
   unfold bE at h ⊢;unfold tM at o;obtain⟨a,xs,e,l,r⟩:=h;exact⟨a,xs,e,l.a0 (gS n),aK.cut o r⟩
 | .tup vs,x,o,h=>by
   unfold bE at h ⊢;unfold tM at o;obtain⟨a,xs,e,l,r⟩:=h;exact⟨a,xs,e,uj.a0 (gS n) l,aK.cut o r⟩
theorem aK.cut{K:W.Frag}{ρ:P3}{n:Nat}:∀{vs:List V3} {xs:List V},my n vs=true->aK K ρ H vs xs->aK K (ρ.cut n) H vs xs
 | [],_,_,h=>by unfold aK at h ⊢;exact h
 | v ::vs,xs,o,h=>by
   unfold my at o;obtain⟨o1,o2⟩:=Bool.and_eq_true_iff.mp o;obtain⟨x,r,rfl,h1,h2⟩:=h.bW;exact aK.cons (bE.cut o1 h1) (aK.cut o2 h2)
end
theorem SW.cut{K:W.Frag}{cl:P0}{ρ:P3}{S:bw}(w:SW K cl ρ H S){n:Nat}(ok:(S.take n).all (xM n)=true):SW K cl (ρ.cut n) H (S.take n):=
 ⟨by show(ρ.r.take n).length=_;rw [List.length_take,List.length_take,w.len],fun i j a hi hj=>by
   have hi:(ρ.r.take n)[i]? =some a:=hi;have hj:(ρ.r.take n)[j]? =some a:=hj;have gi:ρ.r[i]? =some a:=by
    rw[List.getElem?_take] at hi;split at hi
    .exact hi
    .cases hi
   have gj:ρ.r[j]? =some a:=by
    rw[List.getElem?_take] at hj;split at hj
    .exact hj
    .cases hj
   exact w.nd i j a gi gj,fun k a o hk ho=>by
   have hk:(ρ.r.take n)[k]? =some a:=hk;have gk:ρ.r[k]? =some a:=by
    rw[List.getElem?_take] at hk;split at hk
    .exact hk
    .cases hk
   have go:S[k]? =some o:=by
    rw[List.getElem?_take] at ho;split at ho
    .exact ho
    .cases ho
   have r:=w.ob k a o gk go;have oo:xM n o=true:=List.all_eq_true.mp ok o (List.mem_of_getElem? ho);cases o with
   | lst ds=>obtain⟨xs,e,q⟩:=r;exact⟨xs,e,q.a0 (gS n)⟩
   | dct kvs=>obtain⟨ys,e,e2,q⟩:=r;exact⟨ys,e,e2,q.a0 (gS n)⟩
   | ins c fs=>obtain⟨dx,ys,e,e2,q⟩:=r;exact⟨dx,ys,e,e2,q.cut oo⟩
   | exc c=>exact r
   | ic=>exact r,fun b hb=>let⟨h1,h2⟩:=w.zb b hb;⟨h1,fun h=>h2 (List.mem_of_mem_take h)⟩,(fun k a hk ho=>by
   have hk:(ρ.r.take n)[k]? =some a:=hk;rw[List.getElem?_take] at hk;split at hk
   .rename_i hlt;rw[List.getElem?_take_of_lt hlt] at ho;exact w.fz k a hk ho
   .cases hk),w.ff,(fun k a hk ho=>by
   have hk:(ρ.r.take n)[k]? =some a:=hk;rw[List.getElem?_take] at hk;split at hk
   .rename_i hlt;rw[List.getElem?_take_of_lt hlt] at ho;exact w.fi k a hk ho
   .cases hk)⟩
theorem SW.DY{K:W.Frag}{cl:P0}{ρ cD:P3}{n:Nat}(hn:ρ.r.length<=n)(p:Pre ρ H cD H'):Pre ρ H (cD.cut n) H':=
 ⟨p.a0.trans (gS n),p.zz,p.zs,fun k a h=>by show(cD.r.take n)[k]? =_;rw [List.getElem?_take_of_lt (Nat.lt_of_lt_of_le (List.getElem?_eq_some_iff.mp h).1 hn)];exact p.ext k a h⟩
section
variable {X:Cx} {cl:P0}
def c6(S:bw)(k:Nat):Option (List D):=match S[k]? with | some (.lst ds)=>some ds | _=>none
theorem jr{S:bw}{k:Nat}{ds:List D}(h:c6 S k=some ds):S[k]? =some (.lst ds):=by
 unfold c6 at h;split at h
 .rename_i e;cases h;exact e
 .cases h
def gE(δ:DE)(i:Nat):Option Nat:=match δ[i]? with | some (some (.loc k))=>some k | _=>none
theorem lg{δ:DE}{i k:Nat}(h:gE δ i=some k):δ[i]? =some (some (.loc k)):=by
 unfold gE at h;split at h
 .rename_i e;cases h;exact e
 .cases h
def oD(i:Nat)(f:FX):FZ:=fun δ S=>match gE δ i with
 | none=> .no
 | some k=>match c6 S k with
   | none=> .no
   | some _=>(f δ S).bind fun v S1=>match v with
     | .d d=>(match c6 S1 k with | some ds=>R3.a_ (decide (ds.length < sizeLine)) (.ok (.nx δ) (S1.set k (.lst (ds++[d])))) | none=> .no)
     | _=> .no
theorem mm{i:Nat}{x:Str}{e:Expr}{f:FX}{gW apos cw pos:Pos}(hN:X.N[i]? =some x)(hv:Cq X.env.scope x)(he:PX X cl e f)
 (hd:(x==("__debug__":Str))=false:=by decide) (pE:(x==("__classdict__":Str))=false:=by decide)
 (hs:starEach [e] X.env=(false,eval e X.env) ::starEach [] X.env:=by rfl) (me:(apos.endLine==cw.line)=true:=by rfl)
 (rY:((backTo cw (starEach [e] X.env)).all (fun x=>!x.1) && (backToKw cw (keywordEach [] X.env)).all (fun x=>x.1.isSome)
   && decide (([e]:List Expr).length+([]:List Keyword).length+(if([]:List Keyword).isEmpty then 0 else 1) < 30))=true:=by rfl)
 (x_:swapsWith (.Call (.Attribute (.Name x gW) "append" apos) [e] [] cw) none pos.line X.env=pure false:=by rfl)
 (md:attributeBase (.Name x gW) "append" X.env (eval (.Name x gW) X.env)=eval (.Name x gW) X.env:=by rfl) :
 PZ X cl (.Expr (.Call (.Attribute (.Name x gW) "append" apos) [e] [] cw) pos) (oD i f):=by
 refine⟨(nM (zT (X:=X) PySem.F.plainAttrs_list PySem.F.slot_list_append PySem.F.type_list_append qi (oi hN hv hd pE) (et he.1 gO hs) md rY me hs) x_).imp fun D σ H ⟨ρ,S,δ,o,S',E,hf,q⟩=>?_⟩
 unfold oD at hf;split at hf
 .cases hf
 .rename_i k hk;split at hf
  .cases hf
  .rename_i ds0 h0;obtain⟨v,S1,h1,h2⟩:=R3.ao hf;split at h2
   .rename_i d;split at h2
    .rename_i ds h3;obtain⟨hl,h4⟩:=R3.bj h2;cases h4;obtain⟨u,u1,u2⟩:=E.val i _ (lg hk);unfold bE at u2;obtain⟨a,a1,rfl⟩:=u2;obtain⟨OA,x0,_⟩:=E.sw.ob k a _ a1 (jr h0);refine⟨.ref a,u1, .inl ⟨rfl,OA,lE.of x0⟩,⟨ρ,S,δ, .d d,S1,E,h1,fun y dN H1 p1 w1 r1=>?_⟩⟩
     have b1:=p1.ext k a a1;obtain⟨xs,x1,x2⟩:=w1.ob k a _ b1 (jr h3);refine⟨a,xs,y,rfl,rfl,x1,by rw[<-x2.length];exact of_decide_eq_true hl,?_⟩
     unfold bE at r1;obtain⟨w2,p2⟩:=w1.put (o:= .lst (ds++[d])) (u:= .lst (xs++[y])) b1 (w1.fz k a b1 (by rw[jr h3];intro h;cases h)) ⟨xs++[y],rfl,x2.append (aC.cons r1 aC.nil)⟩
     exact q σ dN _ (p1.trans p2) (E.to (p1.trans p2) w2)
    .cases h2
   .cases h2
def N4(fo fi fe:FX):FZ:=fun δ S=>(fe δ S).bind fun v S1=>(fo δ S1).bind fun o S2=>(fi δ S2).bind fun j S3=>match v,o,j with
 | .d d, .loc k, .d (.int n)=>(match c6 S3 k with
   | some ds=>(match ze ds.length n with | some m=> .ok (.nx δ) (S3.set k (.lst (ds.set m d))) | none=> .no)
   | none=> .no)
 | _,_,_=> .no
def Bl(K:W.Frag)(cl:P0)(n:Nat)(g:List V3->bw->R3 V3):Sp:=fun vs H Q _=>vs.length=n/\∃ρ S xs v S',SW K cl ρ H S/\aK K ρ H xs vs/\g xs S= .ok v S'/\∀u cD H',Pre ρ H cD H'->SW K cl cD H' S'->bE K cD H' v u->Q u H'
def gq(g:List V3->bw->R3 V3)(fs:FA):FX:=fun δ S=>(fs δ S).bind g
def cg(P:Program)(w:World)(K:W.Frag)(mg:PY)(base:Heap)(cl:P0)(k:Nat)(x:Str)(n:Nat)(g:List V3->bw->R3 V3):Prop:=
 ∃(f:Addr) (fd:FuncData) (ps:List Str),iY P w K mg base p9 k f fd ps (Bl K cl n g)/\mg x=some (.ref f)/\PySem.W.keepIn K (.ref f)=true/\Binds K fd ps []
theorem dA{g:List V3->bw->R3 V3}{k j n:Nat}{x:Str}{p pos:Pos}{e:Expr}{es:List Expr}{fs:FA}(C:cg X.prog X.w X.K X.mg X.base cl k x n g)(hr:fF j X.A)(HZ:k<=j)(hg:Gl X x)(ha:Iv X cl (e ::es) fs)
 (hn:∀δ S ds S',fs δ S= .ok ds S'->ds.length=n) (pY:(x==("__debug__":Str))=false:=by decide) (he:starEach (e ::es) X.env=(false,eval e X.env) ::starEach es X.env:=by rfl) (kN:(backTo pos (starEach es X.env)).any (·.1)=false:=by rfl) :
 PX X cl (.Call (.Name x p) (e ::es) [] pos) (gq g fs):=by
 obtain⟨f,fd,ps,F,hm,hk,hb⟩:=C;refine⟨(vP F (hr.mono HZ) hg hm hk hb .nil C1 ha.1 pY he kN).imp fun σ H Q ⟨ρ,S,δ,v,S',E,hf,q⟩=>?_⟩
 obtain⟨vs,S1,h1,h2⟩:=R3.ao hf;refine⟨ρ,S,δ,vs,S1,E,h1,fun us dN H1 p1 w1 r1=>?_⟩
 show Bl X.K cl n g (us++[]) H1 Q E0;rw[List.append_nil];exact⟨by rw[<-r1.length];exact hn δ S vs S1 h1,dN,S1,vs,v,S',w1,r1,h2,fun z AK H2 p2 w2 r2=>q z AK H2 (p1.trans p2) w2 r2⟩
end
def dg(N:List Str)(vs:List V3):DE:=vs.map some++List.replicate (N.length - vs.length) none
theorem yo{K:W.Frag}{cl:P0}{S:bw}{N:List Str}{ds:List V3}{vs:List V}(w:SW K cl ρ H S)(r:aK K ρ H ds vs):eG K cl ρ H S (L2.start N vs) (dg N ds) where
 len:=by unfold L2.start dg;simp [r.length]
 sw:=w
 val:=fun i d e=>by
  unfold dg at e;unfold L2.start;by_cases hi:i < ds.length
  .rw [List.getElem?_append_left (by simpa using hi),List.getElem?_map] at e
   cases q:ds[i]? with
   | none=>rw [q] at e;cases e
   | some d'=>
     rw[q] at e;cases e;obtain⟨x,h1,h2⟩:=r.get q;exact⟨x,by rw[List.getElem?_append_left (by rw[List.length_map,<-r.length];exact hi),List.getElem?_map,h1];rfl,h2⟩
  .rw [List.getElem?_append_right (by simpa using hi),List.getElem?_replicate] at e
   split at e <;> cases e
def pG(N:List Str)(F:FZ):List V3->bw->R3 V3:=fun vs S=>(F (dg N vs) S).bind fun o S'=>match o with | .rt v=> .ok v S' | .nx _=> .ok (.d .cL) S'
def rh(N:List Str)(F:FZ):List V3->bw->R3 V3:=fun vs S=>(pG N F vs S).bind fun v S'=>match res S' v with
 | some d=>R3.a_ ((S'.take S.length).all (xM S.length) && jS S.length v) (.ok (.d d) (S'.take S.length))
 | none=> .no
theorem Ca{P:Program}{w:World}{K:W.Frag}{mg:PY}{base:Heap}{cl:P0}{x qual:Str}{st:Stmt}{f:Addr}{fd:FuncData}{N ps:List Str}{k:Nat}{F:FZ}(Fn:wb K x qual st f fd)(S:bp N ps (aJ st))
 (i9:∀(dC:Value) (A:Around) (outer:List Env) (s:Shared) (H:Hp) (E:XK),fF k (A.deeper (envOfC qual (aJ st) s.heap.objs.size f dC))->
   za (og p9 P w K mg base N qual (aJ st) f dC A outer s H E).Cw cl (a9 st) F):iY P w K mg base p9 (k+1) f fd ps (Bl K cl ps.length (pG N F)):=by
 refine Fn.ok S (fun vs H Q E h=>h.1) (fun dC A outer s H vs Q E hr h=>⟨_,(i9 dC A outer s H E hr).1,?_⟩)
 obtain⟨_,ρ,S,ds,v,S',w,r,hg,q⟩:=h;obtain⟨o,S1,h1,h2⟩:=R3.ao hg;refine⟨ρ,S,dg N ds,o,S1,yo w r,h1,?_⟩;cases o with
 | nx du=>
   cases h2;exact fun cN cD H' p' E'=>q _ cD H' p' E'.sw (by unfold bE Rep;rfl)
 | rt d'=>
   cases h2;exact fun u cD H' p' w' r'=>q u cD H' p' w' r'
theorem yu{K:W.Frag}{cl:P0}{N:List Str}{n:Nat}{vs:List V}{Q:VK}{E:XK}(h:Bl K cl n (rh N F) vs H Q E):Bl K cl n (pG N F) vs H Q E:=by
 obtain⟨hl,ρ,S,xs,v,S',w,r,hg,q⟩:=h;obtain⟨v1,S1,h1,h2⟩:=R3.ao hg;refine⟨hl,ρ,S,xs,v1,S1,w,r,h1,fun u dN H1 p1 w1 r1=>?_⟩
 have pc:Pre ρ H (dN.cut S.length) H1:=SW.DY (K:=K) (cl:=cl) (by rw[w.len];exact Nat.le_refl _) p1
 split at h2
 .rename_i d e;obtain⟨ok,h3⟩:=R3.bj h2;obtain⟨ok,hk⟩:=Bool.and_eq_true_iff.mp ok;cases h3;refine q u _ H1 pc (w1.cut ok) ?_;unfold bE;refine r1.resB w1 (gS _) (fun k a hk a1 ha=>?_) hk e
  rcases P3.c5.mp ha with⟨z,_⟩ | z
  .obtain⟨j,hj⟩:=List.getElem?_of_mem z;have hj:(dN.r.take S.length)[j]? =some a:=hj;rw[List.getElem?_take] at hj;split at hj
   .rename_i hjl;have:=w1.nd j k a hj a1;omega
   .cases hj
  .exact(w1.zb a z).2 (List.mem_of_getElem? a1)
 .cases h2
end L3
end
section
namespace L3
open PySem PySem.Spec PyProof.Rows L2
section
variable {X:Cx} {cl:P0}
def kX(δ:DE)(i:Nat):Option V3:=match δ[i]? with | some (some v)=>some v | _=>none
def k4(own:List Str)(kp:List Nat)(δ:DE):DE:=List.replicate own.length none++kp.map (kX δ)
theorem Bp{K:W.Frag}{S S':bw}{σ:L2.St}{δ:DE}{own:List Str}{kp:List Nat}(E:eG K cl ρ H S σ δ)(p:PW ρ H cD H')(w:SW K cl cD H' S'):eG K cl cD H' S' (cR own kp σ) (k4 own kp δ) where
 len:=by unfold cR k4;simp
 sw:=w
 val:=fun i d e=>by
  unfold k4 at e;unfold cR;by_cases hi:i < own.length
  .rw [List.getElem?_append_left (by simpa using hi),List.getElem?_replicate] at e
   split at e <;> cases e
  .rw [List.getElem?_append_right (by simpa using hi),List.length_replicate,List.getElem?_map] at e ⊢
   cases q:kp[i - own.length]? with
   | none=>rw [q] at e;cases e
   | some j=>
     rw[q] at e;have e:kX δ j=some d:=Option.some.inj e;unfold kX at e;split at e
     .rename_i d' ed;cases e;obtain⟨v,h1,h2⟩:=E.val j d ed;exact⟨v,by simp [h1],h2.pw p⟩
     .cases e
def ku(t:FG)(c:FB)(f:FX)(δ:DE):List V3->bw->R3 (List V3)
 | [],S=> .ok [] S
 | v ::vs,S=>match t v δ with
   | none=> .no
   | some δ1=>(c δ1 S).bind fun b S1=>if b then(f δ1 S1).bind fun y S2=>(ku t c f δ vs S2).bind fun ys S3=> .ok (y ::ys) S3 else ku t c f δ vs S1
def f6(it:FA)(t:FG)(c:FB)(f:FX)(own:List Str)(kp:List Nat):FX:=fun δ S=>(it δ S).bind fun vs S1=>R3.a_ (decide (vs.length<=sizeLine)) ((ku t c f (k4 own kp δ) vs S1).bind fun ys S2=> .ok (qd ys) S2)
theorem aK.append{K:W.Frag}:∀{ds es:List V3} {xs ys:List V},aK K ρ H ds xs->aK K ρ H es ys->aK K ρ H (ds++es) (xs++ys)
 | [],_,_,_,h,t=>by unfold aK at h;subst h;exact t
 | d ::ds,es,xs,ys,h,t=>by
   obtain⟨x,r,rfl,h1,h2⟩:=h.bW;exact aK.cons h1 (aK.append h2 t)
theorem v7{K:W.Frag}{own:List Str}{kp:List Nat}{σ:L2.St}{Q:VK}(h:tX K cl (f6 it t c f own kp) σ H Q) :
 wF (K9 K cl it) (gX K cl t) (Fo K cl c) (tX K cl f) own kp σ H Q:=by
 obtain⟨ρ,S,δ,v,SF,E,hf,q⟩:=h;obtain⟨es,S1,h1,h2⟩:=R3.ao hf;obtain⟨hl,h3⟩:=R3.bj h2;have hl:=of_decide_eq_true hl;obtain⟨vs,S2,h4,h5⟩:=R3.ao h3;cases h5;refine⟨ρ,S,δ,es,S1,E,h1,fun J dN H1 p1 w1 ir Dd hD=>?_⟩
 have nDz:Dd ∉ dN.b:=fun hb=>by obtain⟨o,ho⟩:=w1.bs Dd hb;rw [hD] at ho;cases ho
 have nDr:Dd ∉ dN.r:=fun hb=>by obtain⟨o,ho⟩:=w1.rs Dd hb;rw [hD] at ho;cases ho
 have toZ:∀{r' f':List Addr} {H':Hp},Pre dN H1 ⟨r',dN.z,f'⟩ H'->PW dN H1 ⟨r',Dd ::dN.z,f'⟩ H':=fun {r' f' H'} p=>⟨fun b o e nb=>⟨(p.a0 b o e nb).1,fun hb=>by
  rcases P3.c5.mp hb with z | z
  .exact(p.a0 b o e nb).2 (P3.c5.mpr (.inl z))
  .rcases List.mem_cons.mp z with y | y
   .exact b_ e hD y
   .exact(p.a0 b o e nb).2 (P3.c5.mpr (.inr y))⟩,p.ext⟩
 have w0:SW K cl ⟨dN.r,Dd ::dN.z,dN.f⟩ (upd H1 Dd (.lst [])) S1:=by
  have s0:aP H1 (upd H1 Dd (.lst [])):=aU hD;have ws:=w1.same s0;refine⟨ws.len,ws.nd,fun k a o hk ho=>?_,fun b hb=>?_,ws.fz,ws.ff,ws.fi⟩
  .have r:=w1.ob k a o hk ho;obtain⟨u,hu⟩:=r.some;rw[s0 a u hu,<-hu];exact r.pw (toZ (Pre.same s0))
  .rcases List.mem_cons.mp hb with y | y
   .subst y;exact⟨⟨_,aV⟩,nDr⟩
   .exact ws.zb b y
 refine⟨fun i m ys H'=>m=es.length - i/\i<=es.length/\ys.length<=i/\H' Dd=some (.lst ys)/\∃r' f' S' done rest,Pre dN H1 ⟨r',dN.z,f'⟩ H'/\SW K cl ⟨r',Dd ::dN.z,f'⟩ H' S'/\vs=done++rest/\aK K ⟨r',Dd ::dN.z,f'⟩ H' done ys/\ku t c f (k4 own kp δ) (es.drop i) S'= .ok rest SF,
  ⟨es.length,rfl,Nat.zero_le _,Nat.le_refl _,aV,dN.r,dN.f,S1,[],vs,Pre.same (aU hD),w0,rfl,aK.nil,by simpa using h4⟩,?_⟩
 rintro i m ys H' ⟨rfl,hi,hy,hDl,r',f',S',done,rest,pv,w',rfl,rd,hc⟩;obtain⟨go,stop⟩:=ir ⟨r',Dd ::dN.z,f'⟩ H' (toZ pv) w'.bs;have unZ:∀{DF:P3} {H4:Hp},Pre ⟨r',Dd ::dN.z,f'⟩ H' DF H4->Pre dN H1 ⟨DF.r,dN.z,DF.f⟩ H4:=fun {DF H4} p4=>⟨fun b o e nb=>by
  obtain⟨e1,n1⟩:=(toZ pv).a0 b o e nb;obtain⟨kB,n2⟩:=p4.a0 b o e1 n1;refine⟨kB,fun hb=>n2 ?_⟩
  rcases P3.c5.mp hb with z | z
  .exact P3.c5.mpr (.inl z)
  .exact P3.c5.mpr (.inr (by rw[p4.zz];exact List.mem_cons_of_mem _ z)),rfl,fun b o hb h=>p4.zs b o (List.mem_cons_of_mem _ hb) (pv.zs b o hb h),fun k a h=>p4.ext k a (pv.ext k a h)⟩
 by_cases hlt:i < es.length
 .have hd:es[i]? =some es[i]:=List.getElem?_eq_getElem hlt;have hdrop:es.drop i=es[i] ::es.drop (i+1):=List.drop_eq_getElem_cons hlt;rw[hdrop] at hc;unfold ku at hc;split at hc
  .cases hc
  .rename_i δ1 h6;obtain⟨b,T1,h7,h8⟩:=R3.ao hc;obtain⟨g1,g2⟩:=go i _ hd;refine .inr ⟨g1,fun x H2 y=>?_⟩
   obtain⟨sy,ry⟩:=g2 x H2 y;have Ec:eG K cl ⟨r',Dd ::dN.z,f'⟩ H2 S' (cR own kp σ) (k4 own kp δ):=Bp E (p1.pw.trans ((toZ pv).trans (Pre.same sy).pw)) (w'.same sy);refine⟨⟨r',Dd ::dN.z,f'⟩,S',k4 own kp δ,es[i],δ1,Ec,ry,h6,fun CP H3 s3 E3=>⟨⟨r',Dd ::dN.z,f'⟩,S',δ1,b,T1,E3,h7,fun DF H4 p4 w4=>?_⟩⟩
   have HY:Pre ⟨r',Dd ::dN.z,f'⟩ H' DF H4:=(Pre.same (sy.trans s3)).trans p4;cases b with
   | true=>
     rw[if_pos rfl] at h8;refine Bk ?_;obtain⟨yv,T2,h9,KI⟩:=R3.ao h8;obtain⟨rs,T3,FR,FE⟩:=R3.ao KI;cases FE;refine⟨DF,T1,δ1,yv,T2,E3.to p4 w4,h9,fun v5 Mi H5 p5 w5 r5=>?_⟩
     have pv5:Pre ⟨r',Dd ::dN.z,f'⟩ H' Mi H5:=HY.trans p5;have KA:H5 Dd=some (.lst ys):=pv5.zs Dd _ List.mem_cons_self hDl;have u5:=unZ pv5;obtain⟨IM,z5,f5⟩:=Mi;have ez:z5=Dd ::dN.z:=pv5.zz;subst ez;have nr:Dd ∉ IM:=(w5.zb Dd List.mem_cons_self).2;have pw:PW ⟨IM,Dd ::dN.z,f5⟩ H5 ⟨IM,Dd ::dN.z,f5⟩ (upd H5 Dd (.lst (ys++[v5]))):=⟨fun b o e nb=>⟨by rw[ba (fun(z:b=Dd)=>nb (by rw[z];exact P3.c5.mpr (.inr List.mem_cons_self)))];exact e,nb⟩,fun _ _ h=>h⟩
     refine⟨KA,by omega,es.length - (i+1),by omega,rfl,hlt,by rw[List.length_append,List.length_singleton];omega,aV,IM,f5,T2,done++[yv],rs,?_,?_,by simp,aK.append ((rd.pre pv5).pw pw) (aK.cons (r5.pw pw) aK.nil),FR⟩
     .refine⟨fun b o e nb=>⟨by rw[ba (b_ e hD)];exact(u5.a0 b o e nb).1,(u5.a0 b o e nb).2⟩,rfl,fun b o hb h=>?_,u5.ext⟩
      rw[ba (b_ h hD)];exact u5.zs b o hb h
     .refine⟨w5.len,w5.nd,fun k a o hk ho=>?_,fun b hb=>?_,w5.fz,fun b hb=>?_,w5.fi⟩
      .have ne:a≠Dd:=fun z=>nr (by rw[<-z];exact List.mem_of_getElem? hk)
       rw[ba ne];exact(w5.ob k a o hk ho).pw pw
      .obtain⟨⟨o,ho⟩,n⟩:=w5.zb b hb;refine⟨?_,n⟩;by_cases z:b=Dd
       .subst z;exact⟨_,aV⟩
       .rw [ba z];exact⟨o,ho⟩
      .obtain⟨o,ho⟩:=w5.ff b hb;by_cases z:b=Dd
       .subst z;exact⟨_,aV⟩
       .rw [ba z];exact⟨o,ho⟩
   | false=>
     rw[if_neg (by decide)] at h8
     refine BS ?_;have Oj:H4 Dd=some (.lst ys):=HY.zs Dd _ List.mem_cons_self hDl;have u4:=unZ HY;obtain⟨Oi,z4,f4⟩:=DF;have ez:z4=Dd ::dN.z:=HY.zz;subst ez;exact⟨es.length - (i+1),by omega,rfl,hlt,by omega,Oj,Oi,f4,T1,done,rest,u4,w4,rfl,rd.pre HY,h8⟩
 .have e:i=es.length:=by omega
  subst e;rw[List.drop_length] at hc;cases hc;rw[List.append_nil] at q;refine .inl ⟨stop,?_⟩;have back:PW ⟨r',Dd ::dN.z,f'⟩ H' ⟨r',dN.z,f'⟩ H':=⟨fun b o e nb=>⟨e,fun hb=>nb (by
   rcases P3.c5.mp hb with z | z
   .exact P3.c5.mpr (.inl z)
   .exact P3.c5.mpr (.inr (List.mem_cons_of_mem _ z)))⟩,fun _ _ h=>h⟩
  have wB:SW K cl ⟨r',dN.z,f'⟩ H' _:=⟨w'.len,w'.nd,fun k a o hk ho=>(w'.ob k a o hk ho).pw back,fun b hb=>w'.zb b (List.mem_cons_of_mem _ hb),w'.fz,w'.ff,w'.fi⟩
  refine q _ ⟨r',dN.z,f'⟩ H' (p1.trans pv) wB (xq (.inl ⟨fun hb=>?_, .inl hDl⟩) (rd.pw back))
  rcases P3.c5.mp hb with z | z
  .exact(w'.zb Dd List.mem_cons_self).2 z.1
  .exact nDz (P3.c5.mpr (.inr z))
end
end L3
end
section
namespace L3
open PySem PySem.Spec PyProof.Rows L2
section
variable {X:Cx} {cl:P0}
theorem CB{scope:Scope}{own:List Str}{kp:List Nat}{kn:List Str}{tg iter elt:Expr}{ifs:List Expr}{it:FA}{t:FG}{c:FB}{f:FX}{pos:Pos}(hc:X.calm=true)(C:bz X scope own kp kn)(hi:Iz X cl tg iter it)
 (hg:∀fp s H,F7 (bF X scope (own++kn) fp s H) cl tg t) (AJ:∀fp s H,mi (bF X scope (own++kn) fp s H) ifs (Fo X.K cl c)) (he:∀fp s H,PX (bF X scope (own++kn) fp s H) cl elt f)
 (hs:∀x,foldedSetIterable iter X.env x=pure x:=by intro _;rfl):PX X cl (.ListComp elt [⟨tg,iter,ifs,0⟩] scope pos) (f6 it t c f own kp):=
 ⟨(vW hc C hi.1 (fun fp s H=>(hg fp s H).1) AJ (fun fp s H=>(he fp s H).1) hs).imp fun σ H Q h=>v7 h⟩
def oq:FB:=fun _ S=> .ok true S
theorem eL:mi X [] (Fo X.K cl oq):=fun pins s σ H Q I ⟨ρ,S,δ,b,S',E,hf,q⟩=>sL pins s σ H Q I (by cases hf;exact q ρ H (Pre.refl ρ H) E.sw)
theorem n8(h:GR X cl e c):mi X [e] (Fo X.K cl c):=t5 h.1
theorem EV{K:W.Frag}{i:Nat}{D:Ends}{σ:L2.St}(h:sX K cl (bS i f) D σ H):Ak (tX K cl f) (oJ i) D σ H:=by
 obtain⟨ρ,S,δ,o,S',E,hf,q⟩:=h;obtain⟨v,S1,h1,h2⟩:=R3.ao hf;obtain⟨hi,h3⟩:=R3.bj h2;cases h3;refine⟨ρ,S,δ,v,_,E,h1,fun u dN H1 p1 w1 r1=>?_⟩
 exact q _ dN H1 p1 ((E.to p1 w1).set (by rw[<-E.len];exact of_decide_eq_true hi) r1)
theorem cS{i:Nat}{x:Str}{pos' Aw:Pos}{scope:Scope}{own:List Str}{kp:List Nat}{kn:List Str}{tg iter elt:Expr}{ifs:List Expr}{it:FA}{t:FG}{c:FB}{f:FX}{pos:Pos}(hc:X.calm=true)
 (hN:X.N.Nodup) (hx:X.N[i]? =some x) (Il:X.env.scope.names.lookup x=some .local) (C:bz X scope own kp kn) (hi:Iz X cl tg iter it)
 (hg:∀fp s H,F7 (bF X scope (own++kn) fp s H) cl tg t) (AJ:∀fp s H,mi (bF X scope (own++kn) fp s H) ifs (Fo X.K cl c)) (he:∀fp s H,PX (bF X scope (own++kn) fp s H) cl elt f)
 (x_:swapsWith (.ListComp elt [⟨tg,iter,ifs,0⟩] scope pos) (some (.Name x pos')) Aw.line X.env=pure true:=by rfl)
 (hs:∀x,foldedSetIterable iter X.env x=pure x:=by intro _;rfl):PZ X cl (.Assign [.Name x pos'] (.ListComp elt [⟨tg,iter,ifs,0⟩] scope pos) Aw) (bS i (f6 it t c f own kp)):=
 ⟨(uo hc hN hx Il C hi.1 (fun fp s H=>(hg fp s H).1) AJ (fun fp s H=>(he fp s H).1) x_ hs).imp fun D σ H h=>v7 (EV h)⟩
def O8(g:FA):FX:=fun δ S=>(g δ S).bind fun vs S1=>match ny vs with
 | some ds=>R3.a_ (decide (ds.length<=sizeLine)) (.ok (.loc S1.length) (S1++[.lst ds]))
 | none=> .no
end
end L3
end
section
namespace L3
open PySem PySem.Spec PyProof.Rows L2
section
variable {X:Cx} {cl:P0}
def JA(g:List D->R D)(fs:FA):FX:=fun δ S=>(fs δ S).bind fun vs S1=>match ny vs with
 | some ds=>(R3.of (g ds) S1).bind fun d S=> .ok (.d d) S
 | none=> .no
def OV(c:FB)(f g:FX):FX:=fun δ S=>(c δ S).bind fun b S=>if b then f δ S else g δ S
theorem cK:∀(δ:DE) (S:bw) (ds:List V3) (S':bw),jg δ S= .ok ds S'->ds.length=0:=fun δ S ds S' h=>by cases h;rfl
theorem aD{g:FA}{n:Nat}(h:∀(δ:DE) (S:bw) (ds:List V3) (S':bw),g δ S= .ok ds S'->ds.length=n):∀(δ:DE) (S:bw) (ds:List V3) (S':bw),bB f g δ S= .ok ds S'->ds.length=n+1:=fun δ S ds S' e=>by
 obtain⟨v,S1,h1,h2⟩:=R3.ao e;obtain⟨vs,S2,h3,h4⟩:=R3.ao h2;cases h4;rw[List.length_cons,h δ S1 vs _ h3]
end
end L3
end
section
namespace L3
open PySem PySem.Spec PyProof.Rows L2
section
variable {X:Cx} {cl:P0}
def OY(fa fb:FX):FX:=fun δ S=>(fa δ S).bind fun a S1=>(fb δ S1).bind fun b S2=>match a,b with
 | .d x, .d y=>(R3.of (b6 x y) S2).bind fun d S=> .ok (.d d) S
 | .lst vs, .d (.int i)=>(match qj vs i with | some v=> .ok v S2 | none=> .no)
 | .tup vs, .d (.int i)=>(match qj vs i with | some v=> .ok v S2 | none=> .no)
 | _,_=> .no
end
end L3
end
section
namespace L3
open PySem PySem.Spec PyProof.Rows L2
section
variable {X:Cx} {cl:P0}
structure O3 (X:Cx) (cl:P0) (e:Expr) (f:FB):Prop where
 go:L2.PW X e (Fo X.K cl f)
def Nj(f g:FB):FB:=fun δ S=>(f δ S).bind fun b S=>if b then g δ S else .ok false S
def OS(f g:FB):FB:=fun δ S=>(f δ S).bind fun b S=>if b then .ok true S else g δ S
def Nm(f:FB):FB:=fun δ S=>(f δ S).bind fun b S=> .ok (!b) S
def Od(f:FX):FB:=fun δ S=>(f δ S).bind fun v S=>match v with | .d d=>R3.of (HB d) S | _=> .no
abbrev Gd:=DE->bw->R3 (Option Int)
def MU(K:W.Frag)(cl:P0)(f:Gd):TO:=fun σ H Q=>∃ρ S δ o S',eG K cl ρ H S σ δ/\f δ S= .ok o S'/\∀cD H',Pre ρ H cD H'->SW K cl cD H' S'->Q o H'
structure O7 (X:Cx) (cl:P0) (e:Option Expr) (f:Gd):Prop where
 go:PO X e (MU X.K cl f)
def Jr:Gd:=fun _ S=> .ok none S
def JG(f:FX):Gd:=fun δ S=>(f δ S).bind fun v S=>match v with | .d (.int i)=> .ok (some i) S | _=> .no
def Pf(f:FX)(fl fh:Gd):FX:=fun δ S=>(f δ S).bind fun v S1=>(fl δ S1).bind fun lo S2=>(fh δ S2).bind fun hi S3=>match v with
 | .d d=>(R3.of (D3 d lo hi) S3).bind fun r S=> .ok (.d r) S
 | _=> .no
end
end L3
end
section
namespace L2
open PySem PySem.Spec PyProof.Rows
section
variable {X:Cx}
def D8(t T:String):Bool:=t==T || (t=="bool" && T=="int")
def MN(T:String)(f:FD):FD:=fun δ=>(f δ).bind fun d=>match d with | .dct _ _=> .no | _=> .ok (.bl (D8 (tyName d) T))
def nList(f:FD):av->R (List D):=fun δ=>(f δ).bind fun d=>match d with | .lst ds=> .ok ds | .tup ds=> .ok ds | _=> .no
theorem yU{p pos:Pos}{e:Expr}{f:FD}(he:QD X e f)(hg:Gl X "list")(hm:X.mg "list"=none)
 (hs:starEach [e] X.env=(false,eval e X.env) ::starEach [] X.env:=by rfl) (kN:(backTo pos (starEach [] X.env)).any (·.1)=false:=by rfl):QN X (.Call (.Name "list" p) [e] [] pos) (nList f):=by
 refine⟨(qp l5 hg hm boot_list (et he.1 gO hs) (by decide) (by decide) hs kN).imp fun σ H Q ⟨Z,B,δ,ds,E,hf,q⟩=>?_⟩
 obtain⟨d,h1,h2⟩:=R.ao hf;refine⟨Z,B,δ,d,E,h1,fun v H1 s1 r1=>?_⟩
 split at h2
 .cases h2;obtain⟨a,ys,rfl,l,r⟩:=Rep.lst.mp r1;exact⟨a,ys,rfl, .inl l.sq,fun p hp=>q p ys _ (s1.trans (aU hp)) (s1.free hp) aV (r.a0 (lL hp))⟩
 .cases h2;obtain⟨a,ys,rfl,l,r⟩:=Rep.tup.mp r1;exact⟨a,ys,rfl, .inr l.sq,fun p hp=>q p ys _ (s1.trans (aU hp)) (s1.free hp) aV (r.a0 (lL hp))⟩
 .cases h2
end
end L2
namespace L3
open PySem PySem.Spec PyProof.Rows L2
theorem dk{P:Program}{w:World}{K:W.Frag}{mg:PY}{base:Heap}{cl:P0}{x qual:Str}{st:Stmt}{f:Addr}{fd:FuncData}{N ps:List Str}{k:Nat}{F:FZ}{b:List Stmt}{sc:Scope}(hb:a9 st=b)(hs:aJ st=sc)(Fn:wb K x qual st f fd)(S:bp N ps sc)
 (i9:∀(dC:Value) (A:Around) (outer:List Env) (s:Shared) (H:Hp) (E:XK),fF k (A.deeper (envOfC qual sc s.heap.objs.size f dC))->
   za (og p9 P w K mg base N qual sc f dC A outer s H E).Cw cl b F):iY P w K mg base p9 (k+1) f fd ps (Bl K cl ps.length (pG N F)):=by
 subst hb hs;exact Ca Fn S i9
theorem cg.p{K:W.Frag}{mg:PY}{cl:P0}{k:Nat}{n:Nat}{N:List Str}(C:cg P w K mg base cl k x n (pG N F)):cg P w K mg base cl k x n (rh N F):=
 let⟨f,fd,ps,F,h⟩:=C;⟨f,fd,ps,F.imp fun _ _ _ _ h=>yu h,h⟩
def IE(N:List Str)(F:FZ):List D->R D:=fun ds=>match rh N F (ds.map .d) [] with
 | .ok (.d d) []=>R.a_ d.atom (.ok d)
 | _=> .no
theorem EW{K:W.Frag}{cl:P0}{N:List Str}{n:Nat}{vs:List V}{Q:VK}{E:XK}(h:BL K n (IE N F) vs H Q E):Bl K cl n (pG N F) vs H Q E:=by
 obtain⟨hl,B,ds,d,hb,r,hg,q⟩:=h;unfold IE at hg;split at hg
 .rename_i d' e;obtain⟨ha,h2⟩:=R.bj hg;cases h2;have r0:aC K (⟨[],[],[]⟩:P3).b H ds vs:=r.a0 fun b o e _=>⟨e,by simp [P3.b]⟩
  refine yu ⟨hl,⟨[],[],[]⟩,[],ds.map .d, .d d,[],⟨rfl,fun i j a hi=>by simp at hi,fun k a o hk=>by simp at hk,fun b hb=>by simp at hb,fun k a hk=>by simp at hk,fun b hb=>by simp at hb,fun k a hk=>by simp at hk⟩,aK.of r0,e,fun u cD H' p w' r'=>q u H' (fun b o eb=>?_) ?_⟩
  .exact(p.a0 b o eb (by simp [P3.b])).1
  .unfold bE at r';exact r'.atom ha
 .cases hg
section
variable {X:Cx} {cl:P0}
def JX(f:FX):FA:=fun δ S=>(f δ S).bind fun v S=>match v with | .d (.tup ds)=> .ok (ds.map .d) S | .tup vs=> .ok vs S | _=> .no
end
end L3
end
section
namespace L3
open PySem PySem.Spec PyProof.Rows L2
def W3{α:Type}(r:R3 α)(Q:α->bw->Prop):Prop:=∃a S,r= .ok a S/\Q a S
section
variable {α β:Type} {Q Q':α->bw->Prop} {S:bw} {δ:DE}
theorem W3.ok{a:α}(h:Q a S):W3 (.ok a S) Q:=⟨a,S,rfl,h⟩
theorem W3.bind{Q:β->bw->Prop}{r:R3 α}{f:α->bw->R3 β}(h:W3 r fun a S=>W3 (f a S) Q):W3 (r.bind f) Q:=by
 obtain⟨a,S1,e1,b,S2,h2,q⟩:=h;exact⟨b,S2,by rw[e1];exact h2,q⟩
theorem W3.mono{r:R3 α}(h:W3 r Q)(m:∀a S,Q a S->Q' a S):W3 r Q':=let⟨a,S,e,q⟩:=h;⟨a,S,e,m a S q⟩
theorem W3.wh{c:Bool}{r:R3 α}(hc:c=true)(h:W3 r Q):W3 (R3.a_ c r) Q:=by rw[hc];exact h
theorem W3.of{r:R α}{a:α}(e:r= .ok a)(h:Q a S):W3 (R3.of r S) Q:=by rw[e];exact⟨a,S,rfl,h⟩
end
section
variable {S:bw} {δ:DE} {QV:V3->bw->Prop} {QB:Bool->bw->Prop} {QA:List V3->bw->Prop} {QO:Ou->bw->Prop}
theorem cx{f:FD}{d:D}(e:f (down δ)= .ok d)(h:QV (.d d) S):W3 (xP f δ S) QV:=W3.bind (W3.of e (W3.ok h))
theorem IG{f:FD}{d:D}(e:f (c0 S δ)= .ok d)(ha:pN d=true)(h:QV (.d d) S):W3 (xT f δ S) QV:=W3.bind (W3.of e (W3.wh ha (W3.ok h)))
theorem xY{f:av->R Bool}{b:Bool}(e:f (down δ)= .ok b)(h:QB b S):W3 (bP f δ S) QB:=W3.of e h
theorem HN{f:av->R Bool}{b:Bool}(e:f (c0 S δ)= .ok b)(h:QB b S):W3 (bT f δ S) QB:=W3.of e h
theorem w_var{i:Nat}{v:V3}(e:δ[i]? =some (some v))(h:QV v S):W3 (rX i δ S) QV:=by unfold rX;rw [e];exact W3.ok h
theorem qf{f:av->R (List D)}{ds:List D}(e:f (down δ)= .ok ds)(h:QV (.loc S.length) (S++[.lst ds])):W3 (tJ f δ S) QV:=W3.bind (W3.of e (W3.ok h))
theorem hJ(h:QA [] S):W3 (jg δ S) QA:=W3.ok h
theorem bb{f:FX}{g:FA}(h:W3 (f δ S) fun v S1=>W3 (g δ S1) fun vs S2=>QA (v ::vs) S2):W3 (bB f g δ S) QA:=W3.bind (h.mono fun _ _ h=>W3.bind (h.mono fun _ _ h=>W3.ok h))
theorem Oa{g:D->D->R D}{fa fb:FX}(h:W3 (fa δ S) fun a S1=>W3 (fb δ S1) fun b S2=>∃x y d,a= .d x/\b= .d y/\g x y= .ok d/\QV (.d d) S2):W3 (x2 g fa fb δ S) QV:=
 W3.bind (h.mono fun _ _ h=>W3.bind (h.mono fun _ _ ⟨_,_,_,e1,e2,e3,q⟩=>by subst e1 e2;exact W3.bind (W3.of e3 (W3.ok q))))
theorem JI{g:D->D->R D}{fa fb:FX}(h:W3 (fa δ S) fun a S1=>W3 (fb δ S1) fun b S2=>∃x y k,a= .d x/\b= .d y/\g x y= .ok (.bl k)/\QB k S2):W3 (I_ g fa fb δ S) QB:=
 W3.bind (Oa (h.mono fun _ _ h=>h.mono fun _ _ ⟨x,y,k,e1,e2,e3,q⟩=>⟨x,y, .bl k,e1,e2,e3,W3.ok q⟩))
theorem fq{g:List V3->bw->R3 V3}{fs:FA}(h:W3 (fs δ S) fun vs S1=>W3 (g vs S1) QV):W3 (gq g fs δ S) QV:=W3.bind h
theorem DP{it:FA}{own:List Str}{kp:List Nat}(h:W3 (it δ S) fun vs S1=>vs.length<=sizeLine/\W3 (ku t c f (k4 own kp δ) vs S1) fun ys S2=>QV (qd ys) S2):W3 (f6 it t c f own kp δ S) QV:=
 W3.bind (h.mono fun _ _ h=>W3.wh (decide_eq_true h.1) (W3.bind (h.2.mono fun _ _ h=>W3.ok h)))
theorem aS{F G:FZ}(h:W3 (F δ S) fun o S1=>∃δ1,o= .nx δ1/\W3 (G δ1 S1) QO):W3 (bC F G δ S) QO:=W3.bind (h.mono fun _ _ ⟨_,e,h⟩=>by subst e;exact h)
theorem bf{i:Nat}{f:FX}(hi:i < δ.length)(h:W3 (f δ S) fun v S1=>QO (.nx (δ.set i (some v))) S1):W3 (bS i f δ S) QO:=W3.bind (h.mono fun _ _ h=>W3.wh (decide_eq_true hi) (W3.ok h))
theorem ko{f:FX}(h:W3 (f δ S) fun v S1=>QO (.rt v) S1):W3 (lS f δ S) QO:=W3.bind (h.mono fun _ _ h=>W3.ok h)
theorem xy{c:FB}{F G:FZ}(h:W3 (c δ S) fun b S1=>if b then W3 (F δ S1) QO else W3 (G δ S1) QO):W3 (Dp c F G δ S) QO:=W3.bind (h.mono fun b _ h=>by cases b <;> exact h)
theorem ph(h:QO (.nx δ) S):W3 (uG δ S) QO:=W3.ok h
theorem gu{f:av->R (List D)}{ds:List D}(e:f (down δ)= .ok ds)(h:QA (ds.map .d) S):W3 (iP f δ S) QA:=W3.bind (W3.of e (W3.ok h))
theorem g7{it:FA}(h:W3 (it δ S) fun vs S1=>W3 (ma t F vs δ S1) QO):W3 (kI it t F δ S) QO:=W3.bind h
theorem qt{i k:Nat}{f:FX}(hk:δ[i]? =some (some (.loc k)))(h0:∃ds,S[k]? =some (.lst ds))(h:W3 (f δ S) fun v S1=>∃d ds,v= .d d/\S1[k]? =some (.lst ds)/\ds.length < sizeLine/\QO (.nx δ) (S1.set k (.lst (ds++[d])))):W3 (oD i f δ S) QO:=by
 obtain⟨es,h0⟩:=h0;unfold oD;have e1:gE δ i=some k:=by unfold gE;rw [hk]
 have e2:c6 S k=some es:=by unfold c6;simp only[h0]
 rw[e1];show W3 (match c6 S k with | none=>_ | some _=>_) _
 rw[e2];refine W3.bind (h.mono fun v S1 ⟨d,ds,e,h1,hl,q⟩=>?_)
 subst e;have e3:c6 S1 k=some ds:=by unfold c6;simp only[h1]
 show W3 (match c6 S1 k with | some ds=>_ | none=>_) _
 rw[e3];exact W3.wh (decide_eq_true hl) (W3.ok q)
theorem ot{t:FG}{body:FZ}:∀(vs:List V3) (n:Nat) (P:Nat->DE->bw->Prop) {δ:DE} {S:bw},P n δ S->
 (∀i v δ S,vs[i]? =some v->P (n+i) δ S->∃δ1,t v δ=some δ1/\W3 (body δ1 S) fun o S1=>∃ft,o= .nx ft/\P (n+i+1) ft S1)->W3 (ma t body vs δ S) fun o S1=>∃ft,o= .nx ft/\P (n+vs.length) ft S1
 | [],n,P,δ,S,h0,_=>W3.ok ⟨δ,rfl,h0⟩
 | v ::vs,n,P,δ,S,h0,hs=>by
   obtain⟨δ1,e1,o,S1,e2,ft,rfl,p2⟩:=hs 0 v δ S rfl h0;have ih:=ot vs (n+1) P p2 (fun i v' du S' hi hp=>by
    have:=hs (i+1) v' du S' (by simpa using hi) (by rw[show n+(i+1)=n+1+i by omega];exact hp)
    rw[show n+(i+1)+1=n+1+i+1 by omega] at this
    exact this)
   rw[show n+1+vs.length=n+(v ::vs).length by rw[List.length_cons];omega] at ih
   unfold ma;rw[e1];refine W3.bind ⟨_,_,e2,?_⟩;exact ih
theorem cm{t:FG}{body:FZ}{vs:List V3}(P:Nat->DE->bw->Prop){δ:DE}{S:bw}(h0:P 0 δ S)
 (hs:∀i v δ S,vs[i]? =some v->P i δ S->∃δ1,t v δ=some δ1/\W3 (body δ1 S) fun o S1=>∃ft,o= .nx ft/\P (i+1) ft S1):W3 (ma t body vs δ S) fun o S1=>∃ft,o= .nx ft/\P vs.length ft S1:=by
 have:=ot (t:=t) (body:=body) vs 0 P h0 (fun i v δ S hi hp=>by simpa using hs i v δ S hi (by simpa using hp))
 simpa using this
theorem oT{t:FG}{c:FB}{f:FX}{δ:DE}:∀(vs:List V3) (n:Nat) (P:Nat->List V3->bw->Prop) {ys:List V3} {S:bw},P n ys S->
 (∀i v ys S,vs[i]? =some v->P (n+i) ys S->∃δ1,t v δ=some δ1/\W3 (c δ1 S) fun b S1=>if b then W3 (f δ1 S1) fun y S2=>P (n+i+1) (ys++[y]) S2 else P (n+i+1) ys S1)->W3 (ku t c f δ vs S) fun zs S1=>P (n+vs.length) (ys++zs) S1
 | [],n,P,ys,S,h0,_=>W3.ok (by rw[List.append_nil];exact h0)
 | v ::vs,n,P,ys,S,h0,hs=>by
   obtain⟨δ1,e1,b,S1,e2,h2⟩:=hs 0 v ys S rfl h0;have ih:∀{Gw S'},P (n+1) Gw S'->W3 (ku t c f δ vs S') fun zs S1=>P (n+(v ::vs).length) (Gw++zs) S1:=fun {Gw S'} p=>by
    have:=oT (t:=t) (c:=c) (f:=f) (δ:=δ) vs (n+1) P p (fun i v' Gw S' hi hp=>by
     have:=hs (i+1) v' Gw S' (by simpa using hi) (by rw[show n+(i+1)=n+1+i by omega];exact hp)
     rw[show n+(i+1)+1=n+1+i+1 by omega] at this
     exact this)
    rw[show n+1+vs.length=n+(v ::vs).length by rw[List.length_cons];omega] at this
    exact this
   unfold ku;rw[e1];refine W3.bind ⟨b,S1,e2,?_⟩;cases b with
   | true=>
     rw[if_pos rfl] at h2 ⊢;exact W3.bind (h2.mono fun y S2 p=>W3.bind ((ih p).mono fun zs S3 q=>W3.ok (by rw[List.append_assoc] at q;exact q)))
   | false=>rw [if_neg (by decide)] at h2 ⊢;exact ih h2
theorem xG{t:FG}{c:FB}{f:FX}{δ:DE}{vs:List V3}(P:Nat->List V3->bw->Prop){S:bw}(h0:P 0 [] S)
 (hs:∀i v ys S,vs[i]? =some v->P i ys S->∃δ1,t v δ=some δ1/\W3 (c δ1 S) fun b S1=>if b then W3 (f δ1 S1) fun y S2=>P (i+1) (ys++[y]) S2 else P (i+1) ys S1):W3 (ku t c f δ vs S) fun zs S1=>P vs.length zs S1:=by
 have:=oT (t:=t) (c:=c) (f:=f) (δ:=δ) vs 0 P h0 (fun i v ys S hi hp=>by simpa using hs i v ys S hi (by simpa using hp))
 simpa using this
theorem oB{QB:Bool->bw->Prop}(h:QB true S):W3 (oq δ S) QB:=W3.ok h
theorem zQ{N:List Str}{F:FZ}{vs:List V3}{δ:DE}(e:dg N vs=δ)(h:W3 (F δ S) fun o S1=>∃v,o= .rt v/\QV v S1):W3 (pG N F vs S) QV:=by
 subst e;exact W3.bind (h.mono fun _ _ ⟨_,e,q⟩=>by subst e;exact W3.ok q)
def K7(S:bw):Prop:=∀o∈S,∃ds,o=SO.lst ds
end
section
variable {S:bw} {δ:DE} {QV:V3->bw->Prop}
theorem fS{it:FA}{t:FG}{c:FB}{f:FX}{own:List Str}{kp:List Nat}(P:Nat->List D->bw->Prop)(h:W3 (it δ S) fun vs S1=>vs.length<=sizeLine/\P 0 [] S1/\
 (∀i v ds S2,vs[i]? =some v->P i ds S2->∃δ1,t v (k4 own kp δ)=some δ1/\W3 (c δ1 S2) fun b S3=>if b then W3 (f δ1 S3) fun y S4=>∃d,y= .d d/\P (i+1) (ds++[d]) S4 else P (i+1) ds S3)/\
 ∀ds S2,P vs.length ds S2->QV (.d (.lst ds)) S2):W3 (f6 it t c f own kp δ S) QV:=by
 refine DP (h.mono fun vs S1 ⟨hl,h0,hs,hq⟩=>⟨hl,?_⟩)
 refine(xG (fun i ys S=>∃ds,ys=ds.map V3.d/\P i ds S) ⟨[],rfl,h0⟩ ?_).mono fun zs S2 ⟨ds,e,p⟩=>?_
 .rintro i v ys S2 hv ⟨ds,rfl,p⟩;obtain⟨δ1,e1,h1⟩:=hs i v ds S2 hv p;refine⟨δ1,e1,h1.mono fun b S3 h3=>?_⟩
  cases b with
  | true=>
    rw[if_pos rfl] at h3 ⊢;exact h3.mono fun y S4 ⟨d,e,p⟩=>by subst e;exact⟨ds++[d],by simp,p⟩
  | false=>rw [if_neg (by decide)] at h3 ⊢;exact⟨ds,rfl,h3⟩
 .subst e;unfold qd;rw[tO];exact hq ds S2 p
structure lG (n:Nat) (d:D):Prop where
 pl:eS d=true
 ly:(toPy d).canLay0=true
 dp:(toPy d).depth<=n
theorem lG.int(i:Int):lG 0 (.int i):=⟨by unfold eS;rfl,by unfold toPy PyData.canLay0;rfl,by unfold toPy PyData.depth;omega⟩
theorem lG.all{n:Nat}:∀{ds:List D},(∀d∈ds,lG n d)->g_ ds=true/\PyData.canLayAll0 (jN ds)=true/\PyData.depthAll (jN ds)<=n
 | [],_=>⟨by unfold g_;rfl,by unfold jN PyData.canLayAll0;rfl,by unfold jN PyData.depthAll;omega⟩
 | d ::ds,h=>by
   obtain⟨h1,h2,h3⟩:=lG.all (ds:=ds) fun x hx=>h x (List.mem_cons_of_mem _ hx)
   have f:=h d List.mem_cons_self;refine⟨by unfold g_;rw [f.pl,h1];rfl,by unfold jN PyData.canLayAll0;rw [f.ly,h2];rfl,?_⟩
   unfold jN PyData.depthAll;have:=f.dp;omega
theorem lG.lst{n:Nat}{ds:List D}(h:∀d∈ds,lG n d):lG (n+1) (.lst ds):=by
 obtain⟨h1,h2,h3⟩:=lG.all h;exact⟨by unfold eS;exact h1,by unfold toPy PyData.canLay0;exact h2,by unfold toPy PyData.depth;omega⟩
theorem lG.tup{n:Nat}{ds:List D}(h:∀d∈ds,lG n d):lG (n+1) (.tup ds):=by
 obtain⟨h1,h2,h3⟩:=lG.all h;exact⟨by unfold eS;exact h1,by unfold toPy PyData.canLay0;exact h2,by unfold toPy PyData.depth;omega⟩
theorem lG.sh{n:Nat}{d:D}(h:lG n d)(hn:n<=64):SeqAt.shaped (toPy d)=true:=by
 unfold SeqAt.shaped;rw[h.ly,decide_eq_true (Nat.le_trans h.dp hn)];rfl
theorem Aj{d e:List D}:Dr (.lst d) (.lst e)=R.a_ (eS (.lst d) && eS (.lst e) && SeqAt.shaped (toPy (.lst d)) && SeqAt.shaped (toPy (.lst e))) (.ok (PyData.eqv (toPy (.lst d)) (toPy (.lst e)))):=rfl
theorem lG.MI{n:Nat}{ds:List D}(h:lG n (.lst ds))(hn:n<=64):Dr (.lst ds) (.lst ds)= .ok true:=by
 rw[Aj,h.pl,h.sh hn,SeqAt.eqv_refl _ h.ly];rfl
end
end L3
end
section
namespace L2
open PySem PySem.Spec PyProof.Rows
section
variable {X:Cx}
def Dx:D->Bool | .cL=>true | _=>false
def OQ(d e:D):R D:=match e with | .cL=> .ok (.bl (Dx d)) | _=> .no
def Ni(d e:D):R D:=match e with | .cL=> .ok (.bl (!Dx d)) | _=> .no
theorem xu:j4 X (.type "int") (fun xs H Q=>∃x n,xs=[.str x]/\PySem.intText? x=some n/\x.length<=640/\Q (.int n) H):=by
 intro pins s σ H xs us Q I r h;obtain⟨x,n,rfl,h1,h2,q⟩:=h;obtain⟨u,rfl,ru⟩:=vals1 r;obtain⟨t,rfl⟩:=ru;exact PySem.W.KIN.call_text h1 h2 ⟨.int n,H,I.tok _,⟨_,rfl⟩,q⟩
def zK:List D->R D
 | [.str x]=>R.a_ (decide (x.length<=640)) (match PySem.intText? x with | some n=> .ok (.int n) | none=> .no)
 | _=> .no
theorem EO:cv X (.type "int") zK:=cv.of xu fun B H ds d xs Q _ rs hg q=>by
 unfold zK at hg;split at hg
 .obtain⟨h1,h2⟩:=R.bj hg;split at h2
  .rename_i e;cases h2;obtain⟨x,rfl,r⟩:=rs.one;exact⟨_,_,by rw[Rep.str.mp r],e,of_decide_eq_true h1,q _ H (aP.refl H) (Rep.int.mpr rfl)⟩
  .cases h2
 .cases hg
def kZ(ds:List D):R D:=match ds with | [.str _]=>zK ds | _=>cInt ds
theorem ml:cv X (.type "int") kZ:=cv.or EO HH fun a d h=>by
 unfold kZ at h;split at h
 .exact .inl h
 .exact .inr h
def Hd(f:FD):FD:=fun δ=>(f δ).bind fun d=>match d with | .int i=> .ok (.int (-i)) | _=> .no
theorem A4(h:QD X a f):QD X (.UnaryOp .USub a pos) (Hd f):=⟨(GP DJ h.1).imp fun σ H Q ⟨Z,B,δ,d,E,hf,q⟩=>by
 obtain⟨d1,h1,h2⟩:=R.ao hf;split at h2
 .cases h2;exact⟨Z,B,δ,_,E,h1,fun v H1 s1 r1=>⟨_,Rep.int.mp r1,q _ H1 s1 (Rep.int.mpr rfl)⟩⟩
 .cases h2⟩
def Lk(d:D)(ds:List D):R D:=match d,ds with
 | .str x,[.str y]=> .ok (.int (Txt.find x y))
 | _,_=> .no
def M6(kvs:List (Str × Str)):D:= .dct (kvs.map fun p=>Sum.inr p.1) (kvs.map fun p=> .str p.2)
def Ph(kvs:List (Str × Str)):List (Key × V):=kvs.map fun p=>((Sum.inr p.1:Key),V.str p.2)
def NX(d k:D):R D:=match d,k with
 | .dct ks ds, .str x=>(match (ks.zip ds).find? fun p=>decide (p.1=Sum.inr x) with | some p=> .ok p.2 | none=> .no)
 | _,_=> .no
theorem mQ{K:W.Frag}{B:List Addr}{k:Key}{v:Key × D}:∀{kvs:List (Key × V)} {ds:List D},aC K B H ds (kvs.map (·.2))->(((kvs.map (·.1)).zip ds).find? fun p=>decide (p.1=k))=some v->∃x,ij kvs k=some x/\Rep K B H v.2 x
 | [],ds,r,h=>by simp at h
 | (k1,v1) ::kvs,[],r,h=>by simp at h
 | (k1,v1) ::kvs,d ::ds,r,h=>by
   obtain⟨x,xs,e,r1,r2⟩:=r.bW;cases e;rw[List.map_cons,List.zip_cons_cons,List.find?_cons] at h;unfold ij;rw[List.find?_cons];by_cases hk:k1=k
   .have e1:decide (k1=k)=true:=decide_eq_true hk;simp only[e1] at h ⊢;cases h;exact⟨_,rfl,r1⟩
   .have e1:decide (k1=k)=false:=decide_eq_false hk;simp only[e1] at h ⊢;exact mQ r2 h
end
end L2
namespace L3
open PySem PySem.Spec PyProof.Rows L2
section
variable {X:Cx} {cl:P0}
def Lf(f:FX):FB:=fun δ S=>(f δ S).bind fun v S=>match v with | .d (.bl b)=> .ok b S | _=> .no
def NV(f g:FX):FX:=fun δ S=>(Lf f δ S).bind fun b S=>if b then g δ S else .ok (.d (.bl false)) S
def O4(f g:FX):FX:=fun δ S=>(Lf f δ S).bind fun b S=>if b then .ok (.d (.bl true)) S else g δ S
def u_(i:Nat)(F:FZ):FZ:=fun δ S=>match gE δ i with
 | some k=>(match c6 S k with | some ds=>F (δ.set i (some (.d (.lst ds)))) (S.set k .ic) | none=> .no)
 | none=> .no
theorem rG(i:Nat)(h:za X cl DI F):za X cl DI (u_ i F):=⟨h.1.imp fun D σ H ⟨ρ,S,δ,o,S',E,hf,q⟩=>by
 unfold u_ at hf;split at hf
 .rename_i k hk;split at hf
  .rename_i ds hds;obtain⟨v,v1,v2⟩:=E.val i _ (lg hk);unfold bE at v2;obtain⟨a,a1,rfl⟩:=v2;obtain⟨w,p,r⟩:=E.sw.ic a1 (jr hds);have E1:eG X.K cl ⟨ρ.r,ρ.z,a ::ρ.f⟩ H (S.set k .ic) σ (δ.set i (some (.d (.lst ds)))):=⟨by rw[List.length_set];exact E.len,w,fun j d e=>by
    by_cases h:i=j
    .subst h;rw[List.getElem?_set_self (by obtain⟨h1,_⟩:=List.getElem?_eq_some_iff.mp (lg hk);exact h1)] at e
     cases e;exact⟨_,v1,by unfold bE;exact r⟩
    .rw [List.getElem?_set_ne h] at e;obtain⟨u,u1,u2⟩:=E.val j d e;exact⟨u,u1,u2.pre p⟩⟩
   exact⟨_,_,_,o,S',E1,hf,q.pre p⟩
  .cases hf
 .cases hf⟩
theorem yJ{i k:Nat}{ds:List D}{F:FZ}{δ:DE}{S:bw}{QO:Ou->bw->Prop}(hk:δ[i]? =some (some (.loc k)))(hS:S[k]? =some (.lst ds))(h:W3 (F (δ.set i (some (.d (.lst ds)))) (S.set k .ic)) QO):W3 (u_ i F δ S) QO:=by
 unfold u_;have e1:gE δ i=some k:=by unfold gE;rw [hk]
 have e2:c6 S k=some ds:=by unfold c6;simp only[hS]
 simp only[e1,e2];exact h
end
def Flat(S:bw):Prop:=∀o∈S,∀n,xM n o=true
theorem Flat.nil:Flat []:=fun o ho=>by cases ho
end L3
end
section
namespace PySem
open Sem (wp)
open AutoSeq1 (wpAny_loadPart')
section
variable {prog:Program} {w:World} {A:Around} {E:PQ} {s:Shared}
end
end PySem
namespace L2
open PySem PySem.Spec PyProof.Rows
section
variable {X:Cx}
def Iy(f:FD):FD:=fun δ=>(f δ).bind fun d=>match d with
 | .int j=>R.a_ (decide (-(2 ^ 62)<=j/\j < 16777216)) (.ok (.tup (il 0 j.toNat)))
 | _=> .no
theorem uw{n:Nat}{acc:Array Value}(h:ItemsOf (fun i v=>∃t,v=Value.int (0+(i:Int)*1) t) acc n):Vals ((List.range n).map fun(i:Nat)=>V.int (0+(i:Int))) acc.toList:=by
 obtain⟨hl,h⟩:=h;have gen:∀(l:List Value) (m:Nat),(∀j v,l[j]? =some v->∃t,v=Value.int (((m+j:Nat):Int)) t)->Vals ((List.range' m l.length).map fun(i:Nat)=>V.int (0+(i:Int))) l:=by
  intro l
  induction l with
  | nil=>intro m _;exact .nil
  | cons x l ih=>
    intro m hv;rw[List.length_cons,List.range'_succ,List.map_cons];obtain⟨t,e⟩:=hv 0 x rfl;refine .cons ⟨t,by rw[e];simp⟩ (ih (m+1) fun j v hj=>?_)
    obtain⟨t,e⟩:=hv (j+1) v (by simpa using hj)
    exact⟨t,by rw[e];congr 1;omega⟩
 have:=gen acc.toList 0 fun j v hj=>by
  obtain⟨t,e⟩:=h j v (by rw[<-hj];simp)
  exact⟨t,by rw[e];congr 1;omega⟩
 rw[<-hl,List.range_eq_range'];simpa using this
theorem tU{K:W.Frag}{B:List Addr}:∀l:List Nat,aC K B H (l.map fun(i:Nat)=>D.int (0+(i:Int))) (l.map fun(i:Nat)=>V.int (0+(i:Int)))
 | []=>aC.nil
 | i ::l=>aC.cons (Rep.int.mpr rfl) (tU l)
end
end L2
end
section
namespace PySem
open Sem (wp)
open AutoSeq1 (wpAny_loadPart')
section
variable {prog:Program} {w:World} {A:Around} {E:PQ} {s:Shared}
theorem nA{it l:Addr}{i:Nat}{items:Array Value}{x:Value}{Q:PQ}(hit:s.heap.IsTupleIter it l i)(hl:s.heap.IsTuple l items)(hx:items[i]? =some x)
 (hQ:∀h',h'.IsTupleIter it l (i+1)->Heap.SameBut it s.heap h'->Q x {s with heap:=h'}):wpAny (model prog w) A (Builtin.SmallTypes.nextOf (.ref it)) Q E s:=by
 obtain⟨o,ho,hc,hd⟩:=id hit;obtain⟨ol,wJ,_,nl,HX⟩:=hl;unfold Builtin.SmallTypes.nextOf;refine wpAny_bind (wpAny_callSpecial?_slot (name:="__next__") hit.typeIs F.slot_tuple_iterator_next (wpAny_call_entry F.slot_tuple_iterator_next hit.typeIs F.entry_tuple_iterator_next ?_ (F.args_tuple_iterator_next_1 _)));show wpAny _ _ (field (.ref it) 0 >>=_) _ _ s;refine wpAny_bind (wpAny_field ho hd (x:= .ref l) rfl ?_);show wpAny _ _ (if(Value.ref l==Value.none)=true then _ else _) _ _ s;rw [if_neg (show ¬((Value.ref l==Value.none)=true) from Bool.false_ne_true)]
 show wpAny _ _ (field (.ref it) 1 >>=_) _ _ s;refine wpAny_bind (wpAny_field ho hd (x:= .int i 0) rfl ?_);show wpAny _ _ (seqItems? (.ref l) >>=_) _ _ s;refine wpAny_bind (wpAny_seqItems wJ HX ?_);simp only[Int.toNat_natCast,hx];refine wpAny_bind (wpAny_setField ho hd (by simp) (wpAny_pure ⟨x,rfl,wpAny_pure (hQ _ ⟨_,Heap.get?_update_self _ ho (Obj.isFreed_of_fields (Obj.data_mapFields hd _)),(Obj.cls_mapFields ..).trans hc,by rw[Obj.data_mapFields hd];simp [rawInt]⟩ (Heap.SameBut.update ..))⟩))
theorem jU{it l:Addr}{i:Nat}{items:Array Value}{Q:PQ}(hh:A.handled=none)(hit:s.heap.IsTupleIter it l i)(hl:s.heap.IsTuple l items)(hx:items[i]? =none)
 (hE:∀h' e,Heap.ExtBut it s.heap h'->(∃o,h'.get? e=some o/\o.cls= .type "StopIteration")->E (.ref e) {s with heap:=h'}):wpAny (model prog w) A (Builtin.SmallTypes.nextOf (.ref it)) Q E s:=by
 obtain⟨o,ho,hc,hd⟩:=id hit;obtain⟨ol,wJ,_,nl,HX⟩:=hl;unfold Builtin.SmallTypes.nextOf;refine wpAny_bind (wpAny_callSpecial?_slot (name:="__next__") hit.typeIs F.slot_tuple_iterator_next (wpAny_call_entry F.slot_tuple_iterator_next hit.typeIs F.entry_tuple_iterator_next ?_ (F.args_tuple_iterator_next_1 _)));show wpAny _ _ (field (.ref it) 0 >>=_) _ _ s;refine wpAny_bind (wpAny_field ho hd (x:= .ref l) rfl ?_);show wpAny _ _ (if(Value.ref l==Value.none)=true then _ else _) _ _ s;rw [if_neg (show ¬((Value.ref l==Value.none)=true) from Bool.false_ne_true)]
 show wpAny _ _ (field (.ref it) 1 >>=_) _ _ s;refine wpAny_bind (wpAny_field ho hd (x:= .int i 0) rfl ?_);show wpAny _ _ (seqItems? (.ref l) >>=_) _ _ s;refine wpAny_bind (wpAny_seqItems wJ HX ?_);simp only[Int.toNat_natCast,hx];refine wpAny_bind (wpAny_rule (wpAny_bind (wpAny_setField ho hd (by simp) ?_)))
 show wpAny _ _ (newExc (.type "StopIteration") [] >>=_) _ _ _;refine wpAny_bind ?_;simp only[newExc,newTuple];refine wpAny_bind (wpAny_newObj_type ?_ (by size_fits))
 refine wpAny_bind (m:=firstArgMember _ _) (wpAny_of_eq (a:=Value.none) (by first | rfl | (simp only[firstArgMember];rfl)) ?_);refine wpAny_newObj_type ?_ (by size_fits)
 simp only[raiseNew];refine wpAny_bind (wpAny_handled ?_)
 first | rw[show A.in1.handled=none from hh] | rw[hh]
 exact wpAny_bind (wpAny_pure (wpAny_throw (hE _ _ (((Heap.SameBut.update ..).extBut.push _).push _) ⟨_,Heap.get?_push_size _ rfl,rfl⟩)))
end
theorem xB{prog:Program}{w:World}{A:Around}(hh:A.handled=none)(it l:Addr)(DC:l≠it)(items:Array Value) :
 Draws prog w A it [it,l] items.size (fun i v=>items[i]? =some v) (fun i h=>h.IsTupleIter it l i/\h.IsTuple l items) where
 live:=fun _ _ st=>let⟨o,ho,_⟩:=st.1;⟨o,ho⟩
 frame:=fun _ _ _ st hk=>⟨st.1.at fun o e=>hk it (by simp) o e,Heap.IsTuple.at st.2 fun o e=>hk l (by simp) o e⟩
 item:=fun i s Q E hi st hQ=>nA st.1 st.2 (x:=items[i]) (by simp [hi]) fun h' KQ L8=>hQ _ h' s.toks (by simp [hi]) ⟨KQ,st.2.extBut L8.extBut DC⟩ L8
 done:=fun s Q E st hE=>jU hh st.1 st.2 (by simp) hE
theorem m_(l:Addr)(items:Array Value)(o:Obj)(n:Nat)(hc:o.cls= .type "tuple")(hd:o.data= .seq items n) :
 Meets (Builtin.«enumerate.__new__» ⟨[.type "enumerate", .ref l],[]⟩) (fun _ R s=>s.heap.get? l=some o/\
  R (.ok (.ret (.ref (s.heap.push {cls:= .type "tuple_iterator",data:= .fields #[.ref l, .int 0 0]}).objs.size)))
   {s with heap:=(s.heap.push {cls:= .type "tuple_iterator",data:= .fields #[.ref l, .int 0 0]}).push {cls:= .type "enumerate",data:= .fields #[.none, .bool false, .ref s.heap.objs.size,rawInt 0, .none, .none]}}):=
 .of_wp fun prog w A R s h=>by
   obtain⟨hp,g,d,tk,os⟩:=s;obtain⟨hl,h⟩:=h;have hsub:=sub_enumerate;have hL:Heap.IsTuple (Shared.heap ⟨hp,g,d,tk,os⟩) l items:=⟨_,hl,hc,n,hd⟩
   wp_walk using wpAny_loadPart' hl
   refine wpAny_stack_any fun st=>wpAny_pure ?_
   split
   .rename_i c _ _ _ _ _;cases(c==Value.type "enumerate") <;> (wp_walk using wpAny_loadPart' hl,wpAny_pyIter_tuple hL;exact⟨_,rfl,h⟩)
   .wp_walk using wpAny_loadPart' hl,wpAny_pyIter_tuple hL
    exact⟨_,rfl,h⟩
theorem vd{prog:Program}{w:World}{A:Around}{E:PQ}{s:Shared}{l:Addr}{items:Array Value}{Q:PQ}(hL:s.heap.IsTuple l items)
 (h:∀h':Heap,IsEnum h' (s.heap.objs.size+1) s.heap.objs.size 0 .none->h'.IsTupleIter s.heap.objs.size l 0->(∀b o,s.heap.get? b=some o->h'.get? b=some o)->Q (.ref (s.heap.objs.size+1)) {s with heap:=h'}) :
 wpAny (model prog w) A (call (.type "enumerate") [.ref l]) Q E s:=by
 obtain⟨o,hl,hc,n,hd⟩:=hL;refine callType_new F.called_enumerate (by decide) (F.typeCall_enumerate_1 _) (F.newCall_enumerate_1 _) (fun obj=>F.args_object_init_2 obj _) F.entry_enumerate_new (m_ l items o n hc hd) ⟨hl,?_⟩
 have hz:(s.heap.push {cls:= .type "tuple_iterator",data:= .fields #[.ref l, .int 0 0]}).objs.size=s.heap.objs.size+1:=Heap.size_push ..;show _/\_;rw [hz];have he:IsEnum ((s.heap.push {cls:= .type "tuple_iterator",data:= .fields #[.ref l, .int 0 0]}).push {cls:= .type "enumerate",data:= .fields #[.none, .bool false, .ref s.heap.objs.size,rawInt 0, .none, .none]}) (s.heap.objs.size+1) s.heap.objs.size 0 .none:=by
  have:=Heap.get?_push_size (s.heap.push {cls:= .type "tuple_iterator",data:= .fields #[.ref l, .int 0 0]}) (o:={cls:= .type "enumerate",data:= .fields #[.none, .bool false, .ref s.heap.objs.size,rawInt 0, .none, .none]}) rfl;rw[hz] at this;exact this
 exact⟨⟨_,he,rfl⟩,h _ he ⟨_,Heap.get?_push_of_some _ (Heap.get?_push_size _ rfl),rfl,rfl⟩ fun b o x=>Heap.get?_push_of_some _ (Heap.get?_push_of_some _ x)⟩
end PySem
namespace L2
open PySem PySem.Spec PyProof.Rows
def Ka(K:W.Frag)(a:Addr):It:=
 ⟨fun i H=>∃xs x,nh K H a xs/\xs[i]? =some x,fun i H v H'=>∃p x,H p=none/\v= .ref p/\(∀xs,nh K H a xs->xs[i]? =some x)/\H'=upd H p (.tup [.int i,x]),fun i H=>∃xs,nh K H a xs/\xs.length<=i⟩
theorem uQ{K:W.Frag}{k:Nat}(a e it:Addr)(Gu:e≠it):Turn P w K (.Tuple elts k pos) (Ka K a) [e,it] e (fun i h=>(∃old,IsEnum h e it ((i:Nat):Int) old)/\h.IsTupleIter it a i) where
 mem:=by simp
 obj:=fun i h st b hb=>by
  obtain⟨⟨old,he⟩,o,ho,c,d⟩:=st;rcases List.mem_cons.mp hb with rfl | hb
  .exact⟨_,he,fun v z=>by cases z⟩
  .have e:b=it:=by simpa using hb
   subst e;exact⟨o,ho,fun v z=>by rw[d] at z;cases z⟩
 keep:=fun i h h' st k=>by
  obtain⟨⟨old,he⟩,hi⟩:=st;exact⟨⟨old,k e (by simp) _ he⟩,hi.at fun o x=>k it (by simp) o x⟩
 item:=by
  intro X hP hw hK hc i pins s σ H E I hf st hg;subst hP hw hK;obtain⟨xs,x,hq,hx⟩:=hg;obtain⟨its,rv,p,hz⟩:=I.tuple hq;have p':s.heap.IsTuple a its.toArray:=p;obtain⟨u,hu,ru⟩:=rv.get hx;obtain⟨⟨old,he⟩,hit⟩:=st;obtain⟨f0,f1,f2,f3,f4,f5⟩:=hf e (by simp)
  obtain⟨g0,g1,g2,g3,g4,g5⟩:=hf it (by simp)
  have ha_it:a≠it:=fun z=>by
   obtain⟨o1,h1,c1,_⟩:=p';obtain⟨o2,h2,c2,_⟩:=hit;rw[z,h2] at h1;cases h1;rw[c2] at c1;exact absurd c1 (by decide)
  have ha_e:e ∉ [it,a]:=fun z=>by
   rcases List.mem_cons.mp z with q | q
   .exact Gu q
   .have q:e=a:=by simpa using q
    obtain⟨o1,h1,c1,_⟩:=p';rw[<-q,he] at h1;cases h1;exact absurd (show Value.type "enumerate"=Value.type "tuple" from c1) (by decide)
  refine wpAny_pyNext_enum_itemD (xB (A:=X.A.in1) (I.ok.hd hc) it a ha_it its.toArray) he ⟨hit,p'⟩ (by have:=(List.getElem?_eq_some_iff.mp hu).1;simpa using this) Gu ha_e fun u2 i8 tk Ot AS Io AF Ie Ay=>⟨_,rfl,?_⟩
  obtain rfl:u2=u:=by
   have h1:its[i]? =some u2:=by simpa using Ot
   rw[hu] at h1;cases h1;rfl
  obtain⟨vm,_⟩:=Io;refine wpAny_letOwnedTupleGo_enum AS fun lB AD ky=>?_
  replace ky:Heap.SameBut e i8 lB:=ky
  have hel:e < s.heap.objs.size:=Heap.lt_size he;have AE:lB.get? s.heap.objs.size=some {cls:= .type "tuple",data:= .seq #[.int i tk,u2]}:=(ky.2 _ (Nat.ne_of_gt hel)).trans AF;have kk:∀b o,b≠e->b≠it->s.heap.get? b=some o->lB.get? b=some o:=fun b o h1 h2 q=>(ky.2 b h1).trans (Ay b o h1 h2 q)
  have hn:H s.heap.objs.size=none:=I.fresh;have sm:aP H (upd H s.heap.objs.size (.tup [.int i,x])):=aU hn;have nit:∀b o,H b=some o->b≠e/\b≠it:=fun b o q=>⟨fun z=>(by rw[z,f0] at q;cases q),fun z=>(by rw[z,g0] at q;cases q)⟩
  have hok:lq X.prog X.w (upd H s.heap.objs.size (.tup [.int i,x])) lB:=fun b ob q=>by
   by_cases hb:b=s.heap.objs.size
   .subst hb;rw[aV] at q;cases q;exact⟨by show 2<=sizeLine;decide,[.int i tk,u2], .cons ⟨_,rfl⟩ (.cons ru .nil),⟨_,AE,rfl,_,rfl⟩⟩
   .rw [ba hb] at q;refine(I.hok b ob q).uZ (fun c v hc z=>?_) (fun c z=>sm c _ z) fun c ys z=>sm c _ z
    rcases hc with rfl | hc
    .exact kk c v (nit c _ q).1 (nit c _ q).2 z
    .exact kk c v (nit c _ hc).1 (nit c _ hc).2 z
  have nch:∀b,b ∉ [e,it]->b≠e/\b≠it:=fun b hb=>⟨fun z=>hb (by simp [z]),fun z=>hb (by simp [z])⟩
  have I2:Inv X pins σ (upd H s.heap.objs.size (.tup [.int i,x])) {s with heap:=lB,toks:=tk+1}:=by
   refine I.step (g':=s.gens) (d':=s.drawn) (ch:=[e,it]) (fun b hb=>?_) (fun b o _ _ hb q _=>kk b o (nch b hb).1 (nch b hb).2 q) (fun b o _ _ hb q _=>⟨o.slots,kk b o (nch b hb).1 (nch b hb).2 q⟩)
    (fun b o hb q n=>by rw[ba (Nat.ne_of_lt (Heap.lt_size q))];exact n) (fun b o hb q=>⟨o,kk b o (nch b hb).1 (nch b hb).2 q⟩) (fun b ys z=>sm b _ z) (fun b o u z=>sm b _ z) (fun b ps z=>⟨#[],by rw[sm b _ z];simp⟩) (fun m hm=>?_) hok I.bare
   .rcases List.mem_cons.mp hb with rfl | hb
    .exact⟨f3,f1,f4,f5⟩
    .have z:b=it:=by simpa using hb
     subst z;exact⟨g3,g1,g4,g5⟩
   .obtain⟨o,es,ep,ho,r⟩:=hm;exact⟨o,es,ep,kk _ o (Ne.symm f1) (Ne.symm g1) ho,r⟩
  refine⟨.ref s.heap.objs.size,_,I2,rfl,⟨s.heap.objs.size,x,hn,rfl,fun ys hy=>(by rw[I.qg hy hq];exact hx),rfl⟩,⟨⟨_,by simpa using AD⟩,vm.at fun o q=>(ky.2 it (Ne.symm Gu)).trans q⟩,fun b hb=>?_⟩
  rcases List.mem_cons.mp hb with rfl | hb
  .rw [ba (Nat.ne_of_lt hel)];exact f0
  .have z:b=it:=by simpa using hb
   subst z;obtain⟨o,ho,_⟩:=hit;rw[ba (Nat.ne_of_lt (Heap.lt_size ho))];exact g0
 done:=by
  intro X hP hw hK hc i pins s σ H E I hf st hg;subst hP hw hK;obtain⟨xs,hq,hx⟩:=hg;obtain⟨its,rv,p,hz⟩:=I.tuple hq;have p':s.heap.IsTuple a its.toArray:=p;obtain⟨⟨old,he⟩,hit⟩:=st;obtain⟨g0,g1,g2,g3,g4,g5⟩:=hf it (by simp)
  have hl:=rv.length;have hT:s.TypeIs (.ref e) "enumerate":=⟨_,he,rfl⟩;unfold pyNext;refine wpAny_bind (wpAny_attempt (wpAny_callSpecial?_slot (name:="__next__") hT F.slot_enumerate_next (wpAny_call_entry F.slot_enumerate_next hT F.entry_enumerate_next ?_ (F.args_enumerate_next_1 _))));show wpAny _ _ (field (.ref e) 2 >>=_) _ _ _;refine wpAny_bind (wpAny_field he rfl (x:= .ref it) rfl ?_);refine wpAny_bind (jU (A:=X.A.in1) (I.ok.hd hc) hit p' (by simp;omega) fun h' x ON FW=>?_)
  obtain⟨o,ho,FU⟩:=FW;refine wpAny_bind (wpAny_isInstance (T:="StopIteration") (b:=true) ⟨o,ho,FU⟩ isSubtype_stop ?_);exact wpAny_pure ⟨rfl,I.turned (t':=s.toks) (fun b o hb q=>ON b o hb q) g0 g1 g3 g4 g5⟩
 self:=fun A i s Q E st h=>let⟨⟨_,he⟩,_⟩:=st;wpAny_pyIter_enum he h
section
variable {X:Cx}
def rf(f:FD):av->R (List D):=fun δ=>(f δ).bind fun d=>match d with | .tup ds=> .ok (cT ds) | _=> .no
theorem uN{elts:List Expr}{k:Nat}{rZ:Pos}{p pos:Pos}(h:QD X a f)(hg:Gl X "enumerate")(hm:X.mg "enumerate"=none)(hs:starEach [a] X.env=[(false,eval a X.env)]:=by rfl):xU X (.Tuple elts k rZ) (.Call (.Name "enumerate" p) [a] [] pos) (rf f):=by
 refine⟨?_⟩;intro pins s σ H RR I ⟨Z,B,δ,ds,E,hf,q⟩;obtain⟨d,h1,h2⟩:=R.ao hf;have hA:=et h.1 gO hs pos pins s σ H (fun vs H1=>aP H H1/\∃v,vs=[v]/\Rep X.K B H1 d v) I ⟨Z,B,δ,d,E,h1,fun v H1 s1 r1=>⟨s1,v,rfl,r1⟩⟩
 refine Call_ (jj I hg hm boot_enumerate (PyProof.Rows.callWith_type1 (dG hA fun us s1 ⟨vs,H1,I1,r1,ss,v,ev,rr⟩=>?_) hs rfl))
 subst ev;obtain⟨u,rfl,ru⟩:=vals1 r1;cases d with
 | tup es=>
   cases h2;obtain⟨b,xs,rfl,l,rs⟩:=Rep.tup.mp rr;cases ru;obtain⟨its,rv,pt,hz⟩:=I1.tuple l.sq;refine vd (items:=its.toArray) pt fun h' he hit kk=>wpAny_pyIter_enum he ?_
   have I2:Inv X pins σ H1 {s1 with heap:=h'}:=I1.kept (t':=s1.toks) kk
   refine⟨s1.heap.objs.size+1,[s1.heap.objs.size+1,s1.heap.objs.size],_,_,H1,rfl,I2,uQ b (s1.heap.objs.size+1) s1.heap.objs.size (Nat.succ_ne_self _),⟨⟨_,he⟩,hit⟩,fun c hc=>?_,q _ H1 ss fun B' H' pr=>?_⟩
   .have hle:s1.heap.objs.size<=c:=by
     rcases List.mem_cons.mp hc with z | hc
     .rw [z];exact Nat.le_succ _
     .have z:c=s1.heap.objs.size:=by simpa using hc
      rw[z];exact Nat.le_refl _
    exact I1.uW hle (I1.hok.fresh hle)
   .have l':uj X.K B' H' b xs:=l.elim (fun z=> .inl ⟨(pr.rd z.2 z.1).2,(pr.rd z.2 z.1).1⟩) .inr
    have rs':=rs.a0 pr;refine⟨fun i d hd=>?_,⟨xs,l'.sq,by rw[<-rs.length];unfold cT;simp⟩⟩
    unfold cT at hd;rw[List.getElem?_map,List.getElem?_zipIdx] at hd;cases e:es[i]? with
    | none=>rw [e] at hd;cases hd
    | some d0=>
      rw[e] at hd;have hd:D.tup [.int ((0+i:Nat):Int),d0]=d:=Option.some.inj hd;rw[Nat.zero_add] at hd;obtain⟨x,hx,rx⟩:=rs'.get e;refine⟨⟨xs,x,l'.sq,hx⟩,fun v lF y Gp=>?_⟩
      obtain⟨p,y,hp,rfl,hy,rfl⟩:=y;refine⟨aU hp,?_⟩;subst hd;have hy2:=hy xs l'.sq;rw[hx] at hy2;cases hy2;refine Rep.tup.mpr ⟨p,_,rfl, .inl ⟨fun ha=>?_, .inl aV⟩,aC.cons (Rep.int.mpr rfl) (aC.cons (rx.same (aU hp)) aC.nil)⟩
      obtain⟨o,ho⟩:=Gp p ha;rw[hp] at ho;cases ho
 | _=>cases h2
end
end L2
end
section
namespace L2
open PySem PySem.Spec PyProof.Rows
section
variable {X:Cx}
abbrev Ly:D->D->R D:=yR (fun _ j=>decide (0 < j/\j.natAbs.log2 < 9000)) fun i j=>i / j
theorem t9{K:W.Frag}{B:List Addr}{ds:List D}{xs:List V}(r:aC K B H ds xs):∀n:Nat,aC K B H (List.replicate n ds).flatten (List.replicate n xs).flatten
 | 0=>aC.nil
 | n+1=>by rw[List.replicate_succ,List.replicate_succ,List.flatten_cons,List.flatten_cons];exact r.append (t9 r n)
def yp(f:av->R (List D))(g:FD):av->R (List D):=fun δ=>(f δ).bind fun ds=>(g δ).bind fun d=>match d with
 | .int k=>R.a_ (decide (0<=k/\k < 1000000/\ds.length*k.toNat<=sizeLine)) (.ok (List.replicate k.toNat ds).flatten)
 | _=> .no
theorem v8{f:av->R (List D)}(ha:QN X a f)(hb:QD X b g):QN X (.BinOp a .Mult b pos) (yp f g):=by
 refine⟨(Dw DN ha.1 hb.1).imp fun σ H Q ⟨Z,B,δ,es,E,hf,q⟩=>?_⟩
 obtain⟨ds,h1,h2⟩:=R.ao hf;obtain⟨d,h3,h4⟩:=R.ao h2;split at h4
 .rename_i k;obtain⟨h5,h6⟩:=R.bj h4;cases h6;obtain⟨k0,k1,k2⟩:=of_decide_eq_true h5;refine⟨Z,B,δ,ds,E,h1,fun a xs H1 s1 n1 e1 r1=>⟨Z,B,δ, .int k,E.same s1,h3,fun v H2 s2 r2=>⟨a,k,xs,rfl,Rep.int.mp r2,s2 a _ e1,by omega,by omega,by rw[<-r1.length];exact k2,fun p hp=>?_⟩⟩⟩
  refine q p _ _ (s1.trans (s2.trans (aU hp))) ((s1.trans s2).free hp) aV ?_;refine(t9 r1 k.toNat).a0 fun b o e nb=>⟨(s2.trans (aU hp)) b o e,fun hm=>?_⟩
  rcases List.mem_cons.mp hm with z | z
  .rw [z] at e;rw [s2 p _ e] at hp;cases hp
  .exact nb (List.mem_cons_of_mem _ z)
 .cases h4
def yy(ns:List Int):List Int:=ns.mergeSort fun a b=>decide (a<=b)
def Iu:List D->R D
 | [.lst ds]=>(match ints? ds with | some ns=>R.a_ (decide (ns.length < 64)) (.ok (.lst ((yy ns).map .int))) | none=> .no)
 | _=> .no
theorem getD_in{l:List Int}{i:Nat}(h:i < l.length):l.getD i 0∈l:=by
 have e:l.getD i 0=l[i]:=by simp [h]
 rw[e];exact List.getElem_mem h
theorem fold_min:∀(ns:List Int) (n:Int),ns.foldl min n∈n ::ns/\∀a∈n ::ns,ns.foldl min n<=a
 | [],n=>⟨by simp,fun a ha=>by simp at ha;subst ha;exact Int.le_refl _⟩
 | x ::ns,n=>by
   obtain⟨h1,h2⟩:=fold_min ns (min n x);rw[List.foldl_cons];refine⟨?_,fun a ha=>?_⟩
   .rcases List.mem_cons.mp h1 with z | z
    .rw [z];by_cases hc:n<=x
     .rw [Int.min_eq_left hc];simp
     .rw [Int.min_eq_right (by omega)];simp
    .exact List.mem_cons_of_mem _ (List.mem_cons_of_mem _ z)
   .have hm:=h2 _ List.mem_cons_self;rcases List.mem_cons.mp ha with z | z
    .subst z;omega
    .rcases List.mem_cons.mp z with z | z
     .subst z;omega
     .exact h2 a (List.mem_cons_of_mem _ z)
theorem fold_max:∀(ns:List Int) (n:Int),ns.foldl max n∈n ::ns/\∀a∈n ::ns,a<=ns.foldl max n
 | [],n=>⟨by simp,fun a ha=>by simp at ha;subst ha;exact Int.le_refl _⟩
 | x ::ns,n=>by
   obtain⟨h1,h2⟩:=fold_max ns (max n x);rw[List.foldl_cons];refine⟨?_,fun a ha=>?_⟩
   .rcases List.mem_cons.mp h1 with z | z
    .rw [z];by_cases hc:n<=x
     .rw [Int.max_eq_right hc];simp
     .rw [Int.max_eq_left (by omega)];simp
    .exact List.mem_cons_of_mem _ (List.mem_cons_of_mem _ z)
   .have hm:=h2 _ List.mem_cons_self;rcases List.mem_cons.mp ha with z | z
    .subst z;omega
    .rcases List.mem_cons.mp z with z | z
     .subst z;omega
     .exact h2 a (List.mem_cons_of_mem _ z)
def zi:List D->R D
 | [.lst ds]=>(match ints? ds with | some (n ::ns)=> .ok (.int (ns.foldl min n)) | _=> .no)
 | ds=>Eo ds
def zD:List D->R D
 | [.lst ds]=>(match ints? ds with | some (n ::ns)=> .ok (.int (ns.foldl max n)) | _=> .no)
 | ds=>Fp ds
theorem D4(hc:X.calm=true):cv X (.builtin "min") zi:=by
 intro pins s σ H B ds d xs us I hb rx rs hg;unfold zi at hg;split at hg
 .split at hg
  .rename_i es n ns e;cases hg;obtain⟨x,rfl,r⟩:=rs.one;obtain⟨a,ys,rfl,l,r⟩:=Rep.lst.mp r;obtain⟨u,rfl,ru⟩:=vals1 rx;cases ru;obtain⟨its,k,rv,e1,hz⟩:=I.Fc l;rw[dU r e] at rv;obtain⟨ps,rfl,hps⟩:=d4 rv;have hl:s.heap.IsList a (intItems ps.toArray):=⟨_,e1,rfl,k,by simp [intItems]⟩
   have hlp:ps.length=ns.length+1:=by have:=congrArg List.length hps;simpa using this
   refine min_intList (I.ok.hd hc) hl (by simp;omega) fun v h' tk hv hk=>?_
   obtain⟨t,rfl⟩:=intItems_at hv;obtain⟨b1,b2⟩:=argBest_lt (numAt ps.toArray) (ps.toArray.size - 1);refine⟨.int _,H,I.kept hk,⟨t,rfl⟩,aP.refl H,Rep.int.mpr ?_⟩;obtain⟨m1,m2⟩:=fold_min ns n;have hge:∀j,j < ps.length->numAt ps.toArray j=(n ::ns).getD j 0:=fun j hj=>by rw[numAt_eq,<-hps]
   have hin:numAt ps.toArray (argBest (fun i j=>decide (numAt ps.toArray i < numAt ps.toArray j)) (ps.toArray.size - 1))∈n ::ns:=by
    rw[hge _ (by simp at b1 ⊢;omega)];exact getD_in (by simp at b1 ⊢;omega)
   have hle:=m2 _ hin;obtain⟨j,hj,ej⟩:=List.getElem_of_mem m1;have CO:j < ns.length+1:=by simpa using hj
   have h3:=b2 j (by simp;omega)
   rw[hge j (by omega)] at h3
   have h4:(n ::ns).getD j 0=ns.foldl min n:=by rw[<-ej,List.getD_eq_getElem?_getD,List.getElem?_eq_getElem hj];rfl
   rw[h4] at h3;congr 1;omega
  .cases hg
 .exact Gy hc pins s σ H B _ d xs us I hb rx rs hg
theorem DT(hc:X.calm=true):cv X (.builtin "max") zD:=by
 intro pins s σ H B ds d xs us I hb rx rs hg;unfold zD at hg;split at hg
 .split at hg
  .rename_i es n ns e;cases hg;obtain⟨x,rfl,r⟩:=rs.one;obtain⟨a,ys,rfl,l,r⟩:=Rep.lst.mp r;obtain⟨u,rfl,ru⟩:=vals1 rx;cases ru;obtain⟨its,k,rv,e1,hz⟩:=I.Fc l;rw[dU r e] at rv;obtain⟨ps,rfl,hps⟩:=d4 rv;have hl:s.heap.IsList a (intItems ps.toArray):=⟨_,e1,rfl,k,by simp [intItems]⟩
   have hlp:ps.length=ns.length+1:=by have:=congrArg List.length hps;simpa using this
   refine max_intList (I.ok.hd hc) hl (by simp;omega) fun v h' tk hv hk=>?_
   obtain⟨t,rfl⟩:=intItems_at hv;obtain⟨b1,b2⟩:=argBest_gt (numAt ps.toArray) (ps.toArray.size - 1);refine⟨.int _,H,I.kept hk,⟨t,rfl⟩,aP.refl H,Rep.int.mpr ?_⟩;obtain⟨m1,m2⟩:=fold_max ns n;have hge:∀j,j < ps.length->numAt ps.toArray j=(n ::ns).getD j 0:=fun j hj=>by rw[numAt_eq,<-hps]
   have hin:numAt ps.toArray (argBest (fun i j=>decide (numAt ps.toArray i > numAt ps.toArray j)) (ps.toArray.size - 1))∈n ::ns:=by
    rw[hge _ (by simp at b1 ⊢;omega)];exact getD_in (by simp at b1 ⊢;omega)
   have hle:=m2 _ hin;obtain⟨j,hj,ej⟩:=List.getElem_of_mem m1;have CO:j < ns.length+1:=by simpa using hj
   have h3:=b2 j (by simp;omega)
   rw[hge j (by omega)] at h3
   have h4:(n ::ns).getD j 0=ns.foldl max n:=by rw[<-ej,List.getD_eq_getElem?_getD,List.getElem?_eq_getElem hj];rfl
   rw[h4] at h3;congr 1;omega
  .cases hg
 .exact Ht hc pins s σ H B _ d xs us I hb rx rs hg
end
end L2
namespace L3
open PySem PySem.Spec PyProof.Rows L2
def G6(S:bw):V3->Option (List D)
 | .d (.lst ds)=>some ds
 | .loc k=>c6 S k
 | _=>none
section
variable {X:Cx} {cl:P0}
def Mu(fa fb:FX):FX:=fun δ S=>(fa δ S).bind fun a S1=>(fb δ S1).bind fun b S2=>match G6 S2 a,G6 S2 b with
 | some ds,some es=>R3.a_ (decide (ds.length+es.length<=sizeLine)) (.ok (.loc S2.length) (S2++[.lst (ds++es)]))
 | _,_=> .no
def Ny(i:Nat):FZ:=fun δ S=>match gE δ i with
 | none=> .no
 | some k=>(match c6 S k with | some _=> .ok (.nx δ) (S.set k (.lst [])) | none=> .no)
end
end L3
end
section
namespace L3
open PySem PySem.Spec PyProof.Rows L2
def zJ(S:bw)(c k:Nat):Option (List (Str × V3)):=match S[k]? with | some (.ins c' fs)=>(if c'=c then some fs else none) | _=>none
def HS(f:Str)(v:V3):List (Str × V3)->List (Str × V3)
 | []=>[(f,v)]
 | (g,x) ::r=>if g=f then(g,v) ::r else(g,x) ::HS f v r
section
variable {X:Cx} {cl:P0}
def NS(c:Nat)(f:Str)(g:FX):FX:=fun δ S=>(g δ S).bind fun v S1=>match v with
 | .loc k=>(match zJ S1 c k with | some fs=>(match fs.lookup f with | some v=> .ok v S1 | none=> .no) | none=> .no)
 | _=> .no
def L5(P:Program)(w:World)(K:W.Frag)(mg:PY)(base:Heap)(cl:P0)(k c:Nat)(m:Str)(n:Nat)(g:List V3->bw->R3 V3):Prop:=
 ∃(f:Addr) (fd:FuncData) (ps:List Str),Gb K (cl c)/\Meth K (cl c) m f/\iY P w K mg base p9 k f fd ps (Bl K cl (n+1) g)/\Binds K fd ps []
def Lg(c:Nat)(m:Str)(g:List V3->bw->R3 V3)(fo:FX)(fs:FA):FX:=fun δ S=>(fo δ S).bind fun o S1=>match o with
 | .loc k=>(match zJ S1 c k with | some ys=>(match ys.lookup m with | none=>(fs δ S1).bind fun vs S2=>g (.loc k ::vs) S2 | some _=> .no) | none=> .no)
 | _=> .no
def L7(P:Program)(w:World)(K:W.Frag)(mg:PY)(base:Heap)(cl:P0)(k c:Nat)(x:Str)(n:Nat)(g:List V3->bw->R3 V3):Prop:=
 ∃(f:Addr) (fd:FuncData) (ps:List Str),Mk K (cl c) f/\iY P w K mg base p9 k f fd ps (Bl K cl (n+1) g)/\mg x=some (.ref (cl c))/\Binds K fd ps []
def LC(c:Nat)(g:List V3->bw->R3 V3)(fs:FA):FX:=fun δ S=>(fs δ S).bind fun vs S1=>(g (.loc S1.length ::vs) (S1++[.ins c []])).bind fun v S2=>match v with
 | .d .cL=> .ok (.loc S1.length) S2
 | _=> .no
def MG(c:Nat)(f:Str)(fo fe:FX):FZ:=fun δ S=>(fe δ S).bind fun v S1=>(fo δ S1).bind fun o S2=>match o with
 | .loc k=>(match zJ S2 c k with | some fs=>R3.a_ (decide (fs.length < 1000)) (.ok (.nx δ) (S2.set k (.ins c (HS f v fs)))) | none=> .no)
 | _=> .no
end
end L3
end
section
namespace PySem
open Sem (wp)
def MY(t:Bool)(h:Heap)(i l:Addr)(k:Nat):Prop:=cond t (h.IsTupleIter i l k) (h.IsListIter i l k)
def IV(t:Bool)(h:Heap)(l:Addr)(xs:Array Value):Prop:=cond t (h.IsTuple l xs) (h.IsList l xs)
def zr(t:Bool):String:=cond t "tuple_iterator" "list_iterator"
section
variable {prog:Program} {w:World} {A:Around} {E:PQ} {s:Shared}
end
abbrev Lv(t:Bool)(h:Heap)(l1:Addr):Heap:=h.push {cls:= .type (zr t),data:= .fields #[.ref l1, .int 0 0]}
abbrev K8(t u:Bool)(h:Heap)(l1 l2:Addr):Heap:=(Lv t h l1).push {cls:= .type (zr u),data:= .fields #[.ref l2, .int 0 0]}
abbrev LZ(t u:Bool)(h:Heap)(l1 l2:Addr):Heap:=(K8 t u h l1 l2).push {cls:= .type "tuple",data:= .seq #[.ref h.objs.size, .ref (Lv t h l1).objs.size]}
abbrev MK(t u:Bool)(h:Heap)(l1 l2:Addr):Heap:=(LZ t u h l1 l2).push {cls:= .type "tuple",data:= .seq #[.none, .none]}
abbrev OX(t u:Bool)(h:Heap)(l1 l2:Addr):Heap:=(MK t u h l1 l2).push {cls:= .type "zip",data:= .fields #[.none, .bool false, .bool false, .ref (K8 t u h l1 l2).objs.size, .ref (LZ t u h l1 l2).objs.size]}
end PySem
namespace L2
open PySem PySem.Spec PyProof.Rows
def A9(t:Bool)(K:W.Frag)(H:Hp)(a:Addr)(xs:List V):Prop:=cond t (nh K H a xs) (lE K H a xs)
theorem Inv.Kd{X:Cx}{pins:PM}{σ:L2.St}{s:Shared}{t:Bool}{a:Addr}{xs:List V}(I:Inv X pins σ H s)(h:A9 t X.K H a xs):∃its:List Value,Vals xs its/\IV t s.heap a its.toArray:=by
 cases t with
 | true=>obtain⟨its,r,p,_⟩:=I.tuple h;exact⟨its,r,p⟩
 | false=>obtain⟨its,r,p,_⟩:=I.list h;exact⟨its,r,p.isList⟩
def O0(K:W.Frag)(t u:Bool)(a b:Addr):It:=
 ⟨fun i H=>∃xs ys x y,A9 t K H a xs/\A9 u K H b ys/\xs[i]? =some x/\ys[i]? =some y,
  fun i H v H'=>∃p x y,H p=none/\v= .ref p/\(∀xs,A9 t K H a xs->xs[i]? =some x)/\(∀ys,A9 u K H b ys->ys[i]? =some y)/\H'=upd H p (.tup [x,y]),
  fun i H=>∃xs ys,A9 t K H a xs/\A9 u K H b ys/\(xs.length<=i\/ys.length<=i)⟩
section
variable {X:Cx}
def GU(ds es:List D):List D:=(ds.zip es).map fun p=> .tup [p.1,p.2]
def seqD?:D->Option (List D)
 | .lst ds=>some ds
 | .tup ds=>some ds
 | _=>none
def LL(f g:FD):av->R (List D):=fun δ=>(f δ).bind fun d=>(g δ).bind fun e=>match seqD? d,seqD? e with | some ds,some es=> .ok (GU ds es) | _,_=> .no
theorem Rep.Kd{K:W.Frag}{B:List Addr}{d:D}{v:V}{ds:List D}(r:Rep K B H d v)(h:seqD? d=some ds):∃t a xs,v= .ref a/\(∀B' H',cZ B H B' H'->A9 t K H' a xs/\aC K B' H' ds xs):=by
 cases d with
 | lst es=>
   cases h;obtain⟨a,xs,rfl,l,rs⟩:=Rep.lst.mp r;exact⟨false,a,xs,rfl,fun B' H' p=>⟨(l.a0 p).sq,rs.a0 p⟩⟩
 | tup es=>
   cases h;obtain⟨a,xs,rfl,l,rs⟩:=Rep.tup.mp r;refine⟨true,a,xs,rfl,fun B' H' p=>⟨?_,rs.a0 p⟩⟩
   have l':uj K B' H' a xs:=l.elim (fun z=> .inl ⟨(p.rd z.2 z.1).2,(p.rd z.2 z.1).1⟩) .inr
   exact l'.sq
 | _=>cases h
def LY(T U:String)(f:FD):FD:=fun δ=>(f δ).bind fun d=>match d with | .dct _ _=> .no | _=> .ok (.bl (D8 (tyName d) T || D8 (tyName d) U))
def O5(lo:Int)(n:Nat):It:=⟨fun i _=>i < n,fun i H x H'=>H'=H/\x= .int (lo - i),fun i _=>n<=i⟩
def JP(lo:Int)(n:Nat):List D:=(List.range n).map fun(i:Nat)=>D.int (lo - i)
def Lb(f g h:FD):av->R (List D):=fun δ=>(f δ).bind fun d=>(g δ).bind fun e=>(h δ).bind fun k=>match d,e,k with
 | .int i, .int j, .int m=>R.a_ (decide (m= -1/\ -(2 ^ 60)<=i/\i < 2 ^ 60/\ -(2 ^ 60)<=j/\j < 2 ^ 60)) (.ok (JP i (i - j).toNat)) | _,_,_=> .no
def bls?:List D->Option (List Bool)
 | []=>some []
 | .bl b ::ds=>(bls? ds).map (b ::·)
 | _ ::_=>none
def Nh:List D->R D
 | [.lst ds]=>(match bls? ds with | some bs=> .ok (.bl (bs.all id)) | none=> .no)
 | _=> .no
def Nf:List D->R D
 | [.lst ds]=>(match bls? ds with | some bs=> .ok (.bl (bs.any id)) | none=> .no)
 | _=> .no
end
end L2
end
section
namespace L2
open PySem PySem.Spec PyProof.Rows
section
variable {X:Cx}
def IY:FS:=fun _=> .no
theorem vJ{st:Stmt}:AQ X st IY:=⟨fun pins s σ H D I ⟨Z,B,δ,o,E,hf,q⟩=>by cases hf⟩
def La(f:FD):FS:=fun δ=>(f δ).bind fun _=> .ok (.nx δ)
end
end L2
namespace L3
open PySem PySem.Spec PyProof.Rows L2
section
variable {X:Cx} {cl:P0}
def Jw:FZ:=fun _ _=> .no
theorem C9{st:Stmt}:PZ X cl st Jw:=⟨fun pins s σ H D I ⟨ρ,S,δ,o,S',E,hf,q⟩=>by cases hf⟩
def K6(f:av->R (List D)):FX:=fun δ S=>(R3.of (f (c0 S δ)) S).bind fun ds S=>R3.a_ (mZ ds) (.ok (.loc S.length) (S++[.lst ds]))
def Mw(i:Nat)(f:FX):FZ:=fun δ S=>match gE δ i with
 | none=> .no
 | some k=>match c6 S k with
   | none=> .no
   | some _=>(f δ S).bind fun v S1=>match v with
     | .d (.lst es)=>(match c6 S1 k with
       | some ds=>R3.a_ (decide (ds.length+es.length<=sizeLine)) (.ok (.nx δ) (S1.set k (.lst (ds++es))))
       | none=> .no)
     | _=> .no
theorem qO{f:FX}{δ:DE}{S:bw}{QO:Ou->bw->Prop}(h:W3 (f δ S) fun _ S1=>QO (.nx δ) S1):W3 (qa f δ S) QO:=W3.bind (h.mono fun _ _ h=>W3.ok h)
end
end L3
end
section
namespace L2
open PySem PySem.Spec PyProof.Rows
section
variable {X:Cx}
def KZ(d e:D):R D:=match d,e with
 | .tup a, .tup b=>R.a_ (decide (a.length+b.length<=sizeLine)) (.ok (.tup (a++b)))
 | d,e=>cf d e
theorem xU.or{F F1 F2:av->R (List D)}(h1:xU X tg e F1)(h2:xU X tg e F2)(h:∀δ ds,F δ= .ok ds->F1 δ= .ok ds\/F2 δ= .ok ds):xU X tg e F:=
 ⟨fun pins s σ H R I ⟨Z,B,δ,ds,E,hf,q⟩=>(h δ ds hf).elim (fun z=>h1.1 pins s σ H R I ⟨Z,B,δ,ds,E,z,q⟩) fun z=>h2.1 pins s σ H R I ⟨Z,B,δ,ds,E,z,q⟩⟩
def vq(f:FD):av->R (List D):=fun δ=>(f δ).bind fun d=>match d with | .lst ds=> .ok (cT ds) | .tup ds=> .ok (cT ds) | _=> .no
theorem u0{elts:List Expr}{k:Nat}{rZ:Pos}{p pos:Pos}(h:QD X a f)(hg:Gl X "enumerate")(hm:X.mg "enumerate"=none)(hs:starEach [a] X.env=[(false,eval a X.env)]:=by rfl):xU X (.Tuple elts k rZ) (.Call (.Name "enumerate" p) [a] [] pos) (vq f):=
 xU.or (F1:=eE f) (F2:=rf f) ⟨su h.1 hg hm hs⟩ (uN h hg hm hs) fun δ ds hf=>by
  obtain⟨d,h1,h2⟩:=R.ao hf;cases d with
  | lst es=>cases h2;exact .inl (by unfold eE;rw [h1];rfl)
  | tup es=>cases h2;exact .inr (by unfold rf;rw [h1];rfl)
  | _=>cases h2
def Pj(K:W.Frag)(a:Addr)(n:Nat):It:=
 ⟨fun i H=>∃xs x,lE K H a xs/\xs.length=n/\i < n/\xs[n - 1 - i]? =some x,fun i H v H'=>H'=H/\∀xs,lE K H a xs->xs[n - 1 - i]? =some v,fun i H=>(∃xs,lE K H a xs)/\i=n⟩
def Lc(f:FD):av->R (List D):=fun δ=>(f δ).bind fun d=>match d with | .lst ds=> .ok ds.reverse | _=> .no
def Nx(K:W.Frag)(C:Addr)(m qual:Str)(st:Stmt):Prop:=∃f fd,wb K m qual st f fd/\Meth K C m f
def Mp(K:W.Frag)(C:Addr)(m qual:Str)(st:Stmt):Prop:=∃f fd,wb K m qual st f fd/\Mk K C f
end
end L2
namespace L3
open PySem PySem.Spec PyProof.Rows L2
section
variable {X:Cx} {cl:P0}
end
end L3
end
section
namespace L2
open PySem PySem.Spec PyProof.Rows
section
variable {X:Cx}
def Cv(f:FD):av->R (List D):=fun δ=>(f δ).bind fun d=>match d with | .int j=>R.a_ (decide (-(2 ^ 62)<=j/\j < 16777216)) (.ok (il 0 j.toNat)) | _=> .no
theorem Cy{a:Expr}{f:FD}{p p2 pos pF:Pos}(hc:X.calm=true)(h:QD X a f)(hg:Gl X "list")(hm:X.mg "list"=none)(Gk:Gl X "range")(Kx:X.mg "range"=none)(hs:starEach [a] X.env=[(false,eval a X.env)]:=by rfl)
 (CU:starEach [.Call (.Name "range" p2) [a] [] pF] X.env=(false,eval (.Call (.Name "range" p2) [a] [] pF) X.env) ::starEach [] X.env:=by rfl) (kN:(backTo pos (starEach [] X.env)).any (·.1)=false:=by rfl) :
 QN X (.Call (.Name "list" p) [.Call (.Name "range" p2) [a] [] pF] [] pos) (Cv f):=by
 refine⟨?_⟩;intro pins s σ H Q I ⟨Z,B,δ,ds,E,hf,q⟩;obtain⟨d1,h1,h2⟩:=R.ao hf;have key:∃j:Int,d1= .int j/\ -(2 ^ 62)<=j/\j < 16777216/\ds=il 0 j.toNat:=by
  split at h2
  .obtain⟨h3,h4⟩:=R.bj h2;cases h4;have h3:=of_decide_eq_true h3;exact⟨_,rfl,h3.1,h3.2,rfl⟩
  .cases h2
 obtain⟨j,rfl,IL,Ky,rfl⟩:=key;refine wpAny_Call_Name_kw (jj I hg hm boot_list ?_ (by decide) (by decide))
 refine PyProof.Rows.callWith_type1 ?_ CU kN;rw[CU];show wpAny _ _ (spliced ((false,eval (.Call (.Name "range" p2) [a] [] pF) X.env) ::backTo pos (starEach [] X.env))) _ _ s;refine Calls.spliced_cons ?_;have hA:=et h.1 gO hs pF pins s σ H (fun vs H1=>aP H H1/\vs=[.int j]) I ⟨Z,B,δ, .int j,E,h1,fun v H1 s1 r1=>⟨s1,by rw[Rep.int.mp r1]⟩⟩
 refine Call_ (jj I Gk Kx boot_range (PyProof.Rows.callWith_type1 (dG hA fun us s1 ⟨vs,H1,I1,r1,ss,ev⟩=>?_) hs rfl))
 subst ev;obtain⟨u,rfl,ru⟩:=vals1 r1;obtain⟨t,rfl⟩:=ru;refine call_range_1 ?_;have I2:Inv X pins σ H1 {s1 with heap:=s1.heap.push {cls:= .type "range",data:= .fields #[.int 0 s1.toks, .int j t, .int 1 (s1.toks+1)]},toks:=s1.toks+1+1}:=I1.kept fun b o e=>Heap.get?_push_of_some _ e
 refine Calls.spliced_nil ?_;have hsz:Builtin.Range.rangeSize 0 j 1=(j.toNat:Nat):=by rw[rangeSize_one];split <;> omega
 have hz:sizeLine=16777216:=sizeLine_eq;refine call_list_range (n:=j.toNat) (I2.ok.hd hc) (IsRange.new ..) (small_one (by omega) (by omega) (by omega) (by omega)) hsz (by omega) fun h' tk acc c' hk FH F6=>?_
 have rv:=uw F6;have hle:((List.range j.toNat).map fun(i:Nat)=>V.int (0+(i:Int))).length<=sizeLine:=by rw[List.length_map,List.length_range];omega
 have hf':H1 (s1.heap.push {cls:= .type "range",data:= .fields #[.int 0 s1.toks, .int j t, .int 1 (s1.toks+1)]}).objs.size=none:=I2.hok.fresh (Nat.le_refl _);have I4:=I2.laid (o:= .lst ((List.range j.toNat).map fun(i:Nat)=>V.int (0+(i:Int)))) (h':=h') (t':=tk) hk (Nat.le_refl _) (show dF X.prog X.w _ _ _ (.lst _) from⟨hle,acc.toList,c',rv,by simpa using FH⟩)
 exact⟨.ref _,_,I4,rfl,q _ _ _ (ss.trans (aU hf')) (ss.free hf') aV (tU _)⟩
def Hz(f:FD):FD:=fun δ=>(f δ).bind fun d=>match d with | .lst ds=> .ok (.lst ds.reverse) | _=> .no
theorem aC.rev{K:W.Frag}{B:List Addr}:∀{ds:List D} {xs:List V},aC K B H ds xs->aC K B H ds.reverse xs.reverse
 | [],xs,r=>by unfold aC at r;subst r;exact aC.nil
 | d ::ds,xs,r=>by
   obtain⟨x,q,rfl,r1,r2⟩:=r.bW;rw[List.reverse_cons,List.reverse_cons];exact r2.rev.append (aC.cons r1 aC.nil)
theorem Vals.rev:∀{xs:List V} {us:List Value},Vals xs us->Vals xs.reverse us.reverse
 | [],us,r=>by cases r;exact .nil
 | x ::xs,us,r=>by
   cases r with
   | cons r t=>
     rw[List.reverse_cons,List.reverse_cons];exact(Vals.rev t).append (.cons r .nil)
theorem Cb{e step:Expr}(he:QD X e f)(CN:QP X (some step) (lH (Hd (eC (.int 1))))):QD X (.Subscript e (.Slice none none (some step) p2) pos) (Hz f):=by
 refine⟨?_⟩;intro pins s σ H Q I ⟨Z,B,δ,d,E,hf,q⟩;obtain⟨d1,h1,h2⟩:=R.ao hf;cases d1 with
 | lst es=>
   cases h2;refine Subscript_ (dG (he.1 pins s σ H (fun x H1=>aP H H1/\Rep X.K B H1 (.lst es) x) I ⟨Z,B,δ, .lst es,E,h1,fun v H1 s1 r1=>⟨s1,r1⟩⟩) fun v s1 ⟨x,H1,I1,r1,Kp,rr⟩=>?_)
   refine wpAny_Slice ?_;rw[evalPart_none];refine wpAny_pure ?_;refine wpAny_pure ?_;refine dG (CN.1 pins s1 σ H1 (fun o H2=>aP H1 H2/\o=some (-1)) I1 ⟨Z,B,δ,some (-1),E.same Kp,rfl,fun H2 s2=>⟨s2,rfl⟩⟩) fun vk s2 ⟨o,H2,I2,pk,Kz,eo⟩=>?_
   subst eo;obtain⟨a,xs,rfl,ls,rs⟩:=Rep.lst.mp (rr.same Kz);cases r1;have I3:Inv X pins σ H2 {s2 with heap:=s2.heap.push {cls:= .type "slice",data:= .fields #[.none, .none,vk]}}:=I2.kept (t':=s2.toks) fun b ob q=>Heap.get?_push_of_some _ q
   obtain⟨its,r,ht,hz⟩:=I3.list ls.sq;show wpAny (model X.prog X.w) X.A (subscriptTail e (.Slice none none (some step) p2) (.ref a) (.ref s2.heap.objs.size)) (EP X pins σ Q) X.xe {s2 with heap:=s2.heap.push {cls:= .type "slice",data:= .fields #[.none, .none,vk]}}
   refine tail_any (ops:=[.ref a, .ref s2.heap.objs.size]) ht.isList.typeIs slot_list_getitem.lookup ?_ (by with_unfolding_all rfl)
   have hlen:=r.length;refine wpAny_getItem_list_slice ht.isList (Heap.IsSliceOf.new ..) .none .none pk (by decide) ?_ (by rw[List.size_toArray] <;> omega)
   rw[PySem.W.krv_pick];have hp:H2 (s2.heap.push {cls:= .type "slice",data:= .fields #[.none, .none,vk]}).objs.size=none:=I3.hok.fresh (Nat.le_refl _);refine⟨.ref _,_,I3.laid (t':=s2.toks) (o:= .lst xs.reverse) (fun b ob q=>Heap.get?_push_of_some _ q) (Nat.le_refl _) ?_,rfl,q _ _ ((Kp.trans Kz).trans (aU hp)) (Rep.lst.mpr ⟨_,_,rfl, .oe aV fun ha=>?_,(rs.rev).same (aU hp)⟩)⟩
   .exact⟨by rw[List.length_reverse];exact hz,_,0,r.rev,Heap.get?_push_size _ rfl⟩
   .obtain⟨o,ho⟩:=(E.same (Kp.trans Kz)).bs _ ha;rw[hp] at ho;cases ho
 | _=>cases h2
end
end L2
end
section
namespace L2
open PySem PySem.Spec PyProof.Rows
section
variable {X:Cx}
def Oe(K:W.Frag)(n:Nat)(t:yk):TG:=fun v σ H Q=>∃a xs,v= .ref a/\lE K H a xs/\xs.length=n/\t xs σ H Q
end
end L2
namespace L3
open PySem PySem.Spec PyProof.Rows L2
section
variable {X:Cx} {cl:P0}
def Pc(n:Nat)(t:BE):FG:=fun d δ=>match d with
 | .d (.lst ds)=>if ds.length=n then t (ds.map .d) δ else none
 | .lst vs=>if vs.length=n then t vs δ else none
 | _=>none
def Nr(f g:FX):FA:=fun δ S=>(bB f (bB g jg) δ S).bind fun vs S1=>match vs with
 | [.d d, .d e]=>(match seqD? d,seqD? e with | some ds,some es=> .ok ((GU ds es).map .d) S1 | _,_=> .no)
 | _=> .no
def yC(S:bw):Prop:=∀o∈S,xM S.length o=true
theorem Flat.HD{S:bw}(h:Flat S):yC S:=fun o ho=>h o ho _
theorem GL{N:List Str}{vs:List V3}{S:bw}{QV:V3->bw->Prop}(h:W3 (pG N F vs S) fun v S1=>(∀o∈S1.take S.length,xM S.length o=true)/\jS S.length v=true/\∃d,res S1 v=some d/\QV (.d d) (S1.take S.length)):W3 (rh N F vs S) QV:=
 W3.bind (h.mono fun v S1 ⟨hl,hg,d,e,q⟩=>by
  rw[e];exact W3.wh (by rw[List.all_eq_true.mpr hl,hg];rfl) (W3.ok q))
theorem j3{N:List Str}{vs:List V3}{S:bw}{QV:V3->bw->Prop}(hS:yC S)(h:W3 (pG N F vs S) fun v S1=>jS S.length v=true/\(∃T,S1=S++T)/\∃d,res S1 v=some d/\QV (.d d) S):W3 (rh N F vs S) QV:=
 GL (h.mono fun v S1 ⟨hg,⟨T,e1⟩,d,e,q⟩=>by
  subst e1;rw[List.take_append_of_le_length (Nat.le_refl _),List.take_length];exact⟨hS,hg,d,e,q⟩)
end
end L3
end
section
namespace L2
open PySem PySem.Spec PyProof.Rows
section
variable {X:Cx}
def ois?:List D->Option (List (Option Int))
 | []=>some []
 | .int i ::ds=>(ois? ds).map (some i ::·)
 | .cL ::ds=>(ois? ds).map (none ::·)
 | _ ::_=>none
def O_:Option Int->V | some i=> .int i | none=> .cL
def NM(d e:D):R Bool:=match d,e with
 | .cL, .lst ds=>(match ois? ds with | some ss=> .ok (ss.any (·.isNone)) | none=> .no)
 | _,_=> .no
def NA(d e:D):R D:=(NM d e).bind fun b=> .ok (.bl b)
end
end L2
end
section
namespace L2
open PySem PySem.Spec PyProof.Rows
section
variable {X:Cx}
def Jo(d:D)(ds:List D):R D:=match d,ds with
 | .lst es,[.int k]=>(match ints? es with | some ss=> .ok (.int (ss.count k:Nat)) | none=> .no)
 | _,_=> .no
end
end L2
end
section
namespace L2
open PySem PySem.Spec PyProof.Rows
section
variable {X:Cx}
abbrev Ce:D->D->R D:=yR (fun i j=>decide (0<=j/\j < 1000/\ -1000 < i/\i < 1000)) fun i j=>i*2 ^ j.toNat
theorem Hr:jR X (binaryOp .LShift) Ce:=sE DV fun i j h=>by
 have:=of_decide_eq_true h;exact⟨this.1,by omega,by omega⟩
def K_(d e:D):R D:=match d,e with | .bl a, .bl b=> .ok (.bl (a !=b)) | _,_=> .no
end
end L2
namespace L3
open PySem PySem.Spec PyProof.Rows L2
section
variable {X:Cx} {cl:P0}
def Ls(fo f:FX):FZ:=fun δ S=>(fo δ S).bind fun o S0=>match o with
 | .loc k=>(match c6 S0 k with
   | none=> .no
   | some _=>(f δ S0).bind fun v S1=>match v with
     | .d d=>(match c6 S1 k with | some ds=>R3.a_ (decide (ds.length < sizeLine)) (.ok (.nx δ) (S1.set k (.lst (ds++[d])))) | none=> .no)
     | _=> .no)
 | _=> .no
def Ll(f:FX):FA:=fun δ S=>(bB f jg δ S).bind fun vs S1=>match vs with
 | [.d (.lst ds)]=> .ok ((cT ds).map .d) S1
 | _=> .no
end
end L3
end
section
namespace L2
open PySem PySem.Spec PyProof.Rows
section
variable {X:Cx}
end
end L2
end
section
namespace L3
open PySem PySem.Spec PyProof.Rows L2
section
variable {cl:P0}
def JO(it:FA)(t:FG)(c:FB)(f:FX)(own:List Str)(kp:List Nat):FX:=fun δ S=>(it δ S).bind fun vs S1=>R3.a_ (decide (vs.length<=sizeLine)) ((ku t c f (k4 own kp δ) vs S1).bind fun ys S2=>match ny ys with | some ds=> .ok (.loc S2.length) (S2++[.lst ds]) | none=> .no)
end
section
variable {X:Cx} {cl:P0}
end
end L3
end
section
namespace L3
open PySem PySem.Spec PyProof.Rows L2
section
variable {X:Cx} {cl:P0}
def IW(g:List D->R D)(fs:FA):FX:=fun δ S=>(fs δ S).bind fun vs S1=>match ux S1 vs with
 | some ds=>(R3.of (g ds) S1).bind fun d S=>R3.a_ (pN d) (.ok (.d d) S)
 | none=> .no
end
end L3
end
section
namespace L2
open PySem PySem.Spec PyProof.Rows
section
variable {X:Cx}
def MQ(f:FD):FD:=fun δ=>(f δ).bind fun d=>match d with | .int i=> .ok (.int (-i - 1)) | _=> .no
def Mr(d:D)(lo hi:Option Int):R D:=match d with
 | .tup ds=>R.a_ (decide (¬(HT.nF ds.length 0 lo=0/\HT.nF ds.length ds.length hi=ds.length))) (.ok (.tup (cutD ds lo hi)))
 | _=> .no
def Nq(f:FD)(fl fh:FO):FD:=fun δ=>(f δ).bind fun d=>(fl δ).bind fun lo=>(fh δ).bind fun hi=>Mr d lo hi
end
end L2
namespace L3
open PySem PySem.Spec PyProof.Rows L2
section
variable {X:Cx} {cl:P0}
structure OR (X:Cx) (cl:P0) (st:List Stmt) (F:FZ):Prop where
 go:sf X st (fun D σ H=>D.ct=D.nx/\sX X.K cl F D σ H)
end
end L3
end
section
namespace L2
open PySem PySem.Spec PyProof.Rows
end L2
namespace L3
open PySem PySem.Spec PyProof.Rows L2
section
variable {X:Cx} {cl:P0}
def MS(i:Nat)(f:FX):FX:=fun δ S=>match gE δ i with
 | none=> .no
 | some k=>match c6 S k with
   | none=> .no
   | some _=>(f δ S).bind fun v S1=>match v with
     | .d (.int j)=>(match c6 S1 k with
       | some ds=>(match ze ds.length j with
         | some p=>(match ds[p]? with | some d=>R3.a_ (decide (-(2 ^ 63)<=j/\j < 2 ^ 63)) (.ok (.d d) (S1.set k (.lst (ds.eraseIdx p)))) | none=> .no)
         | none=> .no)
       | none=> .no)
     | _=> .no
end
end L3
end
section
namespace L3
open PySem PySem.Spec PyProof.Rows L2
section
variable {X:Cx} {cl:P0}
def NW(f:FX)(fl fh:Gd):FX:=fun δ S=>(f δ S).bind fun v S1=>(fl δ S1).bind fun lo S2=>(fh δ S2).bind fun hi S3=>match v with
 | .lst vs=> .ok (.lst (L2.cutD vs lo hi)) S3
 | _=> .no
end
end L3
end
section
namespace L2
open PySem PySem.Spec PyProof.Rows
section
variable {X:Cx}
def JV:List V->Hp->VK->Prop:=fun xs H Q=>∃a kvs ns,xs=[V.ref a]/\H a=some (.dK kvs)/\kvs.map (·.1)=ns.map Sum.inl/\ns.length < 64/\∀p,H p=none->Q (.ref p) (upd H p (.lst ((yy ns).map V.int)))
end
end L2
end
section
namespace L3
open PySem PySem.Spec PyProof.Rows L2
section
variable {X:Cx} {cl:P0}
def nD(kvs:List (Key × D))(k:Key)(d:D):List (Key × D):=if(kvs.any fun kv=>decide (kv.1=k))=true then kvs.map (fun kv=>if kv.1=k then(kv.1,d) else kv) else kvs++[(k,d)]
def lV(S:bw)(k:Nat):Option (List (Key × D)):=match S[k]? with | some (.dct kvs)=>some kvs | _=>none
theorem oM{S:bw}{k:Nat}{kvs:List (Key × D)}(h:lV S k=some kvs):S[k]? =some (.dct kvs):=by
 unfold lV at h;split at h
 .rename_i e;cases h;exact e
 .cases h
theorem wz{α β:Type}(k:Key):∀{a:List (Key × α)} {b:List (Key × β)},a.map (·.1)=b.map (·.1)->(a.any fun kv=>decide (kv.1=k))=b.any fun kv=>decide (kv.1=k)
 | [],[],_=>rfl
 | [],_ ::_,h=>by simp at h
 | _ ::_,[],h=>by simp at h
 | x ::a,y ::b,h=>by
   rw[List.map_cons,List.map_cons] at h;obtain⟨h1,h2⟩:=List.cons.inj h;rw[List.any_cons,List.any_cons,wz k h2,h1]
theorem vO{K:W.Frag}{B:List Addr}{k:Key}{d:D}{v:V}(rv:Rep K B H d v):∀{kvs:List (Key × D)} {ys:List (Key × V)},ys.map (·.1)=kvs.map (·.1)->aC K B H (kvs.map (·.2)) (ys.map (·.2))->
 (ys.map fun kv=>if kv.1=k then(kv.1,v) else kv).map (·.1)=(kvs.map fun kv=>if kv.1=k then(kv.1,d) else kv).map (·.1)/\aC K B H ((kvs.map fun kv=>if kv.1=k then(kv.1,d) else kv).map (·.2)) ((ys.map fun kv=>if kv.1=k then(kv.1,v) else kv).map (·.2))
 | [],[],_,_=>⟨rfl,aC.nil⟩
 | [],_ ::_,h,_=>by simp at h
 | _ ::_,[],h,_=>by simp at h
 | (k1,d1) ::kvs,(k2,v2) ::ys,h,r=>by
   obtain⟨h1,h2⟩:=List.cons.inj h;have h1:k2=k1:=h1;subst h1;obtain⟨x,r',e,q1,q2⟩:=aC.bW r;cases e;obtain⟨i1,i2⟩:=vO rv h2 q2;simp only[List.map_cons];by_cases hk:k2=k
   .rw [if_pos hk,if_pos hk];exact⟨by rw[i1],aC.cons rv i2⟩
   .rw [if_neg hk,if_neg hk];exact⟨by rw[i1],aC.cons q1 i2⟩
theorem CZ{K:W.Frag}{B:List Addr}{k:Key}{d:D}{v:V}(rv:Rep K B H d v){kvs:List (Key × D)}{ys:List (Key × V)}(h:ys.map (·.1)=kvs.map (·.1))(r:aC K B H (kvs.map (·.2)) (ys.map (·.2))) :
 (putK ys k v).map (·.1)=(nD kvs k d).map (·.1)/\aC K B H ((nD kvs k d).map (·.2)) ((putK ys k v).map (·.2)):=by
 unfold putK nD;rw[wz k h];split
 .exact vO rv h r
 .rw [List.map_append,List.map_append,List.map_append,List.map_append,h];exact⟨rfl,r.append (aC.cons rv aC.nil)⟩
def wo:FX:=fun δ S=> .ok (.loc S.length) (S++[.dct []])
theorem wc:PX X cl (.Dict [] [] pos) wo:=⟨Af.imp fun σ H Q ⟨ρ,S,δ,v,S',E,hf,q⟩=>by
 cases hf;intro p hp;obtain⟨w,pr⟩:=E.sw.new (a:=p) (o:= .dct []) (aU (o:= .dK []) hp) hp ⟨[],aV,rfl,aC.nil⟩;exact q _ _ _ pr w (by unfold bE;exact⟨p,by show(ρ.r++[p])[_]? =_;rw [<-E.sw.len,List.getElem?_append_right (by omega),Nat.sub_self];rfl,rfl⟩)⟩
def K0(fo fi fe:FX):FZ:=fun δ S=>(fe δ S).bind fun v S1=>(fo δ S1).bind fun o S2=>(fi δ S2).bind fun j S3=>match v,o,j with
 | .d d, .loc k, .d (.int n)=>(match lV S3 k with | some kvs=>R3.a_ (decide (kvs.length < sizeLine)) (.ok (.nx δ) (S3.set k (.dct (nD kvs (Sum.inl n) d)))) | none=> .no)
 | _,_,_=> .no
def Mz(fa fo:FX):FX:=fun δ S=>(fa δ S).bind fun j S1=>(fo δ S1).bind fun o S2=>match j,o with
 | .d (.int n), .loc k=>(match lV S2 k with | some kvs=> .ok (.d (.bl (kvs.any fun kv=>decide (kv.1=Sum.inl n)))) S2 | none=> .no)
 | _,_=> .no
def intK?:List Key->Option (List Int)
 | []=>some []
 | .inl n ::ks=>(intK? ks).map (n ::·)
 | .inr _ ::_=>none
def JJ(f:FX):FX:=fun δ S=>(f δ S).bind fun o S1=>match o with
 | .loc k=>(match lV S1 k with
   | some kvs=>(match intK? (kvs.map (·.1)) with | some ns=>R3.a_ (decide (ns.length < 64)) (.ok (.d (.lst ((yy ns).map .int))) S1) | none=> .no)
   | none=> .no)
 | _=> .no
theorem Ag{δ:DE}{S:bw}{QV:V3->bw->Prop}(h:QV (.loc S.length) (S++[.dct []])):W3 (wo δ S) QV:=W3.ok h
end
end L3
end
section
namespace L2
open PySem PySem.Spec PyProof.Rows
section
variable {X:Cx}
def IB:V->List V->Hp->VK->Prop:=fun x vs H Q=>∃(l:Addr) (xs:List V) (j:Int) (i:Nat) (y:V),x= .ref l/\vs=[.int j,y]/\H l=some (.lst xs)/\j=i/\i<=xs.length/\xs.length < sizeLine/\Q .cL (upd H l (.lst (xs.take i++y ::xs.drop i)))
end
end L2
namespace L3
open PySem PySem.Spec PyProof.Rows L2
section
variable {X:Cx} {cl:P0}
def M4(i:Nat)(f g:FX):FZ:=fun δ S=>match gE δ i with
 | none=> .no
 | some k=>match c6 S k with
   | none=> .no
   | some _=>(f δ S).bind fun v S1=>match v with
     | .d (.int j)=>(g δ S1).bind fun w S2=>(match w with
       | .d d=>(match c6 S2 k with
         | some ds=>R3.a_ (decide (0<=j/\j.toNat<=ds.length/\ds.length < sizeLine)) (.ok (.nx δ) (S2.set k (.lst (ds.take j.toNat++d ::ds.drop j.toNat))))
         | none=> .no)
       | _=> .no)
     | _=> .no
end
end L3
end
section
namespace L3
open PySem PySem.Spec PyProof.Rows L2
section
variable {X:Cx} {cl:P0}
structure Pk (X:Cx) (pos:Pos) (keys:List (Option Expr)) (values:List Expr) (ks:List Str) (g:av->R (List D)):Prop where
 h:∃qH,EI X pos keys values qH/\∀(σ:L2.St) (H:Hp) (Q:List (V × V)->Hp->Prop),(∃Z B δ ds,dh X.K Z B H σ δ/\g δ= .ok ds/\∀vs H',aP H H'->aC X.K B H' ds vs->Q ((ks.zip vs).map fun p=>(V.str p.1,p.2)) H')->mF qH σ H Q
def Fe(ks:List Str)(ns:List Int):List (Key × D):=(ks.zip ns).foldl (fun acc p=>nD acc (Sum.inr p.1) (.int p.2)) []
def J3(ks:List Str)(g:av->R (List D)):FX:=fun δ S=>(R3.of (g (down δ)) S).bind fun ds S=>match ints? ds with
 | some ns=>R3.a_ (decide (ns.length=ks.length/\ks.length<=15)) (.ok (.loc S.length) (S++[.dct (Fe ks ns)]))
 | none=> .no
def Jd(kvs:List (Key × D))(k:Key):Option D:=(kvs.find? fun kv=>decide (kv.1=k)).map (·.2)
def K2(i:Nat)(f g:FD):FX:=fun δ S=>match gE δ i with
 | none=> .no
 | some k=>match lV S k with
   | none=> .no
   | some kvs=>(R3.of (f (down δ)) S).bind fun kd S=>(R3.of (g (down δ)) S).bind fun d S=>match kd with
     | .str x=> .ok (.d ((Jd kvs (Sum.inr x)).getD d)) S
     | _=> .no
end
end L3
end
section
namespace L2
open PySem PySem.Spec PyProof.Rows
section
variable {X:Cx}
def mY:List D->R D
 | [.tup ds]=>(match ints? ds with | some ns=> .ok (.int ns.sum) | none=> .no)
 | ds=>Ex ds
theorem oz(hc:X.calm=true):cv X (.builtin "sum") mY:=by
 intro pins s σ H B ds d xs us I hb rx rs hg;unfold mY at hg;split at hg
 .split at hg
  .rename_i es ns e;cases hg;obtain⟨x,rfl,r⟩:=rs.one;obtain⟨a,ys,rfl,l,r⟩:=Rep.tup.mp r;obtain⟨u,rfl,ru⟩:=vals1 rx;cases ru;obtain⟨its,rv,ht,hz⟩:=I.tuple l.sq;rw[dU r e] at rv;obtain⟨ps,rfl,rfl⟩:=d4 rv;have hl:s.heap.IsTuple a (intItems ps.toArray):=by
    have ht:s.heap.IsTuple a (ps.map fun p=>Value.int p.1 p.2).toArray:=ht
    simpa [intItems] using ht
   refine PySem.W.ktm_sumG (I.ok.hd hc) hl fun h' tk t' k=>⟨.int _,H,I.kept k,⟨t',rfl⟩,aP.refl H,Rep.int.mpr ?_⟩
   rw[preSum_eq,List.take_of_length_le (by simp)]
  .cases hg
 .exact Hu hc pins s σ H B ds d xs us I hb rx rs hg
end
end L2
end
section
namespace L2
open PySem PySem.Spec PyProof.Rows
section
variable {X:Cx}
def K3(d e:D):R D:=match d,e with
 | .tup a, .int k=>R.a_ (decide (2<=k/\k < 1000/\a≠[]/\a.length*k.toNat<=sizeLine)) (.ok (.tup (List.replicate k.toNat a).flatten))
 | d,e=>kl d e
end
end L2
end
section
namespace HT
open PySem PySem.Spec PyProof.Rows
section
variable {prog:Program} {w:World} {A:Around} {E:PQ} {s:Shared}
end
end HT
namespace L2
open PySem PySem.Spec PyProof.Rows
def uq:D->Option Key
 | .int n=>some (Sum.inl n)
 | .str x=>some (Sum.inr x)
 | _=>none
theorem jV{K:W.Frag}{B:List Addr}{d:D}{k:Key}{v:V}(h:uq d=some k)(r:Rep K B H d v):v=kV k:=by
 cases d with
 | int n=>cases h;exact Rep.int.mp r
 | str x=>cases h;exact Rep.str.mp r
 | cL=>cases h
 | bl b=>cases h
 | lst ds=>cases h
 | tup ds=>cases h
 | dct ks ds=>cases h
def kK(ks:List Key)(k:Key):Bool:=ks.any fun x=>decide (x=k)
def Am(ks:List Key)(ds:List D)(k:Key):Option D:=((ks.zip ds).find? fun p=>decide (p.1=k)).map (·.2)
theorem vF(kvs:List (Key × V))(k:Key):(ij kvs k).isSome=kK (kvs.map (·.1)) k:=by
 unfold ij kK;rw[Option.isSome_map,Bool.eq_iff_iff,List.find?_isSome,List.any_eq_true];constructor
 .rintro⟨x,h1,h2⟩;exact⟨x.1,List.mem_map_of_mem h1,h2⟩
 .rintro⟨x,h1,h2⟩;obtain⟨y,y1,rfl⟩:=List.mem_map.mp h1;exact⟨y,y1,h2⟩
def sF(a b:D):R D:=match b with
 | .dct ks _=>(match uq a with | some k=> .ok (.bl (kK ks k)) | none=> .no)
 | _=> .no
def Bz(a b:D):R D:=match b with
 | .dct ks _=>(match uq a with | some k=> .ok (.bl (!kK ks k)) | none=> .no)
 | _=> .no
def tS(d k:D):R D:=match d with
 | .dct ks ds=>(match uq k with | some k=>(match Am ks ds k with | some x=> .ok x | none=> .no) | none=> .no)
 | _=> .no
section
variable {X:Cx}
theorem vz(hu:X.A.units+1 < cLine):jR X (compareOp .In) sF:=by
 intro pins s σ H B da db d x y v u I hb rx ry ra rb hg;unfold sF at hg;split at hg
 .split at hg
  .rename_i ks ds k hk;cases hg;unfold Rep at rb;obtain⟨a,kvs,rfl,⟨_,hH⟩,rfl,rs⟩:=rb;have:=jV hk ra;subst this;obtain rfl:u=Value.ref a:=ry;refine J1 hu I (jX.k (k:=k) hH) rx fun s3 I3=>⟨.bl (kK (kvs.map (·.1)) k),H,I3,?_,aP.refl H,Rep.bl.mpr rfl⟩
   rw[vF];rfl
  .cases hg
 .cases hg
theorem GK(hu:X.A.units+1 < cLine):jR X (compareOp .NotIn) Bz:=by
 intro pins s σ H B da db d x y v u I hb rx ry ra rb hg;unfold Bz at hg;split at hg
 .split at hg
  .rename_i ks ds k hk;cases hg;unfold Rep at rb;obtain⟨a,kvs,rfl,⟨_,hH⟩,rfl,rs⟩:=rb;have:=jV hk ra;subst this;obtain rfl:u=Value.ref a:=ry;refine Cc hu I (jX.k (k:=k) hH) rx fun s3 I3=>⟨.bl (!kK (kvs.map (·.1)) k),H,I3,?_,aP.refl H,Rep.bl.mpr rfl⟩
   rw[vF];rfl
  .cases hg
 .cases hg
theorem qx(hu:X.A.units+1 < cLine)(ho:QD X o f)(hi:QD X i g)(hs:Fq i):QD X (.Subscript o i pos) (e2 tS f g):=by
 refine⟨(Ct hu ho.1 hi.1 hs).imp fun σ H Q ⟨Z,B,δ,d,E,hf,q⟩=>?_⟩
 obtain⟨d1,h1,h2⟩:=R.ao hf;obtain⟨d2,h3,h4⟩:=R.ao h2;refine⟨Z,B,δ,d1,E,h1,fun v1 H1 s1 r1=>⟨Z,B,δ,d2,E.same s1,h3,fun v2 H2 s2 r2=>?_⟩⟩
 unfold tS at h4;split at h4
 .split at h4
  .rename_i ks ds k hk;split at h4
   .rename_i x e;cases h4;have vo:=r1.same s2;unfold Rep at vo;obtain⟨a,kvs,rfl,⟨_,hH⟩,rfl,rs⟩:=vo;unfold Am at e;obtain⟨p,e1,e2⟩:=L3.eQ e;obtain⟨y,ey,ry⟩:=mQ rs e1;have ry:Rep X.K B H2 _ y:=e2▸ry;refine⟨a,y,rfl,?_,q _ H2 (s1.trans s2) ry⟩;rw[jV hk r2,<-ey];exact jX.k (k:=k) hH
   .cases h4
  .cases h4
 .cases h4
def K4(f:FD):FD:=fun δ=>(f δ).bind fun d=>match d with | .tup ds=> .ok (.tup ds.reverse) | _=> .no
theorem rD(l:Addr)(items:Array Value)(n:Nat)(b:Addr)(gT:Array Value)(n2:Nat)(o:Obj)(FU:o.cls= .type "tuple")(Kn:o.data= .seq gT n2)(OC:¬(!items.isEmpty && Builtin.List.listTooLong (items.size+gT.size))=true)(Gq:items.size<=sizeLine)(CU:items.size+gT.size<=sizeLine+1) :
 Meets (Builtin.«list.extend» ⟨[.ref l, .ref b],[]⟩) (fun _ R s=>s.heap.get? l=some {cls:= .type "list",dict:=none,data:= .seq items n,slots:=#[]}/\s.heap.get? b=some o/\R (.ok (.ret Value.none)) {s with heap:=s.heap.update l (Obj.mapSeq fun x=>x++gT),toks:=s.toks}):=
 .of_wp fun prog w A R s h=>by
   obtain⟨cls,dct,data,slots⟩:=o;subst FU Kn;obtain⟨hp,g,d,tk,os⟩:=s;obtain⟨hl,hb,h⟩:=h;have f1:=AutoSeq1.idx_int;have f2:=AutoSeq1.sub_tuple_tuple;have f3:=AutoSeq1.sub_list_list;have f4:=AutoSeq1.sub_tuple_list;have f5:=AutoSeq1.sub_list_tuple;have hz':(items++gT).size<=sizeLine+1:=by rw[Array.size_append];exact CU
   wp_walk using(wpAny_updateSeq hl rfl (hz:=Gq) (_hz':=hz')),AutoSeq1.wpAny_loadPart' hl,AutoSeq1.wpAny_loadPart' hb;exact⟨_,rfl,h⟩
theorem extend_list(l:Addr)(items:Array Value)(n:Nat)(b:Addr)(gT:Array Value)(n2:Nat)(o:Obj)(FU:o.cls= .type "list")(Kn:o.data= .seq gT n2)(OC:¬(!items.isEmpty && Builtin.List.listTooLong (items.size+gT.size))=true)(Gq:items.size<=sizeLine)(CU:items.size+gT.size<=sizeLine+1) :
 Meets (Builtin.«list.extend» ⟨[.ref l, .ref b],[]⟩) (fun _ R s=>s.heap.get? l=some {cls:= .type "list",dict:=none,data:= .seq items n,slots:=#[]}/\s.heap.get? b=some o/\R (.ok (.ret Value.none)) {s with heap:=s.heap.update l (Obj.mapSeq fun x=>x++gT),toks:=s.toks}):=
 .of_wp fun prog w A R s h=>by
   obtain⟨cls,dct,data,slots⟩:=o;subst FU Kn;obtain⟨hp,g,d,tk,os⟩:=s;obtain⟨hl,hb,h⟩:=h;have f1:=AutoSeq1.idx_int;have f2:=AutoSeq1.sub_tuple_tuple;have f3:=AutoSeq1.sub_list_list;have f4:=AutoSeq1.sub_tuple_list;have f5:=AutoSeq1.sub_list_tuple;have hz':(items++gT).size<=sizeLine+1:=by rw[Array.size_append];exact CU
   wp_walk using(wpAny_updateSeq hl rfl (hz:=Gq) (_hz':=hz')),AutoSeq1.wpAny_loadPart' hl,AutoSeq1.wpAny_loadPart' hb;exact⟨_,rfl,h⟩
theorem vb:JS X "list.extend" (fun x vs H Q=>∃l b xs zs,x= .ref l/\vs=[.ref b]/\H l=some (.lst xs)/\(∃t,A9 t X.K H b zs)/\xs.length+zs.length<=sizeLine/\Q .cL (upd H l (.lst (xs++zs)))):=by
 intro pins s σ H x vs v us Q I rx rv h;obtain⟨l,b,xs,zs,rfl,rfl,hH,⟨t,hB⟩,hz,q⟩:=h;cases rx;obtain⟨u,rfl,ru⟩:=rv.one;cases ru;obtain⟨z,its,n,r,hl,e⟩:=I.yj hH;obtain⟨kO,r2,e2⟩:=I.Kd hB;have Gj:=r2.length;have hsz:its.toArray.size+kO.toArray.size<=sizeLine:=by rw[List.size_toArray,List.size_toArray];omega
 have hlong:¬(!its.toArray.isEmpty && Builtin.List.listTooLong (its.toArray.size+kO.toArray.size))=true:=by
  rw[nV hsz,Bool.and_false];exact Bool.false_ne_true
 cases t with
 | true=>
   obtain⟨o,o1,o2,n2,o3⟩:=(show s.heap.IsTuple b kO.toArray from e2)
   refine call_meets F.slot_list_extend ⟨_,e,rfl⟩ F.entry_list_extend (F.args_list_extend_2 _ _)
    (rD l its.toArray n b kO.toArray n2 o o2 o3 hlong (by rw[List.size_toArray];omega) (by omega)) ⟨e,o1,?_⟩
   refine⟨.cL,_,I.BK (its':=its++kO) hH e (by simp) (r.append r2) ?_,rfl,q⟩
   rw[List.length_append];omega
 | false=>
   obtain⟨o,o1,o2,n2,o3⟩:=(show s.heap.IsList b kO.toArray from e2)
   refine call_meets F.slot_list_extend ⟨_,e,rfl⟩ F.entry_list_extend (F.args_list_extend_2 _ _)
    (extend_list l its.toArray n b kO.toArray n2 o o2 o3 hlong (by rw[List.size_toArray];omega) (by omega)) ⟨e,o1,?_⟩
   refine⟨.cL,_,I.BK (its':=its++kO) hH e (by simp) (r.append r2) ?_,rfl,q⟩
   rw[List.length_append];omega
def qc(i:Nat)(f:FD):FS:=fun δ=>(f δ).bind fun d=>match seqD? d with
 | some es=>(nQ δ i).bind fun ds=>R.a_ (decide (ds.length+es.length<=sizeLine)) (.ok (.nx (δ.set i (.bld (ds++es)))))
 | none=> .no
theorem mv{i:Nat}{x:Str}{e:Expr}{f:FD}{gW apos cw pos:Pos}(hN:X.N[i]? =some x)(hv:Cq X.env.scope x)(he:QD X e f)
 (hd:(x==("__debug__":Str))=false:=by decide) (pE:(x==("__classdict__":Str))=false:=by decide)
 (hs:starEach [e] X.env=(false,eval e X.env) ::starEach [] X.env:=by rfl) (me:(apos.endLine==cw.line)=true:=by rfl)
 (rY:((backTo cw (starEach [e] X.env)).all (fun x=>!x.1) && (backToKw cw (keywordEach [] X.env)).all (fun x=>x.1.isSome)
   && decide (([e]:List Expr).length+([]:List Keyword).length+(if([]:List Keyword).isEmpty then 0 else 1) < 30))=true:=by rfl)
 (x_:swapsWith (.Call (.Attribute (.Name x gW) "extend" apos) [e] [] cw) none pos.line X.env=pure false:=by rfl)
 (md:attributeBase (.Name x gW) "extend" X.env (eval (.Name x gW) X.env)=eval (.Name x gW) X.env:=by rfl) :
 AQ X (.Expr (.Call (.Attribute (.Name x gW) "extend" apos) [e] [] cw) pos) (qc i f):=by
 refine⟨(nM (zT (X:=X) PySem.F.plainAttrs_list PySem.F.slot_list_extend PySem.F.type_list_extend vb (oi hN hv hd pE) (et he.1 gO hs) md rY me hs) x_).imp fun D σ H ⟨Z,B,δ,o,E,hf,q⟩=>?_⟩
 obtain⟨d,h1,h2⟩:=R.ao hf;split at h2
 .rename_i es he;obtain⟨ds,h3,h4⟩:=R.ao h2;obtain⟨hl,h5⟩:=R.bj h4;cases h5;have hb:=tW h3;obtain⟨a,xs,q1,q2,q3,q4,q5⟩:=E.bld i ds hb;refine⟨.ref a,q1, .inl ⟨rfl,xs,lE.of q4⟩,⟨Z,B,δ,d,E,h1,fun v H1 s1 r1=>?_⟩⟩
  have E1:=E.same s1;obtain⟨t,b,ys,rfl,k1⟩:=r1.Kd he;obtain⟨l,r'⟩:=k1 B H1 (cZ.refl B H1);refine⟨a,b,xs,ys,rfl,rfl,s1 a _ q4,⟨_,l⟩,by rw[<-q5.length,<-r'.length];exact of_decide_eq_true hl,?_⟩
  obtain⟨E2,p2⟩:=E1.grow (es:=ds++es) (ys:=xs++ys) hb q1 q2 (s1 a _ q4) ((q5.same s1).append r');exact q σ B _ ((Ev.same E.zb s1).trans (Ev.grow E.zb q3 p2)) E2
 .cases h2
theorem sj{lo:Int}{n:Nat}{acc:Array Value}(h:ItemsOf (fun i v=>∃t,v=Value.int (lo+(i:Int)*1) t) acc n):Vals ((List.range n).map fun(i:Nat)=>V.int (lo+(i:Int))) acc.toList:=by
 obtain⟨hl,h⟩:=h;have gen:∀(l:List Value) (m:Nat),(∀j v,l[j]? =some v->∃t,v=Value.int (lo+((m+j:Nat):Int)) t)->Vals ((List.range' m l.length).map fun(i:Nat)=>V.int (lo+(i:Int))) l:=by
  intro l
  induction l with
  | nil=>intro m _;exact .nil
  | cons v l ih=>
    intro m hm;rw[List.length_cons,List.range'_succ,List.map_cons];obtain⟨t,ht⟩:=hm 0 v rfl;refine .cons ⟨t,by rw[ht];simp⟩ (ih (m+1) fun j w hw=>?_)
    obtain⟨t,ht⟩:=hm (j+1) w (by simpa using hw)
    exact⟨t,by rw[ht];congr 2;omega⟩
 have:=gen acc.toList 0 fun j v hv=>by
  obtain⟨t,ht⟩:=h j v (by simpa using hv)
  exact⟨t,by rw[ht];simp⟩
 rw[Array.length_toList,hl] at this;rw[List.range_eq_range'];exact this
theorem pZ{K:W.Frag}{B:List Addr}{lo:Int}:∀l:List Nat,aC K B H (l.map fun(i:Nat)=>D.int (lo+(i:Int))) (l.map fun(i:Nat)=>V.int (lo+(i:Int)))
 | []=>aC.nil
 | i ::l=>aC.cons (Rep.int.mpr rfl) (pZ l)
def ue(f g:FD):av->R (List D):=fun δ=>(f δ).bind fun d=>(g δ).bind fun e=>match d,e with
 | .int i, .int j=>R.a_ (decide (-(2 ^ 62)<=i/\i < 2 ^ 62/\ -(2 ^ 62)<=j/\j < 2 ^ 62/\j - i < 16777216)) (.ok (il i (j - i).toNat))
 | _,_=> .no
theorem tH{a b:Expr}{f g:FD}{p p2 pos pF:Pos}(hc:X.calm=true)(h:QD X a f)(h':QD X b g)(hg:Gl X "list")(hm:X.mg "list"=none)(Gk:Gl X "range")(Kx:X.mg "range"=none)(hs:starEach [a,b] X.env=(false,eval a X.env) ::starEach [b] X.env:=by rfl)(Gq:starEach [b] X.env=[(false,eval b X.env)]:=by rfl)
 (CU:starEach [.Call (.Name "range" p2) [a,b] [] pF] X.env=(false,eval (.Call (.Name "range" p2) [a,b] [] pF) X.env) ::starEach [] X.env:=by rfl) (kN:(backTo pos (starEach [] X.env)).any (·.1)=false:=by rfl) :
 QN X (.Call (.Name "list" p) [.Call (.Name "range" p2) [a,b] [] pF] [] pos) (ue f g):=by
 refine⟨?_⟩;intro pins s σ H Q I ⟨Z,B,δ,ds,E,hf,q⟩;obtain⟨d1,h1,h2⟩:=R.ao hf;obtain⟨d2,h3,h4⟩:=R.ao h2;have key:∃i j:Int,d1= .int i/\d2= .int j/\(-(2 ^ 62)<=i/\i < 2 ^ 62/\ -(2 ^ 62)<=j/\j < 2 ^ 62/\j - i < 16777216)/\ds=il i (j - i).toNat:=by
  split at h4
  .obtain⟨h5,h6⟩:=R.bj h4;cases h6;exact⟨_,_,rfl,rfl,of_decide_eq_true h5,rfl⟩
  .cases h4
 obtain⟨i,j,rfl,rfl,⟨IL,Ky,OB,OF,Py⟩,rfl⟩:=key;refine wpAny_Call_Name_kw (jj I hg hm boot_list ?_ (by decide) (by decide))
 refine PyProof.Rows.callWith_type1 ?_ CU kN;rw[CU];show wpAny _ _ (spliced ((false,eval (.Call (.Name "range" p2) [a,b] [] pF) X.env) ::backTo pos (starEach [] X.env))) _ _ s;refine Calls.spliced_cons ?_;have hA:=et h.1 (et h'.1 gO Gq) hs pF pins s σ H (fun vs H1=>aP H H1/\vs=[.int i, .int j]) I ⟨Z,B,δ, .int i,E,h1,fun v H1 s1 r1=>⟨Z,B,δ, .int j,E.same s1,h3,fun v2 H2 s2 r2=>⟨s1.trans s2,by rw[Rep.int.mp r1,Rep.int.mp r2]⟩⟩⟩
 refine Call_ (jj I Gk Kx boot_range (PyProof.Rows.callWith_type1 (dG hA fun us s1 ⟨vs,H1,I1,r1,ss,ev⟩=>?_) (by rw[hs]) (by rw[Gq];rfl)))
 subst ev;cases r1 with
 | cons r rr=>
 cases rr with
 | cons r' rr=>
 cases rr;obtain⟨t,rfl⟩:=r;obtain⟨t',rfl⟩:=r';refine call_range_2 ?_;have I2:Inv X pins σ H1 {s1 with heap:=s1.heap.push {cls:= .type "range",data:= .fields #[.int i t, .int j t', .int 1 s1.toks]},toks:=s1.toks+1}:=I1.kept fun b o e=>Heap.get?_push_of_some _ e
 refine Calls.spliced_nil ?_;have hsz:Builtin.Range.rangeSize i j 1=((j - i).toNat:Nat):=by rw[rangeSize_one];split <;> omega
 have hz:sizeLine=16777216:=sizeLine_eq;refine call_list_range (n:=(j - i).toNat) (I2.ok.hd hc) (IsRange.new ..) (small_one IL Ky OB OF) hsz (by omega) fun h' tk acc c' hk FH F6=>?_
 have rv:=sj F6;have hle:((List.range (j - i).toNat).map fun(k:Nat)=>V.int (i+(k:Int))).length<=sizeLine:=by rw[List.length_map,List.length_range];omega
 have hf':H1 (s1.heap.push {cls:= .type "range",data:= .fields #[.int i t, .int j t', .int 1 s1.toks]}).objs.size=none:=I2.hok.fresh (Nat.le_refl _);have I4:=I2.laid (o:= .lst ((List.range (j - i).toNat).map fun(k:Nat)=>V.int (i+(k:Int)))) (h':=h') (t':=tk) hk (Nat.le_refl _) (show dF X.prog X.w _ _ _ (.lst _) from⟨hle,acc.toList,c',rv,by simpa using FH⟩)
 exact⟨.ref _,_,I4,rfl,q _ _ _ (ss.trans (aU hf')) (ss.free hf') aV (pZ _)⟩
end
end L2
namespace L3
open PySem PySem.Spec PyProof.Rows L2
section
variable {X:Cx} {cl:P0}
def LW(i:Nat)(f:FX):FZ:=fun δ S=>match gE δ i with
 | none=> .no
 | some k=>match c6 S k with
   | none=> .no
   | some _=>(f δ S).bind fun v S1=>match v with
     | .d d=>(match seqD? d with
       | some es=>(match c6 S1 k with
         | some ds=>R3.a_ (decide (ds.length+es.length<=sizeLine)) (.ok (.nx δ) (S1.set k (.lst (ds++es))))
         | none=> .no)
       | none=> .no)
     | _=> .no
def qX(fo fi fe:FX):FZ:=fun δ S=>(fe δ S).bind fun v S1=>(fo δ S1).bind fun o S2=>(fi δ S2).bind fun j S3=>match v,o,j with
 | .d d, .loc k, .d n=>(match lV S3 k,uq n with | some kvs,some key=>R3.a_ (decide (kvs.length < sizeLine)) (.ok (.nx δ) (S3.set k (.dct (nD kvs key d)))) | _,_=> .no)
 | _,_,_=> .no
theorem tR{pos pos':Pos}(hu:X.A.units+1 < cLine)(hv:PX X cl value fe)(ho:PX X cl o fo)(hi:PX X cl i fi)(hs:swapsWith value (some (.Subscript o i pos')) pos.line X.env=pure false:=by rfl):PZ X cl (.Assign [.Subscript o i pos'] value pos) (qX fo fi fe):=
 ⟨(BV hu ho.1 hi.1 hv.1 hs).imp fun D σ H ⟨ρ,S,δ,ou,S',E,hf,q⟩=>by
   obtain⟨v,S1,h1,h2⟩:=R3.ao hf;obtain⟨o,S2,h3,h4⟩:=R3.ao h2;obtain⟨j,S3,h5,h6⟩:=R3.ao h4;refine⟨ρ,S,δ,v,S1,E,h1,fun u1 dN H1 p1 w1 r1=>⟨dN,S1,δ,o,S2,E.to p1 w1,h3,fun u2 AK H2 p2 w2 r2=>⟨AK,S2,δ,j,S3,(E.to p1 w1).to p2 w2,h5,fun u3 HU H3 p3 w3 r3=>?_⟩⟩⟩
   split at h6
   .rename_i d k n;split at h6
    .rename_i kvs key hd hn;obtain⟨hl,h7⟩:=R3.bj h6;cases h7;have r2':=r2.pre p3;unfold bE at r2';obtain⟨a,a1,rfl⟩:=r2';unfold bE at r3;have:=jV hn r3;subst this;obtain⟨ys,y1,y2,y3⟩:=w3.ob k a _ a1 (oM hd);have vo:=(r1.pre p2).pre p3;unfold bE at vo;obtain⟨e1,kB⟩:=CZ (k:=key) vo y2 y3;have hll:ys.length=kvs.length:=by have:=congrArg List.length y2;simpa using this
     refine⟨a,_,rfl,xo.k (k:=key) y1 (by rw[hll];exact of_decide_eq_true hl),?_⟩
     obtain⟨w4,p4⟩:=w3.put (o:= .dct (nD kvs key d)) (u:= .dK (putK ys key u1)) a1 (w3.fz k a a1 (by rw[oM hd];intro h;cases h)) ⟨_,rfl,e1,kB⟩
     exact q σ HU _ (p1.trans (p2.trans (p3.trans p4))) (E.to (p1.trans (p2.trans (p3.trans p4))) w4)
    .cases h6
   .cases h6⟩
theorem vx{fo fi fe:FX}{δ:DE}{S:bw}{QO:Ou->bw->Prop}(h:W3 (fe δ S) fun v S1=>W3 (fo δ S1) fun o S2=>W3 (fi δ S2) fun j S3=>∃d k n key kvs,v= .d d/\o= .loc k/\j= .d n/\uq n=some key/\S3[k]? =some (.dct kvs)/\kvs.length < sizeLine/\QO (.nx δ) (S3.set k (.dct (nD kvs key d)))):W3 (qX fo fi fe δ S) QO:=
 W3.bind (h.mono fun _ _ h=>W3.bind (h.mono fun _ _ h=>W3.bind (h.mono fun _ S3 ⟨d,k,n,key,kvs,e1,e2,e3,e6,e4,hl,q⟩=>by
  subst e1 e2 e3;have e5:lV S3 k=some kvs:=by unfold lV;simp only[e4]
  simp only[e5,e6];exact W3.wh (decide_eq_true hl) (W3.ok q))))
end
end L3
end
section
namespace PySem.W
open PySem PySem.Calls PyProof.Rows
def Dh{α:Type}(n:Nat)(lt:Nat->Nat->Bool):KasT α->Option α
 | .ret a=>some a
 | .ask i j k=>if i < n/\j < n then Dh n lt (k (lt i j)) else none
section
variable {prog:Program} {w:World} {A:Around} {E:PQ} {s:Shared} {a:Addr} {vs:List Value} {κ:SortKind}
abbrev MP(h:Heap)(a:Addr)(vs:List Value):Heap:=((h.update a (Obj.mapSeq fun _=>(#[]:Array Value))).push (seqObj "tuple" vs.toArray 0)).push (seqObj "list" #[] 0)
end
end PySem.W
namespace L2
open PySem PySem.Spec PyProof.Rows
def MZ:D->Option (Int × List Int)
 | .tup [.int a, .tup zs]=>(ints? zs).map fun ns=>(a,ns)
 | _=>none
def HE:List D->Option (List (Int × List Int))
 | []=>some []
 | d ::ds=>(MZ d).bind fun p=>(HE ds).map (p ::·)
def ME(x y:Int × List Int):Bool:=if x.1=y.1 then(if x.2=y.2 then false else HT.lexLt x.2 y.2) else decide (x.1 < y.1)
def Jq(ps:List (Int × List Int)):Option (Array Nat):=PySem.W.Dh ps.length (fun i j=>ME (ps.getD i (0,[])) (ps.getD j (0,[]))) (PySem.W.kas_sort ps.length)
def Jg:List D->R D
 | [.lst ds]=>(match HE ds with
   | some ps=>R.a_ (decide (2<=ps.length/\ps.length < 64)) (match Jq ps with | some p=>R.a_ (p.toList.all (fun i=>decide (i < ps.length)) && decide (p.toList.length < 64)) (.ok (.lst (p.toList.map fun i=>ds.getD i .cL))) | none=> .no)
   | none=> .no)
 | _=> .no
def Nl(h:Heap)(v:Value)(p:Int × List Int):Prop:=
 ∃(x b:Addr) (t:Tok) (n:Nat) (o:Obj) (its:Array Value),v= .ref x/\h.get? x=some o/\o.cls= .type "tuple"/\o.data= .seq #[.int p.1 t, .ref b] n/\IsTup h b its/\IntsAre its.toList p.2
section
variable {X:Cx}
end
end L2
end
section
namespace L2
open PySem PySem.Spec PyProof.Rows
def HG(d a:D):Bool:=PyData.eqv (toPy d) (toPy a)
def LQ(d:D):Bool:=eS d && (toPy d).canLay0 && decide ((toPy d).depth<=8)
def Lx(a b:D):R Bool:=match seqD? b with
 | some ds=>R.a_ (LQ a && ds.all LQ) (.ok (ds.any fun d=>HG d a))
 | none=> .no
def NL(a b:D):R D:=(Lx a b).bind fun x=> .ok (.bl x)
def Nt(a b:D):R D:=(Lx a b).bind fun x=> .ok (.bl (!x))
section
variable {X:Cx}
open Classical in
def Lp(h:Heap)(a:D)(y:Value):Bool:=decide (∃d as,Reads h y (toPy d) as/\(toPy d).canLay0=true/\HG d a=true)
open Classical in
theorem J5{a d:D}{y:Value}{as:List Addr}(r:Reads h y (toPy d) as)(hl:(toPy d).canLay0=true):Lp h a y=HG d a:=by
 unfold Lp;cases q:HG d a with
 | true=>exact decide_eq_true ⟨d,as,r,hl,q⟩
 | false=>
   refine decide_eq_false fun⟨d',Oz,r',Pp,q'⟩=>?_
   have:=SeqAt.Reads.unique _ _ y as Oz hl r r';unfold HG at q q';rw[<-this,q] at q';cases q'
end
end L2
end
section
set_option maxHeartbeats 1000000
namespace L3
open PySem PySem.Spec PyProof.Rows L2
section
variable {X:Cx} {cl:P0}
def Le(i:Nat)(F:FZ):FZ:=fun δ S=>match gE δ i with
 | some k=>(match S[k]? with | some (.dct kvs)=>F (δ.set i (some (.d (.dct (kvs.map (·.1)) (kvs.map (·.2)))))) (S.set k .ic) | _=> .no)
 | none=> .no
end
end L3
end
section
set_option maxHeartbeats 3200000
namespace PySem.W
open PySem PySem.Calls PyProof.Rows
namespace F2
theorem jE:entryFor table "dict.update.loop"=some Builtin.«dict.update.loop»:=entryFor_of_tree (by kernel_rfl)
theorem eA:plainId "dict.update.loop"=true:=by decide+kernel
theorem pe:typeLookup (.type "list") "keys"=pure none:=by rw[typeLookup_type,builtinLookup_eq_fast];kernel_rfl
end F2
section
variable {prog:Program} {w:World} {A:Around} {E:PQ} {s:Shared}
theorem oh{a:Addr}{xs:Array Value}{k:Nat}{sl:Array (Option Value)}{name:Str}{Q:Option Value->Shared->Prop}
 (hx:s.heap.get? a=some {cls:= .type "list",dict:=none,data:= .seq xs k,slots:=sl}) (Ii:typeLookup (.type "list") name=pure none) (Ig:(["__module__","__name__","__qualname__","__doc__","__annotations__"]:List Str).contains name=false) (hA:A.handled=none)
 (h:∀h' tk,(∀b o,s.heap.get? b=some o->h'.get? b=some o)->Q none {s with heap:=h',toks:=tk}) (hsz:name.length+100<=sizeLine:=by size_fits) :
 wpAny (model prog w) A (getAttr? (.ref a) name) Q E s:=by
 obtain⟨hp,g,d,tk,os⟩:=s;have hT:∀L_,(⟨hp,g,d,L_,os⟩:Shared).TypeIs (.ref a) "list":=fun _=>⟨_,hx,rfl⟩
 have f1:=sub_AttributeError;have f3:=PySem.F.slot_list_getattribute.lookup;have f4:=PySem.F.slot_list_getattribute.bind (.ref a);have f5:=am_list_getattr_none;unfold getAttr? getAttrBy? getAttrBy
 repeat (any_goals (first | assumption | exact hT _ | ((with_reducible show wpAny _ _ (call (Value.builtin "list.__getattribute__") _ _) _ _ _);refine call_meets PySem.F.slot_list_getattribute (hT _) am_entry_list_getattribute (PySem.F.args_list_getattribute_2 _ _) (meets_getattribute_miss_list a xs k sl name _ Ii Ig hsz) ⟨hx,hA,fun h' L_ e FW=>?_⟩) | wp_step))
 obtain⟨t',u',he⟩:=FW.there;show wpAny _ _ (getattributeRaised _ _ _ _ _ _ _) _ _ _;unfold getattributeRaised
 repeat (any_goals (first | assumption | wp_step))
 exact h _ _ FW.of.keeps
end
section
variable {prog:Program} {w:World} {K:Type} [DecidableEq K] {knd:KeyKind prog w K} {A:Around} {s:Shared}
def rH(knd:KeyKind prog w K)(h:Heap)(v:Value)(q:K × Value):Prop:=
 ∃(x:Addr) (n:Nat) (o:Obj) (kv:Value),v= .ref x/\h.get? x=some o/\o.cls= .type "tuple"/\o.data= .seq #[kv,q.2] n/\knd.is q.1 kv=true
def fills(qs:List (K × Value))(kvs:List (K × Value)):List (K × Value):=qs.foldl (fun acc q=>stored acc q.1 q.2) kvs
theorem uT(kvs:List (K × Value))(k:K)(v:Value):(stored kvs k v).length<=kvs.length+1:=by
 unfold stored;split
 .rw [List.length_map];omega
 .rw [List.length_append,List.length_singleton];omega
theorem mH:∀(qs kvs:List (K × Value)),(fills qs kvs).length<=kvs.length+qs.length
 | [],kvs=>by unfold fills;simp
 | q ::qs,kvs=>by
   have h1:=mH qs (stored kvs q.1 q.2);have h2:=uT kvs q.1 q.2;show(fills qs (stored kvs q.1 q.2)).length<=_;rw[List.length_cons];omega
theorem wM{l I d:Addr}{items:Array Value}{qs:List (K × Value)}{R:Result->Shared->Prop}(hh:A.handled=none)(Oh:l≠I)(KN:d≠I)(HX:d≠l)(hlen:items.size=qs.length)(hsz:qs.length<=1000000) :
 ∀(k i:Nat) (j:Int) (t:Tok) (s:Shared),items.size - i=k->i<=items.size->s.heap.IsListIter I l i->s.heap.IsList l items->s.heap.DictOf knd d (fills (qs.take i) [])->
  (∀(m:Nat) (q:K × Value) (v:Value),qs[m]? =some q->items[m]? =some v->(∃x,v= .ref x/\x≠d/\x≠I)/\rH knd s.heap v q)->
  (∀h' tk,h'.DictOf knd d (fills qs [])->(∀b o,b≠d->b≠I->s.heap.get? b=some o->h'.get? b=some o)->R (.ok (.ret .none)) {s with heap:=h',toks:=tk})->
  codeAny (model prog w) A (.builtin "dict.update.loop" ⟨[.ref d, .ref I, .int j t, .none],[]⟩) R s:=by
 have hz:sizeLine=16777216:=sizeLine_eq;have W:=Walks.list (prog:=prog) (w:=w) (A:=A.in1) (by simp [hh]) I l Oh items
 intro k
 induction k with
 | zero=>
   intro i j t s hk hi hit hl hd hp hR;have hin:i=items.size:=by omega
   subst hin;refine codeAny_builtin F2.jE ?_;rw[Around.under_plainId F2.eA _];show wpAny _ A.in1 (pyNext (.ref I) >>=_) _ _ s;refine wpAny_bind (W.done s _ _ ⟨hit,hl⟩ fun h' tk Gn=>?_)
   show wpAny _ A.in1 (Builtin.Dict.addKeywords d [] >>=fun _=>ret Value.none) _ _ _
   refine wpAny_bind (wpAny_pure ?_);refine wpAny_pure (hR h' tk ?_ fun b o hb Gv e=>Gn b o (by simpa using Gv) e)
   rw[List.take_of_length_le (by omega)] at hd
   obtain⟨o,es,ep,ho,rest⟩:=hd;exact⟨o,es,ep,Gn d _ (by simpa using KN) ho,rest⟩
 | succ k ih=>
   intro i j t s hk hi hit hl hd hp hR;have hlt:i < items.size:=by omega
   have hq:qs[i]? =some qs[i]:=List.getElem?_eq_getElem (by omega)
   refine codeAny_builtin F2.jE ?_;rw[Around.under_plainId F2.eA _];show wpAny _ A.in1 (pyNext (.ref I) >>=_) _ _ s;refine wpAny_bind (W.item i s _ _ hlt ⟨hit,hl⟩ fun v h' tk hv Az Gn=>?_)
   obtain⟨⟨x,ex,hxd,hxI⟩,x',n,o,kv,L9,hx,hxc,hxd',hkv⟩:=hp i _ v hq hv;subst ex;cases L9;have FW:h'.get? x=some o:=Gn x o (by simpa using hxI) hx
   have hT:Shared.TypeIs {s with heap:=h',toks:=tk} (.ref x) "tuple":=⟨_,FW,hxc⟩
   have KS:h'.DictOf knd d (fills (qs.take i) []):=by
    obtain⟨o,es,ep,ho,rest⟩:=hd;exact⟨o,es,ep,Gn d _ (by simpa using KN) ho,rest⟩
   refine wpAny_bind (wpAny_holding ?_);refine wpAny_bind (wpAny_tryCatch ?_);unfold Builtin.Dict.pairItems;refine wpAny_bind (wpAny_typeOf hT ?_);rw[if_pos (by decide)]
   refine wpAny_bind (wpAny_seqItems FW hxd' ?_);refine wpAny_pure ?_;show wpAny _ _ (holding [kv,(qs[i]).2] (dictSet d kv (qs[i]).2)) _ _ _;refine wpAny_holding ?_;have hfl:=mH (qs.take i) ([]:List (K × Value));rw[List.length_take] at hfl;refine wpAny_dictSet_pairs hkv KS (fun OI HW FK=>?_) (by simp at hfl;omega)
   have htake:fills (qs.take (i+1)) []=stored (fills (qs.take i) []) (qs[i]).1 (qs[i]).2:=by
    unfold fills;rw[List.take_add_one,hq,List.foldl_append];rfl
   rw[<-htake] at HW;have kp:∀b o,b≠d->b≠I->s.heap.get? b=some o->OI.get? b=some o:=fun b o hb Gv e=>(FK.2 b hb).trans (Gn b o (by simpa using Gv) e)
   refine wpAny_pure ⟨plainId_quiet F2.eA _,ih (i+1) _ _ _ (by omega) hlt ?_ ?_ HW ?_ ?_⟩
   .exact Az.1.at fun o e=>(FK.2 I (fun h=>KN h.symm)).trans e
   .exact Az.2.at fun o e=>(FK.2 l (fun h=>HX h.symm)).trans e
   .intro m q v hm hv2;obtain⟨⟨x2,e2,e3,e4⟩,y,n2,o2,kv2,f1,f2,f3,f4,f5⟩:=hp m q v hm hv2;subst e2;cases f1;exact⟨⟨x2,rfl,e3,e4⟩,x2,n2,o2,kv2,rfl,kp x2 o2 e3 e4 f2,f3,f4,f5⟩
   .exact fun h3 KC KH Ks=>hR h3 KC KH fun b o hb Gv e=>Ks b o hb Gv (kp b o hb Gv e)
theorem m5{E:PQ}{l:Addr}{items:Array Value}{c:Nat}{sl:Array (Option Value)}{qs:List (K × Value)}{Q:PQ}(hh:A.handled=none)(hx:s.heap.get? l=some {cls:= .type "list",dict:=none,data:= .seq items c,slots:=sl})(hlen:items.size=qs.length)(hsz:qs.length<=1000000)
 (hp:∀(m:Nat) (q:K × Value) (v:Value),qs[m]? =some q->items[m]? =some v->rH knd s.heap v q)
 (h:∀h' tk,h'.DictOf knd s.heap.objs.size (fills qs [])->(∀b o,s.heap.get? b=some o->h'.get? b=some o)->Q (.ref s.heap.objs.size) {s with heap:=h',toks:=tk}) :
 wpAny (model prog w) A (call (.type "dict") [.ref l]) Q E s:=by
 refine callType_codes (Q₁:=fun obj s₁=>obj= .ref s.heap.objs.size/\s₁={s with heap:=s.heap.push {cls:= .type "dict",data:= .dict #[]}}) PySem.F.kt_called_dict (PySem.F.kt_typeCall_dict_1 _) PySem.F.entry_dict_init (kt_code_dict_new _ ⟨rfl,rfl⟩) ?_
 rintro obj s₁ ⟨rfl,rfl⟩;have hnew:(s.heap.push {cls:= .type "dict",data:= .dict #[]}).DictOf knd s.heap.objs.size []:=Heap.DictOf.new s.heap;have IP:(s.heap.push {cls:= .type "dict",data:= .dict #[]}).get? l=some {cls:= .type "list",dict:=none,data:= .seq items c,slots:=sl}:=Heap.get?_push_of_some _ hx;have hT:Shared.TypeIs {s with heap:=s.heap.push {cls:= .type "dict",data:= .dict #[]}} (.ref l) "list":=⟨_,IP,rfl⟩
 have hlS:l < s.heap.objs.size:=Heap.lt_size hx;refine⟨hnew.typeIs,PySem.F.args_dict_init_2 _ _,?_⟩;unfold Builtin.«dict.__init__»;refine wpAny_bind ?_;unfold Builtin.Dict.selfAndRest;refine wpAny_bind (wpAny_notOrdered_dict hnew.typeIs ?_);show wpAny _ _ (pure (s.heap.objs.size,[Value.ref l])) _ _ _;refine wpAny_pure ?_;show wpAny _ _ (Builtin.Dict.updateFrom "dict.__init__" s.heap.objs.size (.ref l) [] .none) _ _ _;unfold Builtin.Dict.updateFrom;refine wpAny_bind (wpAny_typeOf hT ?_);rw[if_pos (by decide)]
 refine wpAny_bind (oh IP F2.pe (by decide+kernel) (by simp [hh]) (fun h2 tk k2=>?_) (by rw[sizeLine_eq];decide+kernel))
 rw[if_pos (show(none:Option Value).isNone=true from rfl)]
 refine wpAny_bind (wpAny_rule ?_);have hx2:h2.IsList l items:=⟨_,k2 _ _ IP,rfl,_,rfl⟩;have Gj:l < h2.objs.size:=Heap.lt_size (k2 _ _ IP);have hd2:s.heap.objs.size < h2.objs.size:=by
  obtain⟨o,_,_,ho,_⟩:=hnew;exact Heap.lt_size (k2 _ _ ho)
 refine wpAny_bind (wpAny_pyIter_list (s:={s with heap:=h2,toks:=tk}) hx2 ?_)
 refine wpAny_pure ⟨plainId_quiet F2.eA _,?_⟩;refine wM (knd:=knd) (qs:=qs) (l:=l) (by simp [hh]) (Nat.ne_of_lt Gj) (Nat.ne_of_lt hd2) (Nat.ne_of_gt hlS) hlen hsz (items.size - 0) 0 _ _ _ (by omega) (Nat.zero_le _) ⟨_,Heap.get?_push_size _ rfl,rfl,rfl⟩ (hx2.push _) ?_ ?_ ?_
 .obtain⟨o,es,ep,ho,rest⟩:=hnew;exact⟨o,es,ep,Heap.get?_push_of_some _ (k2 _ _ ho),rest⟩
 .intro m q v hm hv;obtain⟨x,n,o,kv,rfl,e1,e2,e3,e4⟩:=hp m q v hm hv;have hxs:x < s.heap.objs.size:=Heap.lt_size e1;exact⟨⟨x,rfl,Nat.ne_of_lt hxs,Nat.ne_of_lt (Nat.lt_trans hxs hd2)⟩,x,n,o,kv,rfl,Heap.get?_push_of_some _ (k2 _ _ (Heap.get?_push_of_some _ e1)),e2,e3,e4⟩
 .intro h3 KC KH Ks;refine⟨rfl,h h3 KC KH fun b o e=>?_⟩
  have hbs:b < s.heap.objs.size:=Heap.lt_size e;exact Ks b o (Nat.ne_of_lt hbs) (Nat.ne_of_lt (Nat.lt_trans hbs hd2)) (Heap.get?_push_of_some _ (k2 _ _ (Heap.get?_push_of_some _ e)))
end
end PySem.W
namespace L2
open PySem PySem.Spec PyProof.Rows
def ID:D->Option (Key × D)
 | .tup [a,b]=>(uq a).map fun k=>(k,b)
 | _=>none
def wQ:List D->Option (List (Key × D))
 | []=>some []
 | d ::ds=>(ID d).bind fun p=>(wQ ds).map (p ::·)
def kq(qs:List (Key × D))(kvs:List (Key × D)):List (Key × D):=qs.foldl (fun acc q=>L3.nD acc q.1 q.2) kvs
def qQ:List D->R D
 | [.lst ds]=>(match wQ ds with
   | some qs=>R.a_ (decide (ds.length<=1000000)) (.ok (.dct ((kq qs []).map (·.1)) ((kq qs []).map (·.2))))
   | none=> .no)
 | _=> .no
section
variable {X:Cx}
theorem Cz{pins:PM}{s:Shared}{B:List Addr}(I:Inv X pins σ H s){d:D}{x:V}{v:Value}{p:Key × D}(hp:ID d=some p)(r:Rep X.K B H d x)(rx:RelV x v):∃(y:V) (u:Value),PySem.W.rH (cn X.prog X.w) s.heap v (p.1,u)/\RelV y u/\Rep X.K B H p.2 y:=by
 unfold ID at hp;split at hp
 .rename_i a b;obtain⟨k,e1,rfl⟩:=L3.eQ hp;obtain⟨ad,xs,rfl,l,rs⟩:=Rep.tup.mp r;cases rx;obtain⟨x1,r1,rfl,q1,q2⟩:=rs.bW;obtain⟨x2,r2,rfl,q3,q4⟩:=q2.bW;unfold aC at q4;subst q4;have:=jV e1 q1;subst this;obtain⟨its,rv,⟨o,o1,o2,n,o3⟩,_⟩:=I.tuple l.sq;cases rv with
  | cons u1 rv=>
    cases rv with
    | cons u2 rv=>
      cases rv;exact⟨x2,_,⟨ad,n,o,_,rfl,o1,o2,o3,mW u1⟩,u2,q3⟩
 .cases hp
theorem C0{pins:PM}{s:Shared}{B:List Addr}(I:Inv X pins σ H s):∀{ds:List D} {ps:List (Key × D)} {xs:List V} {vs:List Value},wQ ds=some ps->aC X.K B H ds xs->Vals xs vs->
 ∃(ys:List V) (us:List Value),vs.length=ps.length/\ys.length=ps.length/\us.length=ps.length/\Vals ys us/\aC X.K B H (ps.map (·.2)) ys/\∀(m:Nat) (q:Key × Value) (v:Value),((ps.map (·.1)).zip us)[m]? =some q->vs[m]? =some v->PySem.W.rH (cn X.prog X.w) s.heap v q
 | [],ps,xs,vs,hp,r,rv=>by
   cases hp;unfold aC at r;subst r;cases rv;exact⟨[],[],rfl,rfl,rfl, .nil,aC.nil,fun m q v hm _=>by simp at hm⟩
 | d ::ds,ps,xs,vs,hp,r,rv=>by
   obtain⟨p,e1,h2⟩:=L3.lp hp;obtain⟨Oo,e2,rfl⟩:=L3.eQ h2;obtain⟨x,FF,rfl,r1,r2⟩:=r.bW;cases rv with
   | cons u rv=>
     obtain⟨ys,us,a1,a2,a3,a4,a5,a6⟩:=C0 I e2 r2 rv;obtain⟨y,w,b1,b2,b3⟩:=Cz I e1 r1 u;refine⟨y ::ys,w ::us,by rw[List.length_cons,List.length_cons,a1],by rw[List.length_cons,List.length_cons,a2],by rw[List.length_cons,List.length_cons,a3], .cons b2 a4,aC.cons b3 a5,fun m q v hm hv=>?_⟩
     cases m with
     | zero=>simp at hm hv;subst hm hv;exact b1
     | succ m=>exact a6 m q v (by simpa using hm) (by simpa using hv)
theorem sY{K:W.Frag}{B:List Addr}:∀{ps:List (Key × D)} {ys:List V} {us:List Value} {kvs:List (Key × D)} {xs:List (Key × V)} {vs:List (Key × Value)},aC K B H (ps.map (·.2)) ys->Vals ys us->
 xs.map (·.1)=kvs.map (·.1)->aC K B H (kvs.map (·.2)) (xs.map (·.2))->KV xs vs->
 ∃FF,FF.map (·.1)=(kq ps kvs).map (·.1)/\aC K B H ((kq ps kvs).map (·.2)) (FF.map (·.2))/\KV FF (PySem.W.fills ((ps.map (·.1)).zip us) vs)
 | [],ys,us,kvs,xs,vs,r,rv,h1,h2,h3=>⟨xs,h1,h2,by unfold PySem.W.fills;simpa using h3⟩
 | p ::ps,ys,us,kvs,xs,vs,r,rv,h1,h2,h3=>by
   rw[List.map_cons] at r;obtain⟨y,Gw,rfl,r1,r2⟩:=r.bW;cases rv with
   | cons u rv=>
     obtain⟨e1,e2⟩:=L3.CZ (k:=p.1) r1 h1 h2;exact sY (ps:=ps) r2 rv e1 e2 (h3.put p.1 u)
theorem tu:∀{ds:List D} {ps:List (Key × D)},wQ ds=some ps->ds.length=ps.length
 | [],ps,hp=>by cases hp;rfl
 | d ::ds,ps,hp=>by
   obtain⟨p,e1,h2⟩:=L3.lp hp;obtain⟨Oo,e2,rfl⟩:=L3.eQ h2;rw[List.length_cons,List.length_cons,tu e2]
theorem AW(hc:X.calm=true):cv X (.type "dict") qQ:=by
 intro pins s σ H B ds d xs us I hb rx rs hg;unfold qQ at hg;split at hg
 .split at hg
  .rename_i es ps e;obtain⟨hsz,h2⟩:=R.bj hg;cases h2;have hsz:=of_decide_eq_true hsz;obtain⟨x,rfl,r⟩:=rs.one;obtain⟨a,ys,rfl,l,r⟩:=Rep.lst.mp r;obtain⟨u,rfl,ru⟩:=vals1 rx;cases ru;obtain⟨its,n,rv,e1,hz⟩:=I.Fc l;obtain⟨zs,vs,a1,a2,a3,a4,a5,a6⟩:=C0 I e r rv;have hl:=tu e;have hql:((ps.map (·.1)).zip vs).length=ps.length:=by rw[List.length_zip,List.length_map,a3,Nat.min_self]
   refine PySem.W.m5 (knd:=cn X.prog X.w) (qs:=(ps.map (·.1)).zip vs) (I.ok.hd hc) e1 (by rw[List.size_toArray,a1,hql]) (by rw[hql];omega) (fun m q v hm hv=>a6 m q v hm (by simpa using hv)) fun h' tk hd hk=>?_
   have hn:H s.heap.objs.size=none:=I.hok.fresh (Nat.le_refl _);obtain⟨FF,b1,b2,b3⟩:=sY (kvs:=[]) (xs:=[]) (vs:=[]) a5 a4 rfl aC.nil .nil;have hfl:=PySem.W.mH ((ps.map (·.1)).zip vs) ([]:List (Key × Value))
   have hzz:sizeLine=16777216:=sizeLine_eq;have hkl:=b3.length;have I2:=I.laid (a:=s.heap.objs.size) (o:= .dK FF) (h':=h') (t':=tk) hk (Nat.le_refl _) (uA (by rw[hql] at hfl;simp at hfl;omega) ?_ b3 hd)
   .refine⟨.ref s.heap.objs.size,_,I2,rfl,aU hn,?_⟩;unfold Rep;refine⟨_,FF,rfl,⟨fun ha=>?_,aV⟩,b1,b2.same (aU hn)⟩
    obtain⟨o,ho⟩:=hb _ ha;rw[hn] at ho;cases ho
   .exact beq_eq_false_iff_ne.mpr (Ne.symm (Nat.ne_of_lt I.big))
  .cases hg
 .cases hg
end
end L2
end
section
set_option maxHeartbeats 4000000
namespace NT
def mx(f:Nat->Nat)(w:List Nat):Nat:=(w.map f).foldl max 0
structure BA (f:Nat->Nat) (M:Nat) (bs:List Int):Prop where
 a:∀(z:Nat) (v:Int),bs[z]? =some v->v= -1\/(0<=v/\v+f z<=M)
def BB(f:Nat->Nat)(M:Nat)(bs:List Int)(n:Nat):Prop:=∃(z:Nat) (v:Int),z < n/\bs[z]? =some v/\0<=v/\(M:Int)<=v+f z
def Up(bs Md:List Int):Prop:=Md.length=bs.length/\∀(z:Nat) (v:Int),bs[z]? =some v->∃v',Md[z]? =some v'/\v<=v'
end NT
namespace NT
open PySem PySem.Spec PyProof.Rows L2 L3
structure Gt where
 k:Str
 w:List Nat
 s:Bool
def nN(z:Nat):D:= .int z
def wN(w:List Nat):D:= .tup (w.map nN)
def gN(g:Gt):D:= .tup [.str g.k,wN g.w, .bl g.s]
def iN(x:Str × Nat):D:= .tup [.str x.1, .int x.2]
def oN(x:Str × List Nat):D:= .tup [.str x.1,wN x.2]
structure Net where
 i:PR
 g:List Gt
 o:PU
def Net.d(n:Net):D:= .tup [.lst (n.i.map iN), .lst (n.g.map gN), .lst (n.o.map oN)]
def Net.first(n:Net):Nat:=(n.i.map (·.2)).sum
structure L4 (n:Nat) (w:List Nat):Prop where
 ne:w≠[]
 le:w.length<=3
 lt:∀z∈w,z < n
structure Net.Ok (n:Net):Prop where
 i1:1<=n.i.length
 i6:n.i.length<=6
 iw:∀x∈n.i,1<=x.2/\x.2<=3
 is:∀x∈n.i,lG 0 (.str x.1)
 g60:n.g.length<=60
 gw:∀(p:Nat) (g:Gt),n.g[p]? =some g->L4 (n.first+p) g.w
 gs:∀g∈n.g,lG 0 (.str g.k)
 o1:1<=n.o.length
 o6:n.o.length<=6
 ow:∀x∈n.o,L4 (n.first+n.g.length) x.2
 os:∀x∈n.o,lG 0 (.str x.1)
inductive Sm:Nat->D->Prop where
 | int (n:Nat) (i:Int):Sm n (.int i)
 | bl (n:Nat) (b:Bool):Sm n (.bl b)
 | str (n:Nat) (s:Str):Sm n (.str s)
 | lst {n:Nat} {ds:List D} (h:∀d∈ds,Sm n d) (hl:ds.length<=1000000):Sm (n+1) (.lst ds)
 | tup {n:Nat} {ds:List D} (h:∀d∈ds,Sm n d) (hl:ds.length<=1000000):Sm (n+1) (.tup ds)
theorem lI{F G:FS}{δ:av}{d:D}(h:F δ= .ok (.rt d)):fJ F G δ= .ok (.rt d):=by unfold fJ;rw [h];rfl
theorem cQ{α:Type}{l:List α}{f:α->D}{i:Nat}{v:V3}(h:((l.map f).map V3.d)[i]? =some v):∃x,l[i]? =some x/\v= .d (f x):=by
 rw[List.getElem?_map,List.getElem?_map] at h;cases q:l[i]? with
 | none=>rw [q] at h;cases h
 | some x=>rw [q] at h;cases h;exact⟨x,rfl,rfl⟩
theorem vC{α:Type}{l:List α}{f:α->D}{i:Nat}{v:D}(h:(l.map f)[i]? =some v):∃x,l[i]? =some x/\v=f x:=by
 rw[List.getElem?_map] at h;cases q:l[i]? with
 | none=>rw [q] at h;cases h
 | some x=>rw [q] at h;cases h;exact⟨x,rfl,rfl⟩
theorem bG{α:Type}{t:FT}{c:av->R Bool}{f:FD}{δ:av}(a b:α->D):∀{xs:List α},(∀x∈xs,∃δ1,t (a x) δ= .ok δ1/\c δ1= .ok true/\f δ1= .ok (b x))->l6 t c f δ (xs.map a)= .ok (xs.map b)
 | [],_=>rfl
 | x ::xs,h=>by
   obtain⟨δ1,h1,h2,h3⟩:=h x List.mem_cons_self;have ih:=bG (t:=t) (c:=c) (f:=f) (δ:=δ) a b (xs:=xs) fun y hy=>h y (List.mem_cons_of_mem _ hy)
   rw[List.map_cons];unfold l6;rw[h1,R.aX,h2,R.aX,if_pos rfl,h3,R.aX,ih];rfl
theorem px{α:Type}{t:FT}{c:av->R Bool}{f:FD}{δ:av}(p:α->Bool)(a b:α->D):∀{xs:List α},(∀x∈xs,∃δ1,t (a x) δ= .ok δ1/\c δ1= .ok (p x)/\(p x=true->f δ1= .ok (b x)))->l6 t c f δ (xs.map a)= .ok ((xs.filter p).map b)
 | [],_=>rfl
 | x ::xs,h=>by
   obtain⟨δ1,h1,h2,h3⟩:=h x List.mem_cons_self;have ih:=px (t:=t) (c:=c) (f:=f) (δ:=δ) p a b (xs:=xs) fun y hy=>h y (List.mem_cons_of_mem _ hy)
   rw[List.map_cons];unfold l6;rw[h1,R.aX,h2,R.aX];cases e:p x with
   | true=>rw [if_pos rfl,h3 e,R.aX,ih,List.filter_cons,if_pos e];rfl
   | false=>rw [if_neg (by decide),ih,List.filter_cons,if_neg (by rw[e];decide)]
theorem A8{n z:Nat}(h:z < n):ze n (z:Int)=some z:=by
 unfold ze;rw[if_pos (by omega),if_pos (by omega)]
 simp
theorem zd{α:Type}{xs:List α}{z:Nat}{x:α}(h:xs[z]? =some x):qj xs (z:Int)=some x:=by
 have hl:=(List.getElem?_eq_some_iff.mp h).1;unfold qj;rw[A8 hl];exact h
theorem de{ds:List D}{z:Nat}{x:D}(h:ds[z]? =some x):b6 (.lst ds) (.int z)= .ok x:=zl (zd h)
end NT
end
section
namespace MT
open PySem PySem.Spec PyProof.Rows L2 L3
abbrev M:=Nat->Bool
theorem JM{N:List Str}{F:FZ}{vs:List V3}{δ:DE}{S:bw}{QV:V3->bw->Prop}(e:dg N vs=δ)(h:W3 (F δ S) fun o S1=>∃du,o= .nx du/\QV (.d .cL) S1):W3 (pG N F vs S) QV:=by
 subst e;exact W3.bind (h.mono fun _ _ ⟨_,e,q⟩=>by subst e;exact W3.ok q)
def kH:Nat->M->Nat
 | 0,_=>0
 | N+1,f=>(if f 0 then 1 else 0)+2*kH N (fun i=>f (i+1))
theorem i_:∀(N:Nat) (f:M) (i:Nat),(kH N f).testBit i=(decide (i < N) && f i)
 | 0,f,i=>by unfold kH;simp
 | N+1,f,0=>by
   unfold kH;rw[Nat.testBit_zero];cases f 0 <;> simp <;> omega
 | N+1,f,i+1=>by
   unfold kH;rw[Nat.testBit_succ];have:((if f 0=true then 1 else 0)+2*kH N fun i=>f (i+1)) / 2=kH N fun i=>f (i+1):=by split <;> omega
   rw[this,i_ N _ i];simp
theorem qC:∀{N:Nat} {f g:M},(∀i,i < N->f i=g i)->kH N f=kH N g
 | 0,_,_,_=>rfl
 | N+1,f,g,h=>by
   unfold kH;rw[h 0 (by omega),qC (N:=N) fun i hi=>h (i+1) (by omega)]
theorem vY(N:Nat)(f g:M):kH N f &&& kH N g=kH N fun i=>f i && g i:=by
 refine Nat.eq_of_testBit_eq fun i=>?_
 rw[Nat.testBit_and,i_,i_,i_];cases decide (i < N) <;> simp
theorem Ad(N:Nat)(f g:M):kH N f ||| kH N g=kH N fun i=>f i || g i:=by
 refine Nat.eq_of_testBit_eq fun i=>?_
 rw[Nat.testBit_or,i_,i_,i_];cases decide (i < N) <;> simp
theorem v_:∀(N:Nat) (f g:M),((kH N fun i=>f i || g i:Nat):Int) - (kH N fun i=>f i && g i:Nat)=(kH N fun i=>f i !=g i:Nat)
 | 0,f,g=>rfl
 | N+1,f,g=>by
   have ih:=v_ N (fun i=>f (i+1)) (fun i=>g (i+1))
   have e:∀h:M,kH (N+1) h=(if h 0 then 1 else 0)+2*kH N (fun i=>h (i+1)):=fun _=>rfl
   rw[e,e,e];generalize kH N (fun i=>f (i+1) || g (i+1))=a at ih ⊢
   generalize kH N (fun i=>f (i+1) && g (i+1))=b at ih ⊢
   generalize kH N (fun i=>f (i+1) !=g (i+1))=c at ih ⊢
   show(((if(f 0 || g 0) then 1 else 0)+2*a:Nat):Int) - ((if(f 0 && g 0) then 1 else 0)+2*b:Nat)=((if(f 0 !=g 0) then 1 else 0)+2*c:Nat)
   cases f 0 <;> cases g 0 <;> simp <;> omega
theorem n4(x y:Nat):Builtin.bitAnd (x:Int) (y:Int)=((x &&& y:Nat):Int):=by
 unfold Builtin.bitAnd;rw[decide_eq_true (by omega:(0:Int)<=x),decide_eq_true (by omega:(0:Int)<=y)]
 simp
theorem wm(x y:Nat):Builtin.bitOr (x:Int) (y:Int)=((x ||| y:Nat):Int):=by
 unfold Builtin.bitOr Builtin.bitAnd Builtin.bitNot;rw[decide_eq_false (by omega:¬(0:Int)<= -(x:Int) - 1),decide_eq_false (by omega:¬(0:Int)<= -(y:Int) - 1)]
 show -(-(((-(-(x:Int) - 1) - 1).toNat ||| (-(-(y:Int) - 1) - 1).toNat:Nat):Int) - 1) - 1=_
 rw[show(-(-(x:Int) - 1) - 1).toNat=x by omega,show(-(-(y:Int) - 1) - 1).toNat=y by omega]
 omega
def mI(N:Nat)(f:M):D:= .int (kH N f:Nat)
theorem As{N:Nat}{f g:M}(h:∀i,i < N->f i=g i):mI N f=mI N g:=by unfold mI;rw [qC h]
theorem vZ(N:Nat)(f g:M):Dz (mI N f) (mI N g)= .ok (mI N fun i=>f i && g i):=by
 show R.ok (D.int (Builtin.bitAnd (kH N f:Int) (kH N g:Int)))=_;rw[n4,vY];rfl
theorem EF(N:Nat)(f g:M):HL (mI N f) (mI N g)= .ok (mI N fun i=>f i || g i):=by
 show R.ok (D.int (Builtin.bitOr (kH N f:Int) (kH N g:Int)))=_;rw[wm,Ad];rfl
theorem Dl(N:Nat)(f g:M):Df (mI N f) (mI N g)= .ok (mI N fun i=>f i !=g i):=by
 show R.ok (D.int (Builtin.bitOr (kH N f:Int) (kH N g:Int) - Builtin.bitAnd (kH N f:Int) (kH N g:Int)))=_;rw[wm,n4,Ad,vY,v_];rfl
def one:M:=fun _=>true
theorem C7(N:Nat)(f:M):Df (mI N one) (mI N f)= .ok (mI N fun i=>!f i):=by
 rw[Dl];have:(fun i=>one i !=f i)=fun i=>!f i:=by funext i;unfold one;simp
 rw[this]
theorem zF(N:Nat)(f:M)(c:Bool):(if c then Df (mI N one) (mI N f) else .ok (mI N f))= .ok (mI N fun i=>f i !=c):=by
 cases c with
 | true=>
   rw[if_pos rfl,C7];have:(fun i=>!f i)=fun i=>f i !=true:=by funext i;cases f i <;> rfl
   rw[this]
 | false=>
   rw[if_neg (by decide)]
   have:f=fun i=>f i !=false:=by funext i;cases f i <;> rfl
   rw[<-this]
def bI(b:Bool):D:= .int (if b then 1 else 0)
def MF:List Bool->Nat
 | []=>0
 | b ::bs=>(if b then 1 else 0)+2*MF bs
def nI(n:Nat):D:= .int (n:Int)
def kS:Nat->Str | 0=>"not" | 1=>"and" | 2=>"or" | 3=>"xor" | _=>"vote"
def ar:Nat->Nat | 0=>1 | 4=>3 | _=>2
theorem tm(k:Nat):ar k<=3:=by unfold ar;split <;> omega
def gv:Nat->List Bool->Bool
 | 0,[a]=>!a
 | 1,[a,b]=>a && b
 | 2,[a,b]=>a || b
 | 3,[a,b]=>a !=b
 | 4,[a,b,c]=>(a && b) || (a && c) || (b && c)
 | _,_=>false
def ye(ws:List M)(n:Nat):M:=ws.getD n fun _=>false
abbrev Gt:=Nat × List Nat × Bool
def jb(g:Gt):D:= .tup [.str (kS g.1), .tup (g.2.1.map nI), .bl g.2.2]
def vc(n:Nat)(g:Gt):Prop:=g.1<=4/\g.2.1.length=ar g.1/\∀w∈g.2.1,w < n
def inD(x:Str × Nat):D:= .tup [.str x.1,nI x.2]
def j6(x:Str × List Nat):D:= .tup [.str x.1, .tup (x.2.map nI)]
def aT(ins:PR)(gs:List Gt)(os:PU):D:= .tup [.lst (ins.map inD), .lst (gs.map jb), .lst (os.map j6)]
def bV(ins:PR):Nat:=(ins.map (·.2)).sum
def gF(g:Gt)(ws:List M):M:=fun p=>gv g.1 (g.2.1.map fun n=>ye ws n p)
def i0(bad:List Int)(b:M):Nat->List M->List M
 | 0,ws=>ws
 | n+1,ws=>i0 bad b n ws++[fun p=>b p !=bad.contains ((i0 bad b n ws).length:Int)]
theorem iT(bad:List Int)(b:M):∀n ws,(i0 bad b n ws).length=ws.length+n
 | 0,ws=>rfl
 | n+1,ws=>by unfold i0;rw [List.length_append,iT bad b n ws];rfl
def gx(ins:PR)(bits:List M)(bad:List Int):Nat->List M
 | 0=>[]
 | i+1=>match ins[i]?,bits[i]? with | some x,some b=>i0 bad b x.2 (gx ins bits bad i) | _,_=>gx ins bits bad i
theorem o8{ins:PR}{bits:List M}{bad:List Int}(hb:bits.length=ins.length):∀i,i<=ins.length->(gx ins bits bad i).length=bV (ins.take i)
 | 0,_=>rfl
 | i+1,hi=>by
   have h1:ins[i]? =some ins[i]:=List.getElem?_eq_getElem (by omega)
   have h2:bits[i]? =some bits[i]:=List.getElem?_eq_getElem (by omega)
   unfold gx;rw[h1,h2];show(i0 bad bits[i] ins[i].2 (gx ins bits bad i)).length=_;rw[iT,o8 hb i (by omega),List.take_add_one,h1]
   unfold bV;simp only[Option.toList_some,List.map_append,List.sum_append,List.map_cons,List.map_nil,List.sum_cons,List.sum_nil];omega
def sP(gs:List Gt)(turned:List Int)(w0:List M):Nat->List M
 | 0=>w0
 | i+1=>match gs[i]? with | some g=>sP gs turned w0 i++[fun p=>gF g (sP gs turned w0 i) p !=turned.contains (i:Int)] | none=>sP gs turned w0 i
theorem wI{gs:List Gt}{turned:List Int}{w0:List M}:∀i,i<=gs.length->(sP gs turned w0 i).length=w0.length+i
 | 0,_=>rfl
 | i+1,hi=>by
   have h1:gs[i]? =some gs[i]:=List.getElem?_eq_getElem (by omega)
   unfold sP;rw[h1];show(sP gs turned w0 i++[_]).length=_;rw[List.length_append,wI i (by omega)]
   rfl
structure en (ins:PR) (gs:List Gt) (os:PU):Prop where
 hi:ins.length < 100
 hw:∀x∈ins,x.2 < 100
 hg:gs.length < 1000
 g:∀(i:Nat) (x:Gt),gs[i]? =some x->vc (bV ins+i) x
 ho:os.length < 1000
 o:∀x∈os,x.2.length < 1000/\∀w∈x.2,w < bV ins+gs.length
def zA(ins:PR)(gs:List Gt)(bits:List M)(turned bad:List Int):List M:=sP gs turned (gx ins bits bad ins.length) gs.length
theorem ib:∀{l:PR},(∀x∈l,x.2 < 100)->bV l<=100*l.length
 | [],_=>by simp [bV]
 | x ::l,h=>by
   have ih:=ib (l:=l) fun y hy=>h y (List.mem_cons_of_mem _ hy)
   have:=h x List.mem_cons_self;unfold bV at ih ⊢;rw[List.map_cons,List.sum_cons,List.length_cons];omega
def tell(ws:List M)(x:Str × List Nat):List M:=x.2.map (ye ws)
def Pl:List Bool->Bool × Bool
 | [a]=>(!a,a)
 | [a,b]=>(!(a || b),a && b)
 | [a,b,c]=>let v:=(a && b) || (a && c) || (b && c);(!v,v)
 | _=>(false,false)
def brk(safe:Bool)(x y:Bool × Bool):Bool:=if safe then(x.1 && y.2) || (x.2 && y.1) else(x.1 !=y.1) || (x.2 !=y.2)
theorem rF(i:Int)(ps:List Int):xD (.int i) (.tup (ps.map .int))= .ok (.bl (ps.contains i)):=by
 show((match ints? (ps.map D.int) with | some ss=>R.ok (ss.contains i) | none=> .no)).bind (fun b=>R.ok (D.bl b))=_
 rw[L2.ints_map];rfl
theorem q_{ds:List D}{i:Nat}{v:V3}(h:((cT ds).map V3.d)[i]? =some v):∃d,ds[i]? =some d/\v= .d (.tup [.int i,d]):=by
 rw[List.getElem?_map,cT,List.getElem?_map,List.getElem?_zipIdx] at h;cases q:ds[i]? with
 | none=>rw [q] at h;cases h
 | some d=>
   rw[q] at h;simp at h;exact⟨d,rfl,h.symm⟩
theorem ym{c:av->R Bool}{δ:av}{b:Bool}{r:R D}(h:c δ= .ok b)(h2:(if b then f δ else g δ)=r):Gh c f g δ=r:=by unfold Gh;rw [h,R.aX];exact h2
theorem dH(S:bw)(x y:SO):(S++[x]).set S.length y=S++[y]:=by
 rw[List.set_append_right _ _ (Nat.le_refl _),Nat.sub_self];rfl
theorem bx(S:bw)(x:SO):(S++[x])[S.length]? =some x:=by rw[List.getElem?_append_right (Nat.le_refl _),Nat.sub_self];rfl
theorem Ew{N:Nat}{ws:List M}{n:Nat}(h:n < ws.length):b6 (.lst (ws.map (mI N))) (nI n)= .ok (mI N (ye ws n)):=by
 refine NT.de ?_;rw[List.getElem?_map,List.getElem?_eq_getElem h];unfold ye;rw[List.getD_eq_getElem?_getD,List.getElem?_eq_getElem h];rfl
def Mn:List Nat->Nat->PV
 | _,0=>[[]]
 | ps,s+1=>(List.range ps.length).flatMap fun a=>(Mn (ps.drop (a+1)) s).map (ps.getD a 0 ::·)
end MT
end
section
set_option maxHeartbeats 1000000
namespace JT
open PySem PySem.Spec PyProof.Rows L2 L3 MT
def gB(g:Gt)(ws:List Bool):Bool:=gv g.1 (g.2.1.map fun n=>ws.getD n false)
def cF:List Gt->(Nat->Bool)->List Bool->List Bool
 | [],_,ws=>ws
 | g ::gs,T,ws=>cF gs (fun i=>T (i+1)) (ws++[gB g ws !=T 0])
theorem ql(g:Gt)(gs:List Gt)(T:Nat->Bool)(ws:List Bool):cF (g ::gs) T ws=cF gs (fun i=>T (i+1)) (ws++[gB g ws !=T 0]):=rfl
theorem d8:∀(gs:List Gt) (T:Nat->Bool) (ws:List Bool),(cF gs T ws).length=ws.length+gs.length
 | [],_,_=>rfl
 | g ::gs,T,ws=>by
   unfold cF;rw[d8 gs,List.length_append];simp only[List.length_cons,List.length_nil];omega
theorem l4:∀(a b:List Gt) (T:Nat->Bool) (ws:List Bool),cF (a++b) T ws=cF b (fun i=>T (a.length+i)) (cF a T ws)
 | [],b,T,ws=>by simp [cF]
 | g ::a,b,T,ws=>by
   rw[List.cons_append,ql,ql,l4 a b];have:(fun i=>T (a.length+i+1))=fun i=>T ((g ::a).length+i):=by
    funext i;rw[List.length_cons];congr 1;omega
   rw[this]
theorem jc{l r:List Bool}{n:Nat}(h:n < l.length):(l++r).getD n false=l.getD n false:=by
 rw[List.getD_eq_getElem?_getD,List.getElem?_append_left h,List.getD_eq_getElem?_getD]
theorem lh{l r:List Bool}{n:Nat}:(l++r).getD (l.length+n) false=r.getD n false:=by
 rw[List.getD_eq_getElem?_getD,List.getElem?_append_right (by omega),Nat.add_sub_cancel_left,List.getD_eq_getElem?_getD]
theorem mw:∀(gs:List Gt) (T:Nat->Bool) (ws:List Bool) {n:Nat},n < ws.length->(cF gs T ws).getD n false=ws.getD n false
 | [],_,_,_,_=>rfl
 | g ::gs,T,ws,n,h=>by
   unfold cF;rw[mw gs _ _ (by rw[List.length_append];omega),jc h]
def iu(f:Nat->Nat)(g:Gt):Gt:=(g.1,g.2.1.map f,g.2.2)
def kJ(f:Nat->Nat)(x:Str × List Nat):Str × List Nat:=(x.1,x.2.map f)
def Sh(f:Nat->Nat)(v ws:List Bool):Prop:=∀w,w < v.length->f w < ws.length/\ws.getD (f w) false=v.getD w false
theorem E6{f:Nat->Nat}{v ws:List Bool}{g:Gt}(h:Sh f v ws)(hg:∀w∈g.2.1,w < v.length):gB (iu f g) ws=gB g v:=by
 unfold gB iu;simp only[List.map_map];congr 1;refine List.map_congr_left fun w hw=>?_
 exact(h w (hg w hw)).2
theorem rR:∀(gs:List Gt) (T:Nat->Bool) (f:Nat->Nat) (v ws:List Bool),Sh f v ws->(∀i,i < gs.length->f (v.length+i)=ws.length+i)->(∀i g,gs[i]? =some g->∀w∈g.2.1,w < v.length+i)->
 Sh f (cF gs T v) (cF (gs.map (iu f)) T ws)
 | [],_,_,_,_,h,_,_=>h
 | g ::gs,T,f,v,ws,h,hf,hg=>by
   rw[List.map_cons];unfold cF;rw[E6 h fun w hw=>by have:=hg 0 g rfl w hw;omega]
   refine rR gs _ f _ _ (fun w hw=>?_) (fun i hi=>?_) (fun i x hx w hw=>?_)
   .rw [List.length_append];by_cases q:w < v.length
    .obtain⟨h1,h2⟩:=h w q;exact⟨by omega,by rw[jc h1,jc q,h2]⟩
    .rw [List.length_append,List.length_cons,List.length_nil] at hw;have e:w=v.length+0:=by omega
     subst e;rw[hf 0 (by simp)]
     exact⟨by simp,by rw[lh,lh]⟩
   .rw [List.length_append,List.length_append,List.length_cons,List.length_nil];have:=hf (i+1) (by simpa using hi)
    rw[show v.length+(0+1)+i=v.length+(i+1) by omega,this]
    omega
   .have:=hg (i+1) x (by simpa using hx) w hw
    rw[List.length_append,List.length_cons,List.length_nil];omega
def mP(p:Nat)(ws:List M):List Bool:=ws.map (· p)
theorem Cs{p:Nat}{ws:List M}{n:Nat}:(mP p ws).getD n false=ye ws n p:=by
 unfold mP ye;rw[List.getD_eq_getElem?_getD,List.getElem?_map,List.getD_eq_getElem?_getD];cases ws[n]? <;> rfl
theorem Hh{p:Nat}{g:Gt}{ws:List M}:gF g ws p=gB g (mP p ws):=by
 unfold gF gB;congr 1;exact List.map_congr_left fun n _=>Cs.symm
theorem yZ{p:Nat}{gs:List Gt}{turned:List Int}{w0:List M}:∀i,i<=gs.length->mP p (sP gs turned w0 i)=cF (gs.take i) (fun j=>turned.contains (j:Int)) (mP p w0)
 | 0,_=>by simp [sP,cF]
 | i+1,h=>by
   have h1:gs[i]? =some gs[i]:=List.getElem?_eq_getElem (by omega)
   unfold sP;rw[h1];show mP p (sP gs turned w0 i++[_])=_;rw[List.take_add_one,h1,l4,<-yZ i (by omega),List.length_take,Nat.min_eq_left (by omega)]
   unfold mP;rw[List.map_append];show _++[gF gs[i] (sP gs turned w0 i) p !=turned.contains (i:Int)]=_;rw[Hh];rfl
def mf:List (Str × Nat)->List Bool->List Bool
 | x ::ins,b ::bits=>List.replicate x.2 b++mf ins bits
 | _,_=>[]
theorem sG(i:Str × Nat)(b:Bool)(a:PR)(x:List Bool):mf (i ::a) (b ::x)=List.replicate i.2 b++mf a x:=rfl
def bY(k:Nat)(bad:Nat->Bool):List Bool->List Bool
 | []=>[]
 | b ::bs=>(b !=bad k) ::bY (k+1) bad bs
theorem pB(bad:Nat->Bool)(k:Nat)(b:Bool)(bs:List Bool):bY k bad (b ::bs)=(b !=bad k) ::bY (k+1) bad bs:=rfl
theorem dS(bad:Nat->Bool):∀(k:Nat) (bs:List Bool),(bY k bad bs).length=bs.length
 | _,[]=>rfl
 | k,b ::bs=>by unfold bY;rw [List.length_cons,dS bad (k+1) bs,List.length_cons]
theorem iV(bad:Nat->Bool):∀(k:Nat) (a b:List Bool),bY k bad (a++b)=bY k bad a++bY (k+a.length) bad b
 | k,[],b=>by simp [bY]
 | k,x ::a,b=>by
   rw[List.cons_append,pB,pB,iV bad (k+1) a b,List.length_cons,List.cons_append,show k+1+a.length=k+(a.length+1) by omega]
theorem nE:∀{a:PR} {x:List Bool} (b:PR) (y:List Bool),a.length=x.length->mf (a++b) (x++y)=mf a x++mf b y
 | [],[],b,y,_=>rfl
 | [],_ ::_,_,_,h=>by simp at h
 | _ ::_,[],_,_,h=>by simp at h
 | i ::a,b0 ::x,b,y,h=>by
   rw[List.cons_append,List.cons_append,sG,sG,nE b y (by simpa using h),List.append_assoc]
theorem jf:∀{a:PR} {x:List Bool},a.length=x.length->(mf a x).length=bV a
 | [],[],_=>rfl
 | [],_ ::_,h=>by simp at h
 | _ ::_,[],h=>by simp at h
 | i ::a,b ::x,h=>by
   unfold mf;rw[List.length_append,List.length_replicate,jf (by simpa using h)]
   unfold bV;rw[List.map_cons,List.sum_cons]
theorem sV{p:Nat}{bad:List Int}{b:M}:∀(n:Nat) (ws:List M),mP p (i0 bad b n ws)=mP p ws++bY ws.length (fun k=>bad.contains (k:Int)) (List.replicate n (b p))
 | 0,ws=>by simp [i0,bY]
 | n+1,ws=>by
   unfold i0 mP;rw[List.map_append];have ih:=sV (p:=p) (bad:=bad) (b:=b) n ws;unfold mP at ih;rw[ih,List.append_assoc,List.replicate_succ',iV,List.length_replicate,iT];rfl
theorem wt{p:Nat}{ins:PR}{bits:List M}{bad:List Int}(hb:bits.length=ins.length):∀i,i<=ins.length->mP p (gx ins bits bad i)=bY 0 (fun k=>bad.contains (k:Int)) (mf (ins.take i) ((mP p bits).take i))
 | 0,_=>by simp [gx,mf,bY,mP]
 | i+1,h=>by
   have h1:ins[i]? =some ins[i]:=List.getElem?_eq_getElem (by omega)
   have h2:bits[i]? =some bits[i]:=List.getElem?_eq_getElem (by omega)
   unfold gx;rw[h1,h2];show mP p (i0 bad bits[i] ins[i].2 (gx ins bits bad i))=_;have h3:(mP p bits)[i]? =some (bits[i] p):=by unfold mP;rw [List.getElem?_map,h2];rfl
   have hl:(ins.take i).length=((mP p bits).take i).length:=by unfold mP;rw [List.length_take,List.length_take,List.length_map,hb]
   rw[sV,wt hb i (by omega),List.take_add_one,List.take_add_one,h1,h3,o8 hb i (by omega)]
   show _=bY 0 _ (mf (ins.take i++[ins[i]]) ((mP p bits).take i++[bits[i] p]));rw[nE _ _ hl,iV,jf hl,Nat.zero_add];congr 2;show _=mf [ins[i]] [bits[i] p];unfold mf;simp [mf]
def ju(ins:PR)(gs:List Gt)(bits:List Bool)(T bad:Nat->Bool):List Bool:=cF gs T (bY 0 bad (mf ins bits))
theorem Cj{p:Nat}{ins:PR}{gs:List Gt}{bits:List M}{turned bad:List Int}(hb:bits.length=ins.length):mP p (zA ins gs bits turned bad)=ju ins gs (mP p bits) (fun i=>turned.contains (i:Int)) (fun i=>bad.contains (i:Int)):=by
 unfold zA ju;rw[yZ _ (Nat.le_refl _),List.take_length,wt hb _ (Nat.le_refl _),List.take_length];congr 3;unfold mP;rw[List.take_of_length_le (by rw[List.length_map];omega)]
end JT
end
section
namespace JT
open PySem PySem.Spec PyProof.Rows L2 L3 MT
def cG(ws:List Bool)(ns:List Nat):List Bool:=ns.map fun n=>ws.getD n false
def gz(f:Nat->List Bool):List (Option Nat × Nat)->List Bool->List Bool
 | [],_=>[]
 | (some o,_) ::r,l=>f o++gz f r l
 | (none,w) ::r,l=>l.take w++gz f r (l.drop w)
def cH(f1:Nat->Nat)(os:Nat->List Nat):List (Option Nat × Nat)->Nat->List Nat
 | [],_=>[]
 | (some o,_) ::r,free=>(os o).map f1++cH f1 os r free
 | (none,w) ::r,free=>List.range' free w++cH f1 os r (free+w)
def aM:List (Option Nat × Nat)->Nat
 | []=>0
 | (some _,_) ::r=>aM r
 | (none,w) ::r=>w+aM r
theorem oH{f1:Nat->Nat}{os:Nat->List Nat}{W V:List Bool}:∀(φ:List (Option Nat × Nat)) (free:Nat) (l:List Bool),(∀o w,(some o,w)∈φ->∀n∈os o,f1 n < W.length/\W.getD (f1 n) false=V.getD n false)->(∀j,j < l.length->free+j < W.length/\W.getD (free+j) false=l.getD j false)->aM φ<=l.length->
 (∀n∈cH f1 os φ free,n < W.length)/\cG W (cH f1 os φ free)=gz (fun o=>cG V (os o)) φ l
 | [],_,_,_,_,_=>⟨by simp [cH],rfl⟩
 | (some o,w) ::r,free,l,h1,h2,h3=>by
   obtain⟨i1,i2⟩:=oH r free l (fun o w h=>h1 o w (List.mem_cons_of_mem _ h)) h2 h3
   have h0:=h1 o w List.mem_cons_self;unfold cH gz;refine⟨fun n hn=>?_,?_⟩
   .rcases List.mem_append.mp hn with z | z
    .obtain⟨m,hm,rfl⟩:=List.mem_map.mp z;exact(h0 m hm).1
    .exact i1 n z
   .unfold cG at i2 ⊢;rw[List.map_append,i2,List.map_map];congr 1;exact List.map_congr_left fun n hn=>(h0 n hn).2
 | (none,w) ::r,free,l,h1,h2,h3=>by
   unfold aM at h3;obtain⟨i1,i2⟩:=oH r (free+w) (l.drop w) (fun o w h=>h1 o w (List.mem_cons_of_mem _ h)) (fun j hj=>by
    rw[List.length_drop] at hj;have:=h2 (w+j) (by omega)
    rw[show free+w+j=free+(w+j) by omega]
    refine⟨this.1,this.2.trans ?_⟩;rw[List.getD_eq_getElem?_getD,List.getD_eq_getElem?_getD,List.getElem?_drop]) (by rw[List.length_drop];omega)
   unfold cH gz;refine⟨fun n hn=>?_,?_⟩
   .rcases List.mem_append.mp hn with z | z
    .obtain⟨j,hj,rfl⟩:=List.mem_range'.mp z;rw[Nat.one_mul];exact(h2 j (by omega)).1
    .exact i1 n z
   .unfold cG at i2 ⊢;rw[List.map_append,i2];congr 1;refine List.ext_getElem (by rw[List.length_map,List.length_range',List.length_take];omega) fun j IL Ky=>?_
    rw[List.length_map,List.length_range'] at IL;rw[List.getElem_map,List.getElem_range',Nat.one_mul,(h2 j (by omega)).2,List.getElem_take,List.getD_eq_getElem?_getD,List.getElem?_eq_getElem (by omega)]
    rfl
theorem iZ{f1:Nat->Nat}{os:Nat->List Nat}:∀(φ:List (Option Nat × Nat)) (free:Nat),(∀o w,(some o,w)∈φ->(os o).length=w)->(cH f1 os φ free).length=(φ.map (·.2)).sum
 | [],_,_=>rfl
 | (some o,w) ::r,free,h=>by
   unfold cH;rw[List.length_append,List.length_map,h o w List.mem_cons_self,iZ r free fun o w hh=>h o w (List.mem_cons_of_mem _ hh),List.map_cons,List.sum_cons]
 | (none,w) ::r,free,h=>by
   unfold cH;rw[List.length_append,List.length_range',iZ r (free+w) fun o w hh=>h o w (List.mem_cons_of_mem _ hh),List.map_cons,List.sum_cons]
def pH(n1 l w:Nat):Nat:=if w < n1 then w else w+l
def yf(L:List Nat)(top w:Nat):Nat:=if w < L.length then L.getD w 0 else top+(w - L.length)
section
variable {gs1 gs2:List Gt} {φ:List (Option Nat × Nat)} {os:Nat->List Nat} {n1:Nat} {r1 rl:List Bool} {T:Nat->Bool}
def gJ(gs1 gs2:List Gt)(φ:List (Option Nat × Nat))(os:Nat->List Nat)(n1:Nat):List Gt:=
 gs1.map (iu (pH n1 (aM φ)))++gs2.map (iu (yf (cH (pH n1 (aM φ)) os φ n1) (n1+aM φ+gs1.length)))
theorem uO(h1:r1.length=n1)(hl:rl.length=aM φ)(Mg:∀i g,gs1[i]? =some g->∀w∈g.2.1,w < n1+i)(ho:∀o w,(some o,w)∈φ->(os o).length=w/\∀n∈os o,n < n1+gs1.length)
 (Gk:∀i g,gs2[i]? =some g->∀w∈g.2.1,w < (φ.map (·.2)).sum+i) :
 let W:=cF (gJ gs1 gs2 φ os n1) T (r1++rl)
 let W1:=cF gs1 T r1
 Sh (pH n1 (aM φ)) W1 W/\Sh (yf (cH (pH n1 (aM φ)) os φ n1) (n1+aM φ+gs1.length)) (cF gs2 (fun i=>T (gs1.length+i)) (gz (fun o=>cG W1 (os o)) φ rl)) W:=by
 intro W W1;have e:W=cF (gs2.map (iu (yf (cH (pH n1 (aM φ)) os φ n1) (n1+aM φ+gs1.length)))) (fun i=>T (gs1.length+i)) (cF (gs1.map (iu (pH n1 (aM φ)))) T (r1++rl)):=by
  show cF (gs1.map _++gs2.map _) T (r1++rl)=_;rw[l4,List.length_map]
 have s1:Sh (pH n1 (aM φ)) W1 (cF (gs1.map (iu (pH n1 (aM φ)))) T (r1++rl)):=by
  refine rR gs1 T _ r1 (r1++rl) (fun w hw=>?_) (fun i hi=>?_) fun i g hx w hw=>by rw[h1];exact Mg i g hx w hw
  .unfold pH;rw[if_pos (by omega)]
   exact⟨by rw[List.length_append];omega,jc hw⟩
  .unfold pH;rw[if_neg (by omega),List.length_append]
   omega
 have hW1:W1.length=n1+gs1.length:=by rw[d8,h1]
 generalize hV:cF (gs1.map (iu (pH n1 (aM φ)))) T (r1++rl)=V at s1 e;have hVl:V.length=n1+aM φ+gs1.length:=by rw[<-hV,d8,List.length_append,List.length_map,h1,hl]
 obtain⟨a1,a2⟩:=oH (f1:=pH n1 (aM φ)) (os:=os) (W:=V) (V:=W1) φ n1 rl (fun o w h n hn=>s1 n (by rw[hW1];exact(ho o w h).2 n hn)) (fun j hj=>by
  refine⟨by rw[hVl];omega,?_⟩
  rw[<-hV,mw _ _ _ (by rw[List.length_append];omega),<-h1,lh]) (by omega)
 have hL:=iZ (f1:=pH n1 (aM φ)) (os:=os) φ n1 fun o w h=>(ho o w h).1
 generalize cH (pH n1 (aM φ)) os φ n1=L at a1 a2 hL e ⊢;have hm:(gz (fun o=>cG W1 (os o)) φ rl).length=L.length:=by rw[<-a2];unfold cG;rw [List.length_map]
 have s2:Sh (yf L (n1+aM φ+gs1.length)) (gz (fun o=>cG W1 (os o)) φ rl) V:=fun w hw=>by
  rw[hm] at hw;unfold yf;rw[if_pos hw];have e1:L.getD w 0=L[w]:=by rw[List.getD_eq_getElem?_getD,List.getElem?_eq_getElem hw];rfl
  refine⟨by rw[e1];exact a1 _ (List.getElem_mem hw),?_⟩
  rw[<-a2,e1];unfold cG;rw[List.getD_eq_getElem?_getD (l:=L.map _),List.getElem?_map,List.getElem?_eq_getElem hw];rfl
 have s3:=rR gs2 (fun i=>T (gs1.length+i)) _ _ V s2 (fun i hi=>by
  unfold yf;rw[hm,if_neg (by omega),hVl]
  omega) fun i g hx w hw=>by rw[hm,hL];exact Gk i g hx w hw
 rw[<-e] at s3;refine⟨fun w hw=>?_,s3⟩
 obtain⟨q1,q2⟩:=s1 w hw;rw[e];exact⟨by rw[d8];omega,by rw[mw _ _ _ q1,q2]⟩
theorem t_{f:Nat->Nat}{v ws:List Bool}{ns:List Nat}(h:Sh f v ws)(hn:∀n∈ns,n < v.length):cG ws (ns.map f)=cG v ns:=by
 unfold cG;rw[List.map_map];exact List.map_congr_left fun n HV=>(h n (hn n HV)).2
end
def F8(bits:List Bool):List Bool:=bits.flatMap (List.replicate 3)
def Lm:List Bool->Bool
 | [a,b,c]=>(a && b) || (a && c) || (b && c)
 | _=>false
def Lq:List Bool->Bool
 | [a,b,c]=>(a !=b) || (a !=c)
 | _=>false
def MC(xs ys:List Bool):List Bool:=List.zipWith (· !=·) xs ys
def lst(xs ys:List Bool):Bool:=Lm (MC xs ys)
def GQ:List Bool->List Bool->Prop
 | [],r=>r=[]
 | b ::bs,r=>∃x y z r',r=x ::y ::z ::r'/\Lm [b !=x,b !=y,b !=z]=false/\GQ bs r'
def no:Nat->Bool:=fun _=>false
structure Na (c:Nat) (gs:List Gt) (os:PU):Prop where
 a:∀bits:List Bool,bits.length=c->∀x∈os,Lq (cG (cF gs no (F8 bits)) x.2)=false
 b:∀bits:List Bool,bits.length=c->∀i g,gs[i]? =some g->g.2.2=false->∀x∈os,lst (cG (cF gs no (F8 bits)) x.2) (cG (cF gs (fun j=>j==i) (F8 bits)) x.2)=false
 c:∀bits row:List Bool,bits.length=c->GQ bits row->∀x∈os,lst (cG (cF gs no (F8 bits)) x.2) (cG (cF gs no row) x.2)=false
def vN(v:Nat->Bool):List (Option Nat × Nat)->List Bool->List Bool
 | [],_=>[]
 | (some o,_) ::r,l=>v o ::vN v r l
 | (none,_) ::r,l=>l.headD false ::vN v r l.tail
def many:List (Option Nat × Nat)->Nat
 | []=>0
 | (some _,_) ::r=>many r
 | (none,_) ::r=>many r+1
end JT
end
section
namespace JT
open PySem PySem.Spec PyProof.Rows L2 L3 MT
structure OW (c1:Nat) (gs1 gs2:List Gt) (aI cz:PU) (φ:List (Option Nat × Nat)) (os:Nat->List Nat):Prop where
 h3:∀x∈φ,x.2=3
 g1:∀i g,gs1[i]? =some g->∀w∈g.2.1,w < 3*c1+i
 g2:∀i g,gs2[i]? =some g->∀w∈g.2.1,w < 3*φ.length+i
 o1:∀x∈aI,x.2.length=3/\∀n∈x.2,n < 3*c1+gs1.length
 o2:∀x∈cz,x.2.length=3/\∀n∈x.2,n < 3*φ.length+gs2.length
 ho:∀o w,(some o,w)∈φ->∃x∈aI,x.2=os o
section
variable {c1:Nat} {gs1 gs2:List Gt} {aI cz Mj:PU} {φ:List (Option Nat × Nat)} {os:Nat->List Nat}
abbrev LH(c1:Nat)(φ:List (Option Nat × Nat)):Nat->Nat:=pH (3*c1) (aM φ)
abbrev Nb(c1:Nat)(gs1:List Gt)(φ:List (Option Nat × Nat))(os:Nat->List Nat):Nat->Nat:=yf (cH (LH c1 φ) os φ (3*c1)) (3*c1+aM φ+gs1.length)
def L1(c1:Nat)(gs1:List Gt)(aI cz Mj:PU)(φ:List (Option Nat × Nat))(os:Nat->List Nat):Prop:=
 ∀x∈Mj,(∃y∈aI,x.2=y.2.map (LH c1 φ))\/∃y∈cz,x.2=y.2.map (Nb c1 gs1 φ os)
theorem n5(ws:List Bool)(ns:List Nat):(cG ws ns).length=ns.length:=by unfold cG;rw [List.length_map]
end
end JT
end
section
namespace JT
open PySem PySem.Spec PyProof.Rows L2 L3 MT
def zj:Nat->List (List Bool)
 | 0=>[[]]
 | c+1=>(zj c).flatMap fun b=>[b++[false],b++[true]]
def MH(c j:Nat):M:=fun p=>((zj c).getD p []).getD j false
def Nk(c:Nat):List M:=(List.range c).map (MH c)
def C4(c p:Nat):List Bool:=(zj c).getD p []
def Lu(f e:Nat):Nat->PV
 | 0=>[[]]
 | m+1=>(List.range' f (e - f)).flatMap fun w=>(Lu ((w / 3+1)*3) e m).map (w ::·)
def NZ(f e:Nat):List Nat->Prop
 | []=>True
 | w ::B=>f<=w/\w < e/\NZ ((w / 3+1)*3) e B
def J_(c:Nat)(gs:List Gt):List (List Nat × List Nat):=
 (gs.zipIdx.filter (fun x=>!x.1.2.2)).map (fun x=>(([]:List Nat),[x.2]))++(List.range' 1 c).flatMap fun m=>(Lu 0 (3*c) m).map fun B=>(B,([]:List Nat))
def zh(c:Nat)(gs:List Gt)(p:Nat):List Bool:=cF gs no (F8 (C4 c p))
def Ff(c:Nat)(gs:List Gt)(f:List Nat × List Nat)(p:Nat):List Bool:=cF gs (fun i=>f.2.contains i) (bY 0 (fun n=>f.1.contains n) (F8 (C4 c p)))
def J4(c:Nat)(gs:List Gt)(os:PU)(p:Nat):Bool:=os.any fun x=>Lq (cG (zh c gs p) x.2)
def G5(c:Nat)(gs:List Gt)(os:PU)(f:List Nat × List Nat)(p:Nat):Bool:=os.any fun x=>lst (cG (zh c gs p) x.2) (cG (Ff c gs f p) x.2)
def Jk(c:Nat)(gs:List Gt)(os:PU):Option (List Nat × List Nat × Nat):=
 match (List.range (2 ^ c)).find? (J4 c gs os) with
 | some p=>some ([],[],p)
 | none=>(J_ c gs).findSome? fun f=>((List.range (2 ^ c)).find? (G5 c gs os f)).map fun p=>(f.1,f.2,p)
end JT
end
section
namespace JT
open PySem PySem.Spec PyProof.Rows L2 L3 MT
theorem gK{a b:Nat}(h:0 < b):fG (nI a) (nI b)= .ok (nI (a % b)):=by
 show fG (.int a) (.int b)=_;rw[oO (by omega)];rfl
theorem Dn{a b:Nat}(h:0 < b)(h2:b < 1073741824):mS (nI a) (nI b)= .ok (nI (a / b)):=by
 show mS (.int a) (.int b)=_;rw[vI (by omega) (by omega)];rfl
theorem dw(a b:Nat):cf (nI a) (nI b)= .ok (nI (a+b)):=rfl
theorem C3{a b:Nat}(h:b<=a):lJ (nI a) (nI b)= .ok (nI (a - b)):=by
 show R.ok (D.int ((a:Int) - b))=R.ok (D.int ((a - b:Nat):Int));rw[Int.ofNat_sub h]
theorem tK{a b:Nat}(h:b < 1000000\/a < 1000000):kl (nI a) (nI b)= .ok (nI (a*b)):=by
 show R.a_ (decide _) (R.ok (D.int ((a:Int)*b)))=_;have hc:(-(2 ^ 64) < (a:Int)/\(a:Int) < 2 ^ 64)\/(-(2 ^ 64) < (b:Int)/\(b:Int) < 2 ^ 64):=by
  rcases h with h | h
  .exact .inr ⟨by omega,by omega⟩
  .exact .inl ⟨by omega,by omega⟩
 rw[bM _ hc];rfl
theorem BF(a b:Nat):tP (nI a) (nI b)= .ok (.bl (decide (a=b))):=by
 show R.ok (D.bl ((a:Int)==(b:Int)))=_;congr 2;by_cases h:a=b
 .rw [decide_eq_true h];exact beq_iff_eq.mpr (by omega)
 .rw [decide_eq_false h];exact beq_eq_false_iff_ne.mpr (by omega)
theorem JN(a b:Nat):y0 (nI a) (nI b)= .ok (.bl (decide (b < a))):=by
 show R.ok (D.bl (decide ((a:Int) > (b:Int))))=_;congr 2;by_cases h:b < a
 .rw [decide_eq_true h,decide_eq_true (by omega)]
 .rw [decide_eq_false h,decide_eq_false (by omega)]
theorem f7{ds:List D}:d3 [.lst ds]= .ok (nI ds.length):=rfl
theorem EN{ds:List D}:d3 [.tup ds]= .ok (nI ds.length):=rfl
theorem jM{f:FD}{δ:av}{n:Nat}(h:f δ= .ok (nI n))(hn:n < 1000000):cV f δ= .ok ((List.range n).map nI):=by
 rw[rA h hn];unfold il;congr 1;refine List.map_congr_left fun i _=>?_
 show D.int (0+(i:Int))=D.int (i:Int);rw[Int.zero_add]
def OT(T:List Nat):D:= .tup (T.map nI)
def Eh(r:Nat):Nat:=[1,2,3,4,0].getD (r % 5) 0
theorem EC(r:Nat):Eh r<=4:=by
 have:r % 5 < 5:=Nat.mod_lt _ (by omega)
 unfold Eh;generalize r % 5=m at this
 match m,this with
 | 0,_=>decide
 | 1,_=>decide
 | 2,_=>decide
 | 3,_=>decide
 | 4,_=>decide
theorem Hk{f:FD}{δ:av}{r:Nat}(h:f δ= .ok (nI r)):e2 b6 (eNew (fB (aj (eC (.str "and")) (aj (eC (.str "or")) (aj (eC (.str "xor")) (aj (eC (.str "vote")) (aj (eC (.str "not")) aG))))))) (e2 fG f (eC (.int 5))) δ= .ok (.str (kS (Eh r))):=by
 have hz:sizeLine=16777216:=sizeLine_eq;have h5:r % 5 < 5:=Nat.mod_lt _ (by omega)
 refine aq (a:= .lst [.str (kS 1), .str (kS 2), .str (kS 3), .str (kS 4), .str (kS 0)]) (b:=nI (r % 5)) rfl (aq (a:=nI r) (b:=nI 5) h rfl (gK (by omega))) (NT.de ?_)
 unfold Eh;generalize r % 5=m at h5
 match m,h5 with
 | 0,_=>rfl
 | 1,_=>rfl
 | 2,_=>rfl
 | 3,_=>rfl
 | 4,_=>rfl
theorem GA{f:FD}{δ:av}{k:Nat}(hk:k<=4)(h:f δ= .ok (.str (kS k))):z_ [((Sum.inr "not":Key),V.int 1),((Sum.inr "vote":Key),V.int 3)] f (eC (.int 2)) δ= .ok (nI (ar k)):=by
 unfold z_;rw[h,R.aX]
 match k,hk with
 | 0,_=>rfl
 | 1,_=>rfl
 | 2,_=>rfl
 | 3,_=>rfl
 | 4,_=>rfl
end JT
end
section
namespace JT
open PySem PySem.Spec PyProof.Rows L2 L3 MT
theorem HI(p s:Nat):Bn (nI p) (nI s)= .ok (nI (p / 2 ^ s)):=by
 show R.a_ (decide ((0:Int)<=s)) (.ok (D.int ((p:Int) / 2 ^ ((s:Int)).toNat)))=_;rw[bM _ (by omega),Int.toNat_natCast]
 rfl
theorem EL(x:Nat):Dz (nI x) (nI 1)= .ok (bI (decide (x % 2=1))):=by
 show R.ok (D.int (Builtin.bitAnd (x:Int) ((1:Nat):Int)))=_;rw[n4,Nat.and_one_is_mod];unfold bI;have:x % 2=0\/x % 2=1:=by omega
 rcases this with q | q <;> rw[q] <;> rfl
theorem G0{n:Nat}(h:n<=10):Ce (.int 1) (nI n)= .ok (nI (2 ^ n)):=by
 unfold Ce yR nI;show R.a_ (decide ((0:Int)<=n/\(n:Int) < 1000/\ -1000 < (1:Int)/\(1:Int) < 1000)) (.ok (D.int (1*2 ^ ((n:Int)).toNat)))=_;rw[bM _ ⟨by omega,by omega,by omega,by omega⟩,Int.toNat_natCast,Int.one_mul]
 congr 2
end JT
end
section
namespace JT
open PySem PySem.Spec PyProof.Rows L2 L3 MT
theorem C_{S:bw}{q:Nat}{ds:List D}(e:S[q]? =some (.lst ds)):res S (.loc q)=some (.lst ds):=by unfold res;rw [e]
theorem yS{δ:DE}{S:bw}{i:Nat}{v:V3}{d:D}(h:δ[i]? =some (some v))(hr:res S v=some d):(c0 S δ)[i]? =some (.val d):=by
 unfold c0;rw[List.getElem?_map,h];show some (match res S v with | some d=>Sl.val d | none=> .un)=_
 rw[hr]
theorem J2(b:Bool):pN (bI b)=true:=by cases b <;> rfl
theorem C2:∀bs:List Bool,mZ (bs.map bI)=true
 | []=>by unfold mZ;rfl
 | b ::bs=>by
   rw[List.map_cons];unfold mZ;rw[J2,C2 bs];rfl
theorem Du{f:av->R (List D)}{g:FD}{δ:av}{ds:List D}{n:Nat}(h1:f δ= .ok ds)(h2:g δ= .ok (nI n))(hn:n < 1000000)(hl:ds.length*n<=sizeLine):yp f g δ= .ok (List.replicate n ds).flatten:=by
 unfold yp;rw[h1,R.aX,h2,R.aX];show R.a_ (decide (0<=(n:Int)/\(n:Int) < 1000000/\ds.length*(n:Int).toNat<=sizeLine)) _=_;rw[bM _ ⟨by omega,by omega,by rw[Int.toNat_natCast];exact hl⟩,Int.toNat_natCast]
theorem zt(d:D)(n:Nat):(List.replicate n [d]).flatten=List.replicate n d:=by
 induction n with
 | zero=>rfl
 | succ n ih=>rw [List.replicate_succ,List.flatten_cons,ih,List.replicate_succ];rfl
theorem DR(i:Nat)(T:List Nat):xD (nI i) (.tup (T.map nI))= .ok (.bl (T.contains i)):=by
 have e:T.map nI=(T.map fun(n:Nat)=>(n:Int)).map D.int:=(List.map_map (g:=D.int) (f:=fun(n:Nat)=>(n:Int)) (l:=T)).symm
 rw[e];show xD (.int (i:Int)) _=_;rw[rF];congr 2;rw[Bool.eq_iff_iff];simp only[List.contains_iff_mem,List.mem_map];constructor
 .rintro⟨a,ha,e⟩;rw[<-Int.ofNat_inj.mp e];exact ha
 .exact fun h=>⟨i,h,rfl⟩
theorem I0{ms:List Nat}{n x:Nat}(h:ms[n]? =some x):b6 (.lst (ms.map nI)) (nI n)= .ok (nI x):=NT.de (by rw[List.getElem?_map,h];rfl)
theorem yD{ws:List Bool}{n:Nat}(h:n < ws.length):b6 (.lst (ws.map bI)) (nI n)= .ok (bI (ws.getD n false)):=by
 refine NT.de ?_;rw[List.getElem?_map,List.getElem?_eq_getElem h];show _=some (bI (ws.getD n false));rw[List.getD_eq_getElem?_getD,List.getElem?_eq_getElem h];rfl
theorem o_{α:Type}{xs:List α}{f:α->D}:cT (xs.map f)=xs.zipIdx.map fun x=>D.tup [nI x.2,f x.1]:=by
 unfold cT;rw[List.zipIdx_map,List.map_map];rfl
end JT
end
section
set_option maxHeartbeats 4000000
namespace K36
open PySem PySem.Spec PyProof.Rows L2 L3
def sg:P0:=fun _=>0
variable {P:Program} {w:World} {K:W.Frag} {mg:PY} {base:Heap} {cl:P0}
def top(i:Nat):Stmt:=PySem.Challenge.pw_bearfaults_k36_whole_joined_runs_on.main.body.getD i (.Pass ⟨0,0,0,0⟩)
def fL:D:=(.int 6)
def dR:D:=(.int 60)
def eP:D:=(.int 6)
structure Tp (K:W.Frag) (mg:PY):Prop where
 z_enumerate:mg "enumerate"=none
 z_range:mg "range"=none
 z_len:mg "len"=none
 z_tuple:mg "tuple"=none
 z_sum:mg "sum"=none
 z_list:mg "list"=none
 z_int:mg "int"=none
 z_min:mg "min"=none
 z_max:mg "max"=none
 z_dict:mg "dict"=none
 fL:Glob K mg "MOST_INS" fL
 dR:Glob K mg "MOST_GATES" dR
 eP:Glob K mg "MOST_OUTS" eP
abbrev iW:Stmt:=top 9
noncomputable abbrev qe:List Str:=["masks"]
noncomputable def uX:{b:List Stmt // a9 iW=b}:=⟨_,by conv=>lhs;whnf⟩
noncomputable def o9:{b:Scope // aJ iW=b}:=⟨_,by conv=>lhs;whnf⟩
theorem w9:bp qe ["masks"] o9.1:=⟨rfl,rfl,rfl,by decide+kernel,rfl,by decide+kernel,by decide+kernel⟩
def qr:FS:=(gP (e2 HL (e2 HL (e2 Dz (e2 b6 (ae 0) (eC (.int 0))) (e2 b6 (ae 0) (eC (.int 1)))) (e2 Dz (e2 b6 (ae 0) (eC (.int 0))) (e2 b6 (ae 0) (eC (.int 2))))) (e2 Dz (e2 b6 (ae 0) (eC (.int 1))) (e2 b6 (ae 0) (eC (.int 2))))))
def i5:List D->R D:=qE qe qr
theorem xJ{K:W.Frag}{mg:PY}(T:Tp K mg)(h:Def K mg "vote_of" iW):Callee P w K mg base 1 "vote_of" 1 i5:=by
 obtain⟨f,fd,F,hm⟩:=h;exact⟨f,fd,_,cC (k:=0) uX.2 o9.2 F w9 (fun dC A outer s H E hr=>(bu (bX (ay DU (ay DU (ay Aa (aA (aa 0) ag (fun _ _=>rfl)) (aA (aa 0) ag (fun _ _=>rfl))) (ay Aa (aA (aa 0) ag (fun _ _=>rfl)) (aA (aa 0) ag (fun _ _=>rfl)))) (ay Aa (aA (aa 0) ag (fun _ _=>rfl)) (aA (aa 0) ag (fun _ _=>rfl))))))),hm,F.kp,F.binds fun _ _ _ _ _ _ us hl=>match us,hl with | [_],_=>rfl⟩
abbrev fX:Stmt:=top 10
noncomputable abbrev ki:List Str:=["kind","masks","full"]
noncomputable def rq:{b:List Stmt // a9 fX=b}:=⟨_,by conv=>lhs;whnf⟩
noncomputable def l_:{b:Scope // aJ fX=b}:=⟨_,by conv=>lhs;whnf⟩
theorem tL:bp ki ["kind","masks","full"] l_.1:=⟨rfl,rfl,rfl,by decide+kernel,rfl,by decide+kernel,by decide+kernel⟩
def mT:FS:=(fJ (tG (b2 tP (ae 0) (eC (.str "not"))) (gP (e2 Df (ae 2) (e2 b6 (ae 1) (eC (.int 0))))) m7) (fJ (tG (b2 tP (ae 0) (eC (.str "and"))) (gP (e2 Dz (e2 b6 (ae 1) (eC (.int 0))) (e2 b6 (ae 1) (eC (.int 1))))) m7) (fJ (tG (b2 tP (ae 0) (eC (.str "or"))) (gP (e2 HL (e2 b6 (ae 1) (eC (.int 0))) (e2 b6 (ae 1) (eC (.int 1))))) m7) (fJ (tG (b2 tP (ae 0) (eC (.str "xor"))) (gP (e2 Df (e2 b6 (ae 1) (eC (.int 0))) (e2 b6 (ae 1) (eC (.int 1))))) m7) (gP (aF i5 (aj (ae 1) aG)))))))
def fT:List D->R D:=qE ki mT
theorem sr{K:W.Frag}{mg:PY}(T:Tp K mg)(h:Def K mg "gate_mask" fX)(mJ:Callee P w K mg base 1 "vote_of" 1 i5):Callee P w K mg base 2 "gate_mask" 3 fT:=by
 obtain⟨f,fd,F,hm⟩:=h;exact⟨f,fd,_,cC (k:=1) rq.2 l_.2 F tL (fun dC A outer s H E hr=>(bK (e8 (bO (m4 hr.units) (aa 0) dc (cP _)) (bu (bX (ay CF (aa 2) (aA (aa 1) ag (fun _ _=>rfl))))) d9) (bK (e8 (bO (m4 hr.units) (aa 0) dc (cP _)) (bu (bX (ay Aa (aA (aa 1) ag (fun _ _=>rfl)) (aA (aa 1) ag (fun _ _=>rfl))))) d9) (bK (e8 (bO (m4 hr.units) (aa 0) dc (cP _)) (bu (bX (ay DU (aA (aa 1) ag (fun _ _=>rfl)) (aA (aa 1) ag (fun _ _=>rfl))))) d9) (bK (e8 (bO (m4 hr.units) (aa 0) dc (cP _)) (bu (bX (ay CF (aA (aa 1) ag (fun _ _=>rfl)) (aA (aa 1) ag (fun _ _=>rfl))))) d9) (bu (bX (aN mJ hr (by decide) rfl (ab (aa 1) af) (au aY))))))))),hm,F.kp,F.binds fun _ _ _ _ _ _ us hl=>match us,hl with | [_,_,_],_=>rfl⟩
abbrev dm:Stmt:=top 11
noncomputable abbrev eu:List Str:=["ins","in_masks","full","bad","wires","place","mask","figure"]
noncomputable def mq:{b:List Stmt // a9 dm=b}:=⟨_,by conv=>lhs;whnf⟩
noncomputable def iS:{b:Scope // aJ dm=b}:=⟨_,by conv=>lhs;whnf⟩
theorem dn:bp eu ["ins","in_masks","full","bad"] iS.1:=⟨rfl,rfl,rfl,by decide+kernel,rfl,by decide+kernel,by decide+kernel⟩
def e7:FZ:=(oD 4 (xT (Gh (b2 xD (aF d3 (aj (ae 4) aG)) (ae 3)) (e2 Df (ae 2) (ae 6)) (ae 6))))
def h_:FZ:=(kI (iP (cV (e2 b6 (e2 b6 (ae 0) (ae 5)) (eC (.int 1))))) (g6 7) e7)
def f9:FZ:=(bC (bS 4 (tJ (fB aG))) (bC (kI (iP (vq (ae 1))) (uc 2 (kP (g6 5) (kP (g6 6) ui))) h_) (lS (rX 4))))
def cU:List V3->bw->R3 V3:=pG eu f9
def xW:List V3->bw->R3 V3:=rh eu f9
theorem nc{K:W.Frag}{mg:PY}(T:Tp K mg)(h:Def K mg "in_wire_masks" dm):cg P w K mg base sg 1 "in_wire_masks" 4 cU:=by
 obtain⟨f,fd,F,hm⟩:=h;exact⟨f,fd,_,dk (k:=0) mq.2 iS.2 F dn (fun dC A outer s H E hr=>(aw (aZ dn.nd rfl (Or.inl rfl) (mG (cb af))) (aw (eR PassesOwn.never rfl (bA (u0 (aa 1) rfl T.z_enumerate)) (df rfl (aQ (aL dn.nd rfl (Or.inl rfl)) (aQ (aL dn.nd rfl (Or.inl rfl)) cE))) (bq (eR PassesOwn.never rfl (bA (bL (aA (aA (aa 0) (aa 5) (fun _ _=>rfl)) ag (fun _ _=>rfl)) rfl T.z_range)) (aL dn.nd rfl (Or.inl rfl)) (bq (mm rfl (Or.inl rfl) (nJ (yQ (bO zP (aR dI rfl T.z_len PySem.boot_len (ab (aa 4) af)) (aa 3) (by with_unfolding_all rfl)) (ay CF (aa 2) (aa 6)) (aa 6)))))))) (bq (gg (nU 4)))))),hm,F.kp,F.binds fun _ _ _ _ _ _ us hl=>match us,hl with | [_,_,_,_],_=>rfl⟩
abbrev gI:Stmt:=top 12
noncomputable abbrev k6:List Str:=["wires","numbers"]
noncomputable def so:{b:List Stmt // a9 gI=b}:=⟨_,by conv=>lhs;whnf⟩
noncomputable def j2:{b:Scope // aJ gI=b}:=⟨_,by conv=>lhs;whnf⟩
theorem u6:bp k6 ["wires","numbers"] j2.1:=⟨rfl,rfl,rfl,by decide+kernel,rfl,by decide+kernel,by decide+kernel⟩
def nR:FS:=(gP (aF j_ (aj (eNew (dy (c8 (ae 1)) (bc 0) jn (e2 b6 (ae 1) (ae 0)) ["number"] [0])) aG)))
def eJ:List D->R D:=qE k6 nR
theorem vi{K:W.Frag}{mg:PY}(T:Tp K mg)(h:Def K mg "masks_at" gI):Callee P w K mg base 1 "masks_at" 2 eJ:=by
 obtain⟨f,fd,F,hm⟩:=h;exact⟨f,fd,_,cC (k:=0) so.2 j2.2 F u6 (fun dC A outer s H E hr=>(bu (bX (bR kG rfl T.z_tuple PyProof.Rows.boot_tuple (ab (bo (ck rfl (bz.of (own:=["number"]) (kp:=[0]) (kn:=["wires"]) (sc:=j2.1) (N:=k6) rfl rfl (by decide+kernel)) (bU (aa 1)) (fun _ _ _=>(aO (show List.Nodup [(Str.ofString "number"),"wires"] from by decide+kernel) rfl (Or.inl rfl))) (fun _ _ _=>bZ) (fun _ _ _=>(aA (aa 1) (aa 0) (fun _ _=>rfl))))) af))))),hm,F.kp,F.binds fun _ _ _ _ _ _ us hl=>match us,hl with | [_,_],_=>rfl⟩
abbrev eX:Stmt:=top 13
noncomputable abbrev gr:List Str:=["net","in_masks","full","turned","bad","wires","place","gate","mask"]
noncomputable def pM:{b:List Stmt // a9 eX=b}:=⟨_,by conv=>lhs;whnf⟩
noncomputable def kQ:{b:Scope // aJ eX=b}:=⟨_,by conv=>lhs;whnf⟩
theorem fm:bp gr ["net","in_masks","full","turned","bad"] kQ.1:=⟨rfl,rfl,rfl,by decide+kernel,rfl,by decide+kernel,by decide+kernel⟩
def gQ:FZ:=(bC (bS 8 (xT (aF fT (aj (e2 b6 (ae 7) (eC (.int 0))) (aj (aF eJ (aj (ae 5) (aj (e2 b6 (ae 7) (eC (.int 1))) aG))) (aj (ae 2) aG)))))) (oD 5 (xP (Gh (b2 xD (ae 6) (ae 3)) (e2 Df (ae 2) (ae 8)) (ae 8)))))
def ja:FZ:=(bC (bS 5 (gq cU (bB (xP (e2 b6 (ae 0) (eC (.int 0)))) (bB (xP (ae 1)) (bB (xP (ae 2)) (bB (xP (ae 4)) jg)))))) (bC (kI (iP (eE (e2 b6 (ae 0) (eC (.int 1))))) (uc 2 (kP (g6 6) (kP (g6 7) ui))) gQ) (lS (rX 5))))
def pO:List V3->bw->R3 V3:=pG gr ja
def fO:List V3->bw->R3 V3:=rh gr ja
theorem qZ{K:W.Frag}{mg:PY}(T:Tp K mg)(h:Def K mg "wire_masks" eX)(fM:Callee P w K mg base 1 "masks_at" 2 eJ)(kx:Callee P w K mg base 2 "gate_mask" 3 fT)(dX:cg P w K mg base sg 1 "in_wire_masks" 4 cU):cg P w K mg base sg 3 "wire_masks" 5 pO:=by
 obtain⟨f,fd,F,hm⟩:=h;exact⟨f,fd,_,dk (k:=2) pM.2 kQ.2 F fm (fun dC A outer s H E hr=>(aw (aZ fm.nd rfl (Or.inl rfl) (dA dX hr (by decide) rfl (aH (ak (aA (aa 0) ag (fun _ _=>rfl))) (aH (ak (aa 1)) (aH (ak (aa 2)) (aH (ak (aa 4)) dz)))) (aD (aD (aD (aD cK)))))) (aw (eR PassesOwn.never rfl (bA (dP (aA (aa 0) ag (fun _ _=>rfl)) rfl T.z_enumerate)) (df rfl (aQ (aL fm.nd rfl (Or.inl rfl)) (aQ (aL fm.nd rfl (Or.inl rfl)) cE))) (aw (aZ fm.nd rfl (Or.inl rfl) (nJ (aN kx hr (by decide) rfl (ab (aA (aa 7) ag (fun _ _=>rfl)) (ab (aN fM hr (by decide) rfl (ab (aa 5) (ab (aA (aa 7) ag (fun _ _=>rfl)) af)) (au (au aY))) (ab (aa 2) af))) (au (au (au aY)))))) (bq (mm rfl (Or.inl rfl) (ak (yQ (bO zP (aa 6) (aa 3) (by with_unfolding_all rfl)) (ay CF (aa 2) (aa 8)) (aa 8))))))) (bq (gg (nU 5)))))),hm,F.kp,F.binds fun _ _ _ _ _ _ us hl=>match us,hl with | [_,_,_,_,_],_=>rfl⟩
abbrev fU:Stmt:=top 14
noncomputable abbrev fY:List Str:=["net","wires"]
noncomputable def qV:{b:List Stmt // a9 fU=b}:=⟨_,by conv=>lhs;whnf⟩
noncomputable def js:{b:Scope // aJ fU=b}:=⟨_,by conv=>lhs;whnf⟩
theorem sW:bp fY ["net","wires"] js.1:=⟨rfl,rfl,rfl,by decide+kernel,rfl,by decide+kernel,by decide+kernel⟩
def j0:FZ:=(lS (tJ (dy (c8 (e2 b6 (ae 0) (eC (.int 2)))) (fE 2 (bH (bc 0) (bH (bc 1) fD))) jn (aF eJ (aj (ae 2) (aj (ae 1) aG))) ["name","numbers"] [1])))
def rN:List V3->bw->R3 V3:=pG fY j0
def gy:List V3->bw->R3 V3:=rh fY j0
theorem tV{K:W.Frag}{mg:PY}(T:Tp K mg)(h:Def K mg "out_masks" fU)(fM:Callee P w K mg base 1 "masks_at" 2 eJ):cg P w K mg base sg 2 "out_masks" 2 rN:=by
 obtain⟨f,fd,F,hm⟩:=h;exact⟨f,fd,_,dk (k:=1) qV.2 js.2 F sW (fun dC A outer s H E hr=>(bq (gg (mG (ck rfl (bz.of (own:=["name","numbers"]) (kp:=[1]) (kn:=["wires"]) (sc:=js.1) (N:=fY) rfl rfl (by decide+kernel)) (bU (aA (aa 0) ag (fun _ _=>rfl))) (fun _ _ _=>(dj rfl (aW (aO (show List.Nodup [(Str.ofString "name"),"numbers","wires"] from by decide+kernel) rfl (Or.inl rfl)) (aW (aO (show List.Nodup [(Str.ofString "name"),"numbers","wires"] from by decide+kernel) rfl (Or.inl rfl)) cJ)))) (fun _ _ _=>bZ) (fun _ _ _=>(aN fM hr (by decide) rfl (ab (aa 2) (ab (aa 1) af)) (au (au aY))))))))),hm,F.kp,F.binds fun _ _ _ _ _ _ us hl=>match us,hl with | [_,_],_=>rfl⟩
abbrev sI:Stmt:=top 15
noncomputable abbrev wD:List Str:=["net","bits","turned","bad"]
noncomputable def D7:{b:List Stmt // a9 sI=b}:=⟨_,by conv=>lhs;whnf⟩
noncomputable def zZ:{b:Scope // aJ sI=b}:=⟨_,by conv=>lhs;whnf⟩
theorem Hl:bp wD ["net","bits","turned","bad"] zZ.1:=⟨rfl,rfl,rfl,by decide+kernel,rfl,by decide+kernel,by decide+kernel⟩
def yM:FZ:=(lS (gq gy (bB (xP (ae 0)) (bB (gq fO (bB (xP (ae 0)) (bB (xP (ae 1)) (bB (xP (eC (.int 1))) (bB (xP (ae 2)) (bB (xP (ae 3)) jg)))))) jg))))
def Fy:List V3->bw->R3 V3:=pG wD yM
def uR:List V3->bw->R3 V3:=rh wD yM
theorem Ha{K:W.Frag}{mg:PY}(T:Tp K mg)(h:Def K mg "run" sI)(iF:cg P w K mg base sg 3 "wire_masks" 5 fO)(jx:cg P w K mg base sg 2 "out_masks" 2 gy):cg P w K mg base sg 4 "run" 4 Fy:=by
 obtain⟨f,fd,F,hm⟩:=h;exact⟨f,fd,_,dk (k:=3) D7.2 zZ.2 F Hl (fun dC A outer s H E hr=>(bq (gg (dA jx hr (by decide) rfl (aH (ak (aa 0)) (aH (dA iF hr (by decide) rfl (aH (ak (aa 0)) (aH (ak (aa 1)) (aH (ak ag) (aH (ak (aa 2)) (aH (ak (aa 3)) dz))))) (aD (aD (aD (aD (aD cK)))))) dz)) (aD (aD cK)))))),hm,F.kp,F.binds fun _ _ _ _ _ _ us hl=>match us,hl with | [_,_,_,_],_=>rfl⟩
abbrev eU:Stmt:=top 17
noncomputable abbrev lP:List Str:=["one","other","pairs","out_place","in_place"]
noncomputable def pW:{b:List Stmt // a9 eU=b}:=⟨_,by conv=>lhs;whnf⟩
noncomputable def kW:{b:Scope // aJ eU=b}:=⟨_,by conv=>lhs;whnf⟩
theorem jo:bp lP ["one","other","pairs"] kW.1:=⟨rfl,rfl,rfl,by decide+kernel,rfl,by decide+kernel,by decide+kernel⟩
def gA:FS:=(tG (b2 Dc (aF d3 (aj (e2 b6 (e2 b6 (e2 b6 (ae 0) (eC (.int 2))) (ae 3)) (eC (.int 1))) aG)) (e2 b6 (e2 b6 (e2 b6 (ae 1) (eC (.int 0))) (ae 4)) (eC (.int 1)))) IY m7)
def l7:FS:=(wZ (c8 (ae 2)) (fE 2 (bH (bc 3) (bH (bc 4) fD))) gA)
def fk:List D->R D:=qE lP l7
theorem rQ{K:W.Frag}{mg:PY}(T:Tp K mg)(h:Def K mg "check_fits" eU):Callee P w K mg base 1 "check_fits" 3 fk:=by
 obtain⟨f,fd,F,hm⟩:=h;exact⟨f,fd,_,cC (k:=0) pW.2 kW.2 F jo (fun dC A outer s H E hr=>(bu (tZ PassesOwn.never rfl (bU (aa 2)) (dj rfl (aW (aO jo.nd rfl (Or.inl rfl)) (aW (aO jo.nd rfl (Or.inl rfl)) cJ))) (bu (e8 (bO (Et hr.units) (aR dI rfl T.z_len PySem.boot_len (ab (aA (aA (aA (aa 0) ag (fun _ _=>rfl)) (aa 3) (fun _ _=>rfl)) ag (fun _ _=>rfl)) af)) (aA (aA (aA (aa 1) ag (fun _ _=>rfl)) (aa 4) (fun _ _=>rfl)) ag (fun _ _=>rfl)) (cP _)) (bu vJ) d9))))),hm,F.kp,F.binds fun _ _ _ _ _ _ us hl=>match us,hl with | [_,_,_],_=>rfl⟩
abbrev ei:Stmt:=top 18
noncomputable abbrev fR:List Str:=["pairs","found","out_place","in_place"]
noncomputable def pz:{b:List Stmt // a9 ei=b}:=⟨_,by conv=>lhs;whnf⟩
noncomputable def kc:{b:Scope // aJ ei=b}:=⟨_,by conv=>lhs;whnf⟩
theorem fN:bp fR ["pairs"] kc.1:=⟨rfl,rfl,rfl,by decide+kernel,rfl,by decide+kernel,by decide+kernel⟩
def jJ:FZ:=(bC (Dp (bT (b2 sF (ae 3) (ae 1))) Jw uG) (qX (rX 1) (xP (ae 3)) (xP (ae 2))))
def ig:FZ:=(bC (bS 1 wo) (bC (kI (iP (c8 (ae 0))) (uc 2 (kP (g6 2) (kP (g6 3) ui))) jJ) (lS (rX 1))))
def oV:List V3->bw->R3 V3:=pG fR ig
def fj:List V3->bw->R3 V3:=rh fR ig
theorem pK{K:W.Frag}{mg:PY}(T:Tp K mg)(h:Def K mg "outs_of_ins" ei):cg P w K mg base sg 1 "outs_of_ins" 1 oV:=by
 obtain⟨f,fd,F,hm⟩:=h;exact⟨f,fd,_,dk (k:=0) pz.2 kc.2 F fN (fun dC A outer s H E hr=>(aw (aZ fN.nd rfl (Or.inl rfl) wc) (aw (eR PassesOwn.never rfl (bA (bU (aa 0))) (df rfl (aQ (aL fN.nd rfl (Or.inl rfl)) (aQ (aL fN.nd rfl (Or.inl rfl)) cE))) (aw (qq (tf (bO (vz (kU hr)) (aa 3) (aa 1) (by with_unfolding_all rfl))) (bq C9) lQ) (bq (tR (kU hr) (ak (aa 2)) (nU 1) (ak (aa 3)))))) (bq (gg (nU 1)))))),hm,F.kp,F.binds fun _ _ _ _ _ _ us hl=>match us,hl with | [_],_=>rfl⟩
abbrev el:Stmt:=top 19
noncomputable abbrev fP:List Str:=["told","names","name","rest"]
noncomputable def pj:{b:List Stmt // a9 el=b}:=⟨_,by conv=>lhs;whnf⟩
noncomputable def j1:{b:Scope // aJ el=b}:=⟨_,by conv=>lhs;whnf⟩
theorem fQ:bp fP ["told"] j1.1:=⟨rfl,rfl,rfl,by decide+kernel,rfl,by decide+kernel,by decide+kernel⟩
def jD:FZ:=(bC (Dp (bT (b2 sF (ae 2) (ae 1))) Jw uG) (qX (rX 1) (xP (ae 2)) (xP (eC (.bl true)))))
def ie:FZ:=(bC (bS 1 wo) (kI (iP (c8 (ae 0))) (uc 2 (kP (g6 2) (kP (g6 3) ui))) jD))
def oj:List V3->bw->R3 V3:=pG fP ie
def dJ:List V3->bw->R3 V3:=rh fP ie
theorem pR{K:W.Frag}{mg:PY}(T:Tp K mg)(h:Def K mg "check_names" el):cg P w K mg base sg 1 "check_names" 1 oj:=by
 obtain⟨f,fd,F,hm⟩:=h;exact⟨f,fd,_,dk (k:=0) pj.2 j1.2 F fQ (fun dC A outer s H E hr=>(aw (aZ fQ.nd rfl (Or.inl rfl) wc) (bq (eR PassesOwn.never rfl (bA (bU (aa 0))) (df rfl (aQ (aL fQ.nd rfl (Or.inl rfl)) (aQ (aL fQ.nd rfl (Or.inl rfl)) cE))) (aw (qq (tf (bO (vz (kU hr)) (aa 2) (aa 1) (by with_unfolding_all rfl))) (bq C9) lQ) (bq (tR (kU hr) (ak ur) (nU 1) (ak (aa 2))))))))),hm,F.kp,F.binds fun _ _ _ _ _ _ us hl=>match us,hl with | [_],_=>rfl⟩
abbrev e_:Stmt:=top 20
noncomputable abbrev dO:List Str:=["net"]
noncomputable def pU:{b:List Stmt // a9 e_=b}:=⟨_,by conv=>lhs;whnf⟩
noncomputable def k5:{b:Scope // aJ e_=b}:=⟨_,by conv=>lhs;whnf⟩
theorem qI:bp dO ["net"] k5.1:=⟨rfl,rfl,rfl,by decide+kernel,rfl,by decide+kernel,by decide+kernel⟩
def l0:FS:=(tG (Hi (b2 y0 (aF d3 (aj (e2 b6 (ae 0) (eC (.int 0))) aG)) (eC fL)) (Hi (b2 y0 (aF d3 (aj (e2 b6 (ae 0) (eC (.int 1))) aG)) (eC dR)) (b2 y0 (aF d3 (aj (e2 b6 (ae 0) (eC (.int 2))) aG)) (eC eP)))) IY m7)
def eV:List D->R D:=qE dO l0
theorem rp{K:W.Frag}{mg:PY}(T:Tp K mg)(h:Def K mg "check_room" e_):Callee P w K mg base 1 "check_room" 1 eV:=by
 obtain⟨f,fd,F,hm⟩:=h;exact⟨f,fd,_,cC (k:=0) pU.2 k5.2 F qI (fun dC A outer s H E hr=>(bu (e8 (vS (vR (bO zo (aR dI rfl T.z_len PySem.boot_len (ab (aA (aa 0) ag (fun _ _=>rfl)) af)) (oG T.fL rfl) (cP _)) (vR (bO zo (aR dI rfl T.z_len PySem.boot_len (ab (aA (aa 0) ag (fun _ _=>rfl)) af)) (oG T.dR rfl) (cP _)) (yW (bO zo (aR dI rfl T.z_len PySem.boot_len (ab (aA (aa 0) ag (fun _ _=>rfl)) af)) (oG T.eP rfl) (cP _)))))) (bu vJ) d9))),hm,F.kp,F.binds fun _ _ _ _ _ _ us hl=>match us,hl with | [_],_=>rfl⟩
abbrev eZ:Stmt:=top 21
noncomputable abbrev jq:List Str:=["ins"]
noncomputable def pV:{b:List Stmt // a9 eZ=b}:=⟨_,by conv=>lhs;whnf⟩
noncomputable def iq:{b:Scope // aJ eZ=b}:=⟨_,by conv=>lhs;whnf⟩
theorem rL:bp jq ["ins"] iq.1:=⟨rfl,rfl,rfl,by decide+kernel,rfl,by decide+kernel,by decide+kernel⟩
def lU:FS:=(gP (aF mY (aj (eNew (dy (c8 (ae 0)) (fE 2 (bH (bc 0) (bH (bc 1) fD))) jn (ae 1) ["name","width"] [])) aG)))
def cy:List D->R D:=qE jq lU
theorem qW{K:W.Frag}{mg:PY}(T:Tp K mg)(h:Def K mg "many_wires" eZ):Callee P w K mg base 1 "many_wires" 1 cy:=by
 obtain⟨f,fd,F,hm⟩:=h;exact⟨f,fd,_,cC (k:=0) pV.2 iq.2 F rL (fun dC A outer s H E hr=>(bu (bX (aR (oz rfl) rfl T.z_sum PyProof.Rows.boot_sum (ab (bo (ck rfl (bz.of (own:=["name","width"]) (kp:=[]) (kn:=[]) (sc:=iq.1) (N:=jq) rfl rfl (by decide+kernel)) (bU (aa 0)) (fun _ _ _=>(dj rfl (aW (aO (show List.Nodup [(Str.ofString "name"),"width"] from by decide+kernel) rfl (Or.inl rfl)) (aW (aO (show List.Nodup [(Str.ofString "name"),"width"] from by decide+kernel) rfl (Or.inl rfl)) cJ)))) (fun _ _ _=>bZ) (fun _ _ _=>(aa 1)))) af))))),hm,F.kp,F.binds fun _ _ _ _ _ _ us hl=>match us,hl with | [_],_=>rfl⟩
abbrev iL:Stmt:=top 22
noncomputable abbrev mC:List Str:=["told","numbers"]
noncomputable def vg:{b:List Stmt // a9 iL=b}:=⟨_,by conv=>lhs;whnf⟩
noncomputable def lj:{b:Scope // aJ iL=b}:=⟨_,by conv=>lhs;whnf⟩
theorem xf:bp mC ["told","numbers"] lj.1:=⟨rfl,rfl,rfl,by decide+kernel,rfl,by decide+kernel,by decide+kernel⟩
def p6:FS:=(gP (aF j_ (aj (eNew (dy (c8 (ae 0)) (bc 0) jn (e2 b6 (ae 1) (ae 0)) ["wire"] [1])) aG)))
def dQ:List D->R D:=qE mC p6
theorem wR{K:W.Frag}{mg:PY}(T:Tp K mg)(h:Def K mg "rewired" iL):Callee P w K mg base 1 "rewired" 2 dQ:=by
 obtain⟨f,fd,F,hm⟩:=h;exact⟨f,fd,_,cC (k:=0) vg.2 lj.2 F xf (fun dC A outer s H E hr=>(bu (bX (bR kG rfl T.z_tuple PyProof.Rows.boot_tuple (ab (bo (ck rfl (bz.of (own:=["wire"]) (kp:=[1]) (kn:=["numbers"]) (sc:=lj.1) (N:=mC) rfl rfl (by decide+kernel)) (bU (aa 0)) (fun _ _ _=>(aO (show List.Nodup [(Str.ofString "wire"),"numbers"] from by decide+kernel) rfl (Or.inl rfl))) (fun _ _ _=>bZ) (fun _ _ _=>(aA (aa 1) (aa 0) (fun _ _=>rfl))))) af))))),hm,F.kp,F.binds fun _ _ _ _ _ _ us hl=>match us,hl with | [_,_],_=>rfl⟩
abbrev dr:Stmt:=top 23
noncomputable abbrev gc:List Str:=["gates","numbers"]
noncomputable def mh:{b:List Stmt // a9 dr=b}:=⟨_,by conv=>lhs;whnf⟩
noncomputable def fI:{b:Scope // aJ dr=b}:=⟨_,by conv=>lhs;whnf⟩
theorem m8:bp gc ["gates","numbers"] fI.1:=⟨rfl,rfl,rfl,by decide+kernel,rfl,by decide+kernel,by decide+kernel⟩
def jC:FS:=(gP (eNew (dy (c8 (ae 0)) (fE 3 (bH (bc 0) (bH (bc 1) (bH (bc 2) fD)))) jn (fH (aj (ae 0) (aj (aF dQ (aj (ae 1) (aj (ae 3) aG))) (aj (ae 2) aG)))) ["kind","wires","sure"] [1])))
def cI:List D->R D:=qE gc jC
theorem nq{K:W.Frag}{mg:PY}(T:Tp K mg)(h:Def K mg "rewired_gates" dr)(dW:Callee P w K mg base 1 "rewired" 2 dQ):Callee P w K mg base 2 "rewired_gates" 2 cI:=by
 obtain⟨f,fd,F,hm⟩:=h;exact⟨f,fd,_,cC (k:=1) mh.2 fI.2 F m8 (fun dC A outer s H E hr=>(bu (bX (bo (ck rfl (bz.of (own:=["kind","wires","sure"]) (kp:=[1]) (kn:=["numbers"]) (sc:=fI.1) (N:=gc) rfl rfl (by decide+kernel)) (bU (aa 0)) (fun _ _ _=>(dj rfl (aW (aO (show List.Nodup [(Str.ofString "kind"),"wires","sure","numbers"] from by decide+kernel) rfl (Or.inl rfl)) (aW (aO (show List.Nodup [(Str.ofString "kind"),"wires","sure","numbers"] from by decide+kernel) rfl (Or.inl rfl)) (aW (aO (show List.Nodup [(Str.ofString "kind"),"wires","sure","numbers"] from by decide+kernel) rfl (Or.inl rfl)) cJ))))) (fun _ _ _=>bZ) (fun _ _ _=>(b8 (ab (aa 0) (ab (aN dW hr (by decide) rfl (ab (aa 1) (ab (aa 3) af)) (au (au aY))) (ab (aa 2) af)))))))))),hm,F.kp,F.binds fun _ _ _ _ _ _ us hl=>match us,hl with | [_,_],_=>rfl⟩
abbrev dE:Stmt:=top 24
noncomputable abbrev gR:List Str:=["outs","numbers"]
noncomputable def nj:{b:List Stmt // a9 dE=b}:=⟨_,by conv=>lhs;whnf⟩
noncomputable def f_:{b:Scope // aJ dE=b}:=⟨_,by conv=>lhs;whnf⟩
theorem om:bp gR ["outs","numbers"] f_.1:=⟨rfl,rfl,rfl,by decide+kernel,rfl,by decide+kernel,by decide+kernel⟩
def kr:FS:=(gP (eNew (dy (c8 (ae 0)) (fE 2 (bH (bc 0) (bH (bc 1) fD))) jn (fH (aj (ae 0) (aj (aF dQ (aj (ae 1) (aj (ae 2) aG))) aG))) ["name","wires"] [1])))
def cW:List D->R D:=qE gR kr
theorem o7{K:W.Frag}{mg:PY}(T:Tp K mg)(h:Def K mg "rewired_outs" dE)(dW:Callee P w K mg base 1 "rewired" 2 dQ):Callee P w K mg base 2 "rewired_outs" 2 cW:=by
 obtain⟨f,fd,F,hm⟩:=h;exact⟨f,fd,_,cC (k:=1) nj.2 f_.2 F om (fun dC A outer s H E hr=>(bu (bX (bo (ck rfl (bz.of (own:=["name","wires"]) (kp:=[1]) (kn:=["numbers"]) (sc:=f_.1) (N:=gR) rfl rfl (by decide+kernel)) (bU (aa 0)) (fun _ _ _=>(dj rfl (aW (aO (show List.Nodup [(Str.ofString "name"),"wires","numbers"] from by decide+kernel) rfl (Or.inl rfl)) (aW (aO (show List.Nodup [(Str.ofString "name"),"wires","numbers"] from by decide+kernel) rfl (Or.inl rfl)) cJ)))) (fun _ _ _=>bZ) (fun _ _ _=>(b8 (ab (aa 0) (ab (aN dW hr (by decide) rfl (ab (aa 1) (ab (aa 2) af)) (au (au aY))) af))))))))),hm,F.kp,F.binds fun _ _ _ _ _ _ us hl=>match us,hl with | [_,_],_=>rfl⟩
abbrev d7:Stmt:=top 25
noncomputable abbrev eh:List Str:=["one","left_wires","many","numbers"]
noncomputable def oA:{b:List Stmt // a9 d7=b}:=⟨_,by conv=>lhs;whnf⟩
noncomputable def gC:{b:Scope // aJ d7=b}:=⟨_,by conv=>lhs;whnf⟩
theorem iy:bp eh ["one","left_wires"] gC.1:=⟨rfl,rfl,rfl,by decide+kernel,rfl,by decide+kernel,by decide+kernel⟩
def k3:FS:=(fJ (nS 2 (aF cy (aj (e2 b6 (ae 0) (eC (.int 0))) aG))) (fJ (uC 3 (Cv (ae 2))) (fJ (Bh 3 (dy (cV (aF d3 (aj (e2 b6 (ae 0) (eC (.int 1))) aG))) (bc 0) jn (e2 cf (e2 cf (ae 2) (ae 1)) (ae 0)) ["place"] [1,2])) (zf 3 (gP (ae 3))))))
def ee:List D->R D:=qE eh k3
theorem pI{K:W.Frag}{mg:PY}(T:Tp K mg)(h:Def K mg "one_numbers" d7)(cA:Callee P w K mg base 1 "many_wires" 1 cy):Callee P w K mg base 2 "one_numbers" 2 ee:=by
 obtain⟨f,fd,F,hm⟩:=h;exact⟨f,fd,_,cC (k:=1) oA.2 gC.2 F iy (fun dC A outer s H E hr=>(bK (iU iy.nd rfl (Or.inr rfl) (aN cA hr (by decide) rfl (ab (aA (aa 0) ag (fun _ _=>rfl)) af) (au aY))) (bK (sk iy.nd rfl (Or.inl rfl) (Cy rfl (aa 2) rfl T.z_list rfl T.z_range)) (bK (zY rfl (Or.inl rfl) (ck rfl (bz.of (own:=["place"]) (kp:=[1,2]) (kn:=["left_wires","many"]) (sc:=gC.1) (N:=eh) rfl rfl (by decide+kernel)) (bL (aR dI rfl T.z_len PySem.boot_len (ab (aA (aa 0) ag (fun _ _=>rfl)) af)) rfl T.z_range) (fun _ _ _=>(aO (show List.Nodup [(Str.ofString "place"),"left_wires","many"] from by decide+kernel) rfl (Or.inl rfl))) (fun _ _ _=>bZ) (fun _ _ _=>(ay bQ (ay bQ (aa 2) (aa 1)) (aa 0))))) (ub 3 (bu (bX (aa 3)))))))),hm,F.kp,F.binds fun _ _ _ _ _ _ us hl=>match us,hl with | [_,_],_=>rfl⟩
abbrev di:Stmt:=top 26
noncomputable abbrev er:List Str:=["other","one","numbers","named","found","free","place","told","top"]
noncomputable def mr:{b:List Stmt // a9 di=b}:=⟨_,by conv=>lhs;whnf⟩
noncomputable def i7:{b:Scope // aJ di=b}:=⟨_,by conv=>lhs;whnf⟩
theorem cu:bp er ["other","one","numbers","named"] i7.1:=⟨rfl,rfl,rfl,by decide+kernel,rfl,by decide+kernel,by decide+kernel⟩
def eW:FS:=(tG (b2 sF (ae 6) (ae 3)) (qc 4 (aF dQ (aj (e2 b6 (e2 b6 (e2 b6 (ae 1) (eC (.int 2))) (e2 tS (ae 3) (ae 6))) (eC (.int 1))) (aj (ae 2) aG)))) (fJ (qc 4 (eNew (ue (ae 5) (e2 cf (ae 5) (e2 b6 (ae 7) (eC (.int 1))))))) (nS 5 (e2 cf (ae 5) (e2 b6 (ae 7) (eC (.int 1)))))))
def jK:FS:=(fJ (uC 4 (fB aG)) (fJ (nS 5 (aF cy (aj (e2 b6 (ae 1) (eC (.int 0))) aG))) (fJ (wZ (eE (e2 b6 (ae 0) (eC (.int 0)))) (fE 2 (bH (bc 6) (bH (bc 7) fD))) eW) (fJ (nS 8 (e2 cf (ae 5) (aF d3 (aj (e2 b6 (ae 1) (eC (.int 1))) aG)))) (fJ (qc 4 (eNew (ue (ae 8) (e2 cf (ae 8) (aF d3 (aj (e2 b6 (ae 0) (eC (.int 1))) aG)))))) (zf 4 (gP (ae 4))))))))
def dq:List D->R D:=qE er jK
theorem ng{K:W.Frag}{mg:PY}(T:Tp K mg)(h:Def K mg "other_numbers" di)(cA:Callee P w K mg base 1 "many_wires" 1 cy)(dW:Callee P w K mg base 1 "rewired" 2 dQ):Callee P w K mg base 2 "other_numbers" 4 dq:=by
 obtain⟨f,fd,F,hm⟩:=h;exact⟨f,fd,_,cC (k:=1) mr.2 i7.2 F cu (fun dC A outer s H E hr=>(bK (sk cu.nd rfl (Or.inl rfl) (cb af)) (bK (iU cu.nd rfl (Or.inl rfl) (aN cA hr (by decide) rfl (ab (aA (aa 1) ag (fun _ _=>rfl)) af) (au aY))) (bK (tZ PassesOwn.never rfl (dP (aA (aa 0) ag (fun _ _=>rfl)) rfl T.z_enumerate) (dj rfl (aW (aO cu.nd rfl (Or.inl rfl)) (aW (aO cu.nd rfl (Or.inl rfl)) cJ))) (bu (e8 (bO (vz (kU hr)) (aa 6) (aa 3) (by with_unfolding_all rfl)) (bu (mv rfl (Or.inl rfl) (aN dW hr (by decide) rfl (ab (aA (aA (aA (aa 1) ag (fun _ _=>rfl)) (qx (kU hr) (aa 3) (aa 6) (fun _ _=>rfl)) (fun _ _=>rfl)) ag (fun _ _=>rfl)) (ab (aa 2) af)) (au (au aY))))) (bK (mv rfl (Or.inl rfl) (bo (tH rfl (aa 5) (ay bQ (aa 5) (aA (aa 7) ag (fun _ _=>rfl))) rfl T.z_list rfl T.z_range))) (bu (iU cu.nd rfl (Or.inl rfl) (ay bQ (aa 5) (aA (aa 7) ag (fun _ _=>rfl))))))))) (bK (iU cu.nd rfl (Or.inl rfl) (ay bQ (aa 5) (aR dI rfl T.z_len PySem.boot_len (ab (aA (aa 1) ag (fun _ _=>rfl)) af)))) (bK (mv rfl (Or.inl rfl) (bo (tH rfl (aa 8) (ay bQ (aa 8) (aR dI rfl T.z_len PySem.boot_len (ab (aA (aa 0) ag (fun _ _=>rfl)) af))) rfl T.z_list rfl T.z_range))) (ub 4 (bu (bX (aa 4)))))))))),hm,F.kp,F.binds fun _ _ _ _ _ _ us hl=>match us,hl with | [_,_,_,_],_=>rfl⟩
abbrev kj:Stmt:=top 27
noncomputable abbrev gH:List Str:=["one","other","pairs","named","fed_by","left_ins","left_outs","numbers","others","ins","gates","outs"]
noncomputable def wL:{b:List Stmt // a9 kj=b}:=⟨_,by conv=>lhs;whnf⟩
noncomputable def iR:{b:Scope // aJ kj=b}:=⟨_,by conv=>lhs;whnf⟩
theorem d6:bp gH ["one","other","pairs"] iR.1:=⟨rfl,rfl,rfl,by decide+kernel,rfl,by decide+kernel,by decide+kernel⟩
def nY:FZ:=(bC (qa (xP (aF fk (aj (ae 0) (aj (ae 1) (aj (ae 2) aG)))))) (bC (bS 3 (gq fj (bB (xP (ae 2)) jg))) (bC (bS 4 (xP (eNew (dy (c8 (ae 2)) (fE 2 (bH (bc 0) (bH (bc 1) fD))) jn (ae 0) ["out_place","in_place"] [])))) (bC (bS 5 (f6 (iP (eE (e2 b6 (ae 1) (eC (.int 0))))) (uc 2 (kP (g6 0) (kP (g6 1) ui))) (bP (b2 Bz (ae 0) (ae 2))) (xP (ae 1)) ["place","told"] [3])) (bC (bS 6 (f6 (iP (eE (e2 b6 (ae 0) (eC (.int 2))))) (uc 2 (kP (g6 0) (kP (g6 1) ui))) (bP (b2 oY (ae 0) (ae 2))) (xP (ae 1)) ["place","told"] [4])) (bC (bS 7 (xP (aF ee (aj (ae 0) (aj (aF cy (aj (ae 5) aG)) aG))))) (bC (bS 8 (xP (aF dq (aj (ae 1) (aj (ae 0) (aj (ae 7) (aj (ae 3) aG))))))) (bC (bS 9 (xP (e2 cf (e2 b6 (ae 0) (eC (.int 0))) (ae 5)))) (bC (bS 10 (xP (e2 cf (aF cI (aj (e2 b6 (ae 0) (eC (.int 1))) (aj (ae 7) aG))) (aF cI (aj (e2 b6 (ae 1) (eC (.int 1))) (aj (ae 8) aG)))))) (bC (bS 11 (xP (e2 cf (aF cW (aj (ae 6) (aj (ae 7) aG))) (aF cW (aj (e2 b6 (ae 1) (eC (.int 2))) (aj (ae 8) aG)))))) (bC (qa (gq dJ (bB (xP (ae 9)) jg))) (bC (qa (gq dJ (bB (xP (ae 11)) jg))) (bC (qa (xP (aF eV (aj (fH (aj (ae 9) (aj (ae 10) (aj (ae 11) aG)))) aG)))) (lS (xP (fH (aj (ae 9) (aj (ae 10) (aj (ae 11) aG)))))))))))))))))))
def xX:List V3->bw->R3 V3:=pG gH nY
def mE:List V3->bw->R3 V3:=rh gH nY
theorem zN{K:W.Frag}{mg:PY}(T:Tp K mg)(h:Def K mg "joined" kj)(jB:Callee P w K mg base 1 "check_fits" 3 fk)(cA:Callee P w K mg base 1 "many_wires" 1 cy)(iG:Callee P w K mg base 2 "one_numbers" 2 ee)(gn:Callee P w K mg base 2 "other_numbers" 4 dq)(eD:Callee P w K mg base 2 "rewired_gates" 2 cI)(fw:Callee P w K mg base 2 "rewired_outs" 2 cW)(jw:Callee P w K mg base 1 "check_room" 1 eV)(gY:cg P w K mg base sg 1 "outs_of_ins" 1 fj)(fu:cg P w K mg base sg 1 "check_names" 1 dJ):cg P w K mg base sg 3 "joined" 3 xX:=by
 obtain⟨f,fd,F,hm⟩:=h;exact⟨f,fd,_,dk (k:=2) wL.2 iR.2 F d6 (fun dC A outer s H E hr=>(aw (nG (ak (aN jB hr (by decide) rfl (ab (aa 0) (ab (aa 1) (ab (aa 2) af))) (au (au (au aY)))))) (aw (aZ d6.nd rfl (Or.inr rfl) (dA gY hr (by decide) rfl (aH (ak (aa 2)) dz) (aD cK))) (aw (aZ d6.nd rfl (Or.inr rfl) (ak (bo (ck rfl (bz.of (own:=["out_place","in_place"]) (kp:=[]) (kn:=[]) (sc:=iR.1) (N:=gH) rfl rfl (by decide+kernel)) (bU (aa 2)) (fun _ _ _=>(dj rfl (aW (aO (show List.Nodup [(Str.ofString "out_place"),"in_place"] from by decide+kernel) rfl (Or.inl rfl)) (aW (aO (show List.Nodup [(Str.ofString "out_place"),"in_place"] from by decide+kernel) rfl (Or.inl rfl)) cJ)))) (fun _ _ _=>bZ) (fun _ _ _=>(aa 0)))))) (aw (cS rfl d6.nd rfl rfl (bz.of (own:=["place","told"]) (kp:=[3]) (kn:=["named"]) (sc:=iR.1) (N:=gH) rfl rfl (by decide+kernel)) (bA (dP (aA (aa 1) ag (fun _ _=>rfl)) rfl T.z_enumerate)) (fun _ _ _=>(df rfl (aQ (aL (show List.Nodup [(Str.ofString "place"),"told","named"] from by decide+kernel) rfl (Or.inl rfl)) (aQ (aL (show List.Nodup [(Str.ofString "place"),"told","named"] from by decide+kernel) rfl (Or.inl rfl)) cE)))) (fun _ _ _=>(n8 (iM (bO (GK (kU hr)) (aa 0) (aa 2) (by with_unfolding_all rfl))))) (fun _ _ _=>(ak (aa 1)))) (aw (cS rfl d6.nd rfl rfl (bz.of (own:=["place","told"]) (kp:=[4]) (kn:=["fed_by"]) (sc:=iR.1) (N:=gH) rfl rfl (by decide+kernel)) (bA (dP (aA (aa 0) ag (fun _ _=>rfl)) rfl T.z_enumerate)) (fun _ _ _=>(df rfl (aQ (aL (show List.Nodup [(Str.ofString "place"),"told","fed_by"] from by decide+kernel) rfl (Or.inl rfl)) (aQ (aL (show List.Nodup [(Str.ofString "place"),"told","fed_by"] from by decide+kernel) rfl (Or.inl rfl)) cE)))) (fun _ _ _=>(n8 (iM (bO vU (aa 0) (aa 2) (by with_unfolding_all rfl))))) (fun _ _ _=>(ak (aa 1)))) (aw (aZ d6.nd rfl (Or.inl rfl) (ak (aN iG hr (by decide) rfl (ab (aa 0) (ab (aN cA hr (by decide) rfl (ab (aa 5) af) (au aY)) af)) (au (au aY))))) (aw (aZ d6.nd rfl (Or.inl rfl) (ak (aN gn hr (by decide) rfl (ab (aa 1) (ab (aa 0) (ab (aa 7) (ab (aa 3) af)))) (au (au (au (au aY))))))) (aw (aZ d6.nd rfl (Or.inl rfl) (ak (ay bQ (aA (aa 0) ag (fun _ _=>rfl)) (aa 5)))) (aw (aZ d6.nd rfl (Or.inl rfl) (ak (ay bQ (aN eD hr (by decide) rfl (ab (aA (aa 0) ag (fun _ _=>rfl)) (ab (aa 7) af)) (au (au aY))) (aN eD hr (by decide) rfl (ab (aA (aa 1) ag (fun _ _=>rfl)) (ab (aa 8) af)) (au (au aY)))))) (aw (aZ d6.nd rfl (Or.inl rfl) (ak (ay bQ (aN fw hr (by decide) rfl (ab (aa 6) (ab (aa 7) af)) (au (au aY))) (aN fw hr (by decide) rfl (ab (aA (aa 1) ag (fun _ _=>rfl)) (ab (aa 8) af)) (au (au aY)))))) (aw (nG (dA fu hr (by decide) rfl (aH (ak (aa 9)) dz) (aD cK))) (aw (nG (dA fu hr (by decide) rfl (aH (ak (aa 11)) dz) (aD cK))) (aw (nG (ak (aN jw hr (by decide) rfl (ab (b8 (ab (aa 9) (ab (aa 10) (ab (aa 11) af)))) af) (au aY)))) (bq (gg (ak (b8 (ab (aa 9) (ab (aa 10) (ab (aa 11) af))))))))))))))))))))),hm,F.kp,F.binds fun _ _ _ _ _ _ us hl=>match us,hl with | [_,_,_],_=>rfl⟩
abbrev gG:Stmt:=top 29
noncomputable abbrev je:List Str:=["cell","k","number"]
noncomputable def tY:{b:List Stmt // a9 gG=b}:=⟨_,by conv=>lhs;whnf⟩
noncomputable def mV:{b:Scope // aJ gG=b}:=⟨_,by conv=>lhs;whnf⟩
theorem ll:bp je ["cell","k"] mV.1:=⟨rfl,rfl,rfl,by decide+kernel,rfl,by decide+kernel,by decide+kernel⟩
def nT:FS:=(fJ (tG (b2 J6 (ae 0) (e2 xp (eC (.int 10)) (eC (.int 18)))) (gP (e2 fG (e2 Bn (e2 lJ (ae 0) (e2 xp (eC (.int 10)) (eC (.int 18)))) (e2 kl (eC (.int 28)) (ae 1))) (e2 xp (eC (.int 2)) (eC (.int 28))))) m7) (fJ (nS 2 (e2 fG (e2 kl (e2 cf (e2 cf (ae 0) (e2 kl (eC (.int 1013)) (ae 1))) (eC (.int 1))) (eC (.int 16807))) (eC (.int 2147483647)))) (fJ (nS 2 (e2 fG (e2 kl (ae 2) (ae 2)) (eC (.int 2147483629)))) (gP (e2 mS (e2 fG (e2 kl (ae 2) (eC (.int 39373))) (eC (.int 2147483587))) (eC (.int 8)))))))
def bg:List D->R D:=qE je nT
theorem uK{K:W.Frag}{mg:PY}(T:Tp K mg)(h:Def K mg "_law_stir" gG):Callee P w K mg base 1 "_law_stir" 2 bg:=by
 obtain⟨f,fd,F,hm⟩:=h;exact⟨f,fd,_,cC (k:=0) tY.2 mV.2 F ll (fun dC A outer s H E hr=>(bK (e8 (bO Jy (aa 0) (ay yO ag ag) (cP _)) (bu (bX (ay eM (ay DA (ay l9 (aa 0) (ay yO ag ag)) (ay kR ag (aa 1))) (ay yO ag ag)))) d9) (bK (iU ll.nd rfl (Or.inl rfl) (ay eM (ay kR (ay bQ (ay bQ (aa 0) (ay kR ag (aa 1))) ag) ag) ag)) (bK (iU ll.nd rfl (Or.inl rfl) (ay eM (ay kR (aa 2) (aa 2)) ag)) (bu (bX (ay uH (ay eM (ay kR (aa 2) ag) ag) ag))))))),hm,F.kp,F.binds fun _ _ _ _ _ _ us hl=>match us,hl with | [_,_],_=>rfl⟩
abbrev d5:Stmt:=top 30
noncomputable abbrev cB:List Str:=["cell","first","letters","widths","many","ins","count","gates","place","number","kind","some","outs","called","width"]
noncomputable def pA:{b:List Stmt // a9 d5=b}:=⟨_,by conv=>lhs;whnf⟩
noncomputable def cX:{b:Scope // aJ d5=b}:=⟨_,by conv=>lhs;whnf⟩
theorem bh:bp cB ["cell","first","letters","widths"] cX.1:=⟨rfl,rfl,rfl,by decide+kernel,rfl,by decide+kernel,by decide+kernel⟩
def gb:FZ:=(bC (bS 9 (xP (aF bg (aj (ae 0) (aj (e2 cf (e2 cf (ae 1) (eC (.int 10))) (e2 kl (eC (.int 5)) (ae 8))) aG))))) (bC (bS 10 (xP (e2 b6 (eNew (fB (aj (eC (.str "and")) (aj (eC (.str "or")) (aj (eC (.str "xor")) (aj (eC (.str "vote")) (aj (eC (.str "not")) aG))))))) (e2 fG (ae 9) (eC (.int 5)))))) (bC (bS 4 (xP (z_ [((Sum.inr "not":Key),V.int 1),((Sum.inr "vote":Key),V.int 3)] (ae 10) (eC (.int 2))))) (bC (bS 11 (f6 (iP (cV (ae 4))) (g6 0) oq (xP (e2 fG (aF bg (aj (ae 1) (aj (e2 cf (e2 cf (e2 cf (ae 2) (eC (.int 11))) (e2 kl (eC (.int 5)) (ae 4))) (ae 0)) aG))) (e2 cf (ae 3) (ae 4)))) ["k"] [0,1,6,8])) (oD 7 (xP (fH (aj (ae 10) (aj (aF j_ (aj (ae 11) aG)) (aj (e2 tP (e2 fG (e2 mS (ae 9) (eC (.int 5))) (eC (.int 3))) (eC (.int 0))) aG))))))))))
def gf:FZ:=(bC (bS 14 (xP (e2 b6 (ae 3) (e2 fG (aF bg (aj (ae 0) (aj (e2 cf (e2 cf (ae 1) (eC (.int 60))) (e2 kl (eC (.int 5)) (ae 8))) aG))) (aF d3 (aj (ae 3) aG)))))) (bC (bS 11 (f6 (iP (cV (ae 14))) (g6 0) oq (xP (e2 fG (aF bg (aj (ae 1) (aj (e2 cf (e2 cf (e2 cf (ae 2) (eC (.int 61))) (e2 kl (eC (.int 5)) (ae 5))) (ae 0)) aG))) (e2 cf (ae 3) (aF d3 (aj (ae 4) aG))))) ["k"] [0,1,6,7,8])) (oD 12 (xP (fH (aj (e2 b6 (ae 13) (ae 8)) (aj (aF j_ (aj (ae 11) aG)) aG)))))))
def iz:FZ:=(bC (bS 4 (xP (e2 cf (eC (.int 1)) (e2 fG (aF bg (aj (ae 0) (aj (ae 1) aG))) (eC (.int 3)))))) (bC (bS 5 (f6 (iP (cV (ae 4))) (g6 0) oq (xP (fH (aj (e2 b6 (ae 3) (ae 0)) (aj (e2 b6 (ae 4) (e2 fG (aF bg (aj (ae 1) (aj (e2 cf (e2 cf (ae 2) (eC (.int 1))) (ae 0)) aG))) (aF d3 (aj (ae 4) aG)))) aG)))) ["k"] [0,1,2,3])) (bC (bS 6 (xP (aF mY (aj (eNew (dy (c8 (ae 5)) (fE 2 (bH (bc 0) (bH (bc 1) fD))) jn (ae 1) ["name","width"] [])) aG)))) (bC (bS 7 (tJ (fB aG))) (bC (kI (iP (cV (e2 fG (aF bg (aj (ae 0) (aj (e2 cf (ae 1) (eC (.int 5))) aG))) (eC (.int 8))))) (g6 8) gb) (u_ 7 (bC (bS 12 (tJ (fB aG))) (bC (bS 13 (xP (CY (ae 2) (lH (e2 lJ (eC (.int 4)) (e2 kl (eC (.int 4)) (aF kZ (aj (e2 tP (e2 fG (aF bg (aj (ae 0) (aj (e2 cf (ae 1) (eC (.int 7))) aG))) (eC (.int 3))) (eC (.int 0))) aG))))) qD))) (bC (kI (iP (cV (e2 cf (eC (.int 1)) (e2 fG (aF bg (aj (ae 0) (aj (e2 cf (ae 1) (eC (.int 6))) aG))) (eC (.int 3)))))) (g6 8) gf) (u_ 12 (lS (xP (fH (aj (ae 5) (aj (ae 7) (aj (ae 12) aG))))))))))))))))
def oa:List V3->bw->R3 V3:=pG cB iz
def fg:List V3->bw->R3 V3:=rh cB iz
theorem pL{K:W.Frag}{mg:PY}(T:Tp K mg)(h:Def K mg "_law_any_net" d5)(bJ:Callee P w K mg base 1 "_law_stir" 2 bg):cg P w K mg base sg 2 "_law_any_net" 4 oa:=by
 obtain⟨f,fd,F,hm⟩:=h;exact⟨f,fd,_,dk (k:=1) pA.2 cX.2 F bh (fun dC A outer s H E hr=>(aw (aZ bh.nd rfl (Or.inl rfl) (ak (ay bQ ag (ay eM (aN bJ hr (by decide) rfl (ab (aa 0) (ab (aa 1) af)) (au (au aY))) ag)))) (aw (cS rfl bh.nd rfl rfl (bz.of (own:=["k"]) (kp:=[0,1,2,3]) (kn:=["cell","first","letters","widths"]) (sc:=cX.1) (N:=cB) rfl rfl (by decide+kernel)) (bA (bL (aa 4) rfl T.z_range)) (fun _ _ _=>(aL (show List.Nodup [(Str.ofString "k"),"cell","first","letters","widths"] from by decide+kernel) rfl (Or.inl rfl))) (fun _ _ _=>eL) (fun _ _ _=>(ak (b8 (ab (aA (aa 3) (aa 0) (fun _ _=>rfl)) (ab (aA (aa 4) (ay eM (aN bJ hr (by decide) rfl (ab (aa 1) (ab (ay bQ (ay bQ (aa 2) ag) (aa 0)) af)) (au (au aY))) (aR dI rfl T.z_len PySem.boot_len (ab (aa 4) af))) (fun _ _=>rfl)) af)))))) (aw (aZ bh.nd rfl (Or.inr rfl) (ak (aR (oz rfl) rfl T.z_sum PyProof.Rows.boot_sum (ab (bo (ck rfl (bz.of (own:=["name","width"]) (kp:=[]) (kn:=[]) (sc:=cX.1) (N:=cB) rfl rfl (by decide+kernel)) (bU (aa 5)) (fun _ _ _=>(dj rfl (aW (aO (show List.Nodup [(Str.ofString "name"),"width"] from by decide+kernel) rfl (Or.inl rfl)) (aW (aO (show List.Nodup [(Str.ofString "name"),"width"] from by decide+kernel) rfl (Or.inl rfl)) cJ)))) (fun _ _ _=>bZ) (fun _ _ _=>(aa 1)))) af)))) (aw (aZ bh.nd rfl (Or.inr rfl) (mG (cb af))) (aw (eR PassesOwn.never rfl (bA (bL (ay eM (aN bJ hr (by decide) rfl (ab (aa 0) (ab (ay bQ (aa 1) ag) af)) (au (au aY))) ag) rfl T.z_range)) (aL bh.nd rfl (Or.inr rfl)) (aw (aZ bh.nd rfl (Or.inl rfl) (ak (aN bJ hr (by decide) rfl (ab (aa 0) (ab (ay bQ (ay bQ (aa 1) ag) (ay kR ag (aa 8))) af)) (au (au aY))))) (aw (aZ bh.nd rfl (Or.inl rfl) (ak (aA (bo (cb (ab dc (ab dc (ab dc (ab dc (ab dc af))))))) (ay eM (aa 9) ag) (fun _ _=>rfl)))) (aw (aZ bh.nd rfl (Or.inl rfl) (ak (B5 (kU hr) (lO oX oP (lO oX oP wu)) rfl rfl (by simp) (fun _ _ _ h=>h) (by decide) (aa 10) ag ⟨rfl,rfl,rfl,rfl⟩ (Bo (lO oX oP (lO oX oP wu)) rfl rfl (by simp) (by decide))))) (aw (cS rfl bh.nd rfl rfl (bz.of (own:=["k"]) (kp:=[0,1,6,8]) (kn:=["cell","first","count","place"]) (sc:=cX.1) (N:=cB) rfl rfl (by decide+kernel)) (bA (bL (aa 4) rfl T.z_range)) (fun _ _ _=>(aL (show List.Nodup [(Str.ofString "k"),"cell","first","count","place"] from by decide+kernel) rfl (Or.inl rfl))) (fun _ _ _=>eL) (fun _ _ _=>(ak (ay eM (aN bJ hr (by decide) rfl (ab (aa 1) (ab (ay bQ (ay bQ (ay bQ (aa 2) ag) (ay kR ag (aa 4))) (aa 0)) af)) (au (au aY))) (ay bQ (aa 3) (aa 4)))))) (bq (mm rfl (Or.inr (Or.inl rfl)) (ak (b8 (ab (aa 10) (ab (bR kG rfl T.z_tuple PyProof.Rows.boot_tuple (ab (aa 11) af)) (ab (jt (m4 hr.units) (ay eM (ay uH (aa 9) ag) ag) ag (cP _)) af)))))))))))) (rG 7 (aw (aZ bh.nd rfl (Or.inl rfl) (mG (cb af))) (aw (aZ bh.nd rfl (Or.inl rfl) (ak (qU (aa 2) (ke (ay l9 ag (ay kR ag (bR ml rfl T.z_int PyProof.Rows.boot_int (ab (jt (m4 hr.units) (ay eM (aN bJ hr (by decide) rfl (ab (aa 0) (ab (ay bQ (aa 1) ag) af)) (au (au aY))) ag) ag (cP _)) af))))) lZ))) (aw (eR PassesOwn.never rfl (bA (bL (ay bQ ag (ay eM (aN bJ hr (by decide) rfl (ab (aa 0) (ab (ay bQ (aa 1) ag) af)) (au (au aY))) ag)) rfl T.z_range)) (aL bh.nd rfl (Or.inr rfl)) (aw (aZ bh.nd rfl (Or.inl rfl) (ak (aA (aa 3) (ay eM (aN bJ hr (by decide) rfl (ab (aa 0) (ab (ay bQ (ay bQ (aa 1) ag) (ay kR ag (aa 8))) af)) (au (au aY))) (aR dI rfl T.z_len PySem.boot_len (ab (aa 3) af))) (fun _ _=>rfl)))) (aw (cS rfl bh.nd rfl rfl (bz.of (own:=["k"]) (kp:=[0,1,6,7,8]) (kn:=["cell","first","count","gates","place"]) (sc:=cX.1) (N:=cB) rfl rfl (by decide+kernel)) (bA (bL (aa 14) rfl T.z_range)) (fun _ _ _=>(aL (show List.Nodup [(Str.ofString "k"),"cell","first","count","gates","place"] from by decide+kernel) rfl (Or.inl rfl))) (fun _ _ _=>eL) (fun _ _ _=>(ak (ay eM (aN bJ hr (by decide) rfl (ab (aa 1) (ab (ay bQ (ay bQ (ay bQ (aa 2) ag) (ay kR ag (aa 5))) (aa 0)) af)) (au (au aY))) (ay bQ (aa 3) (aR dI rfl T.z_len PySem.boot_len (ab (aa 4) af))))))) (bq (mm rfl (Or.inl rfl) (ak (b8 (ab (aA (aa 13) (aa 8) (fun _ _=>rfl)) (ab (bR kG rfl T.z_tuple PyProof.Rows.boot_tuple (ab (aa 11) af)) af))))))))) (rG 12 (bq (gg (ak (b8 (ab (aa 5) (ab (aa 7) (ab (aa 12) af)))))))))))))))))),hm,F.kp,F.binds fun _ _ _ _ _ _ us hl=>match us,hl with | [_,_,_,_],_=>rfl⟩
abbrev fW:Stmt:=top 31
noncomputable abbrev fV:List Str:=["cell","one","other","found","place","fits","number"]
noncomputable def rV:{b:List Stmt // a9 fW=b}:=⟨_,by conv=>lhs;whnf⟩
noncomputable def jh:{b:Scope // aJ fW=b}:=⟨_,by conv=>lhs;whnf⟩
theorem eN:bp fV ["cell","one","other"] jh.1:=⟨rfl,rfl,rfl,by decide+kernel,rfl,by decide+kernel,by decide+kernel⟩
def ik:FZ:=(bC (bS 5 (f6 (iP (cV (aF d3 (aj (e2 b6 (ae 1) (eC (.int 2))) aG)))) (g6 0) (bP (b2 tP (aF d3 (aj (e2 b6 (e2 b6 (e2 b6 (ae 1) (eC (.int 2))) (ae 0)) (eC (.int 1))) aG)) (e2 b6 (e2 b6 (e2 b6 (ae 2) (eC (.int 0))) (ae 3)) (eC (.int 1))))) (xP (ae 0)) ["out"] [1,2,4])) (bC (bS 6 (xP (aF bg (aj (ae 0) (aj (e2 cf (eC (.int 80)) (ae 4)) aG))))) (Dp (bP (BQ (b2 Dc (ae 5) (eNew (fB aG))) (b2 y0 (e2 fG (ae 6) (eC (.int 4))) (eC (.int 0))))) (oD 3 (xP (fH (aj (e2 b6 (ae 5) (e2 fG (e2 mS (ae 6) (eC (.int 4))) (aF d3 (aj (ae 5) aG)))) (aj (ae 4) aG))))) uG)))
def kf:FZ:=(bC (bS 3 (tJ (fB aG))) (bC (kI (iP (cV (aF d3 (aj (e2 b6 (ae 2) (eC (.int 0))) aG)))) (g6 4) ik) (u_ 3 (bC (Dp (bP (b2 tP (e2 fG (aF bg (aj (ae 0) (aj (eC (.int 84)) aG))) (eC (.int 2))) (eC (.int 0)))) (bS 3 (xP (Hz (ae 3)))) uG) (lS (xP (ae 3)))))))
def rm:List V3->bw->R3 V3:=pG fV kf
def jl:List V3->bw->R3 V3:=rh fV kf
theorem tp{K:W.Frag}{mg:PY}(T:Tp K mg)(h:Def K mg "_law_pairs" fW)(bJ:Callee P w K mg base 1 "_law_stir" 2 bg):cg P w K mg base sg 2 "_law_pairs" 3 rm:=by
 obtain⟨f,fd,F,hm⟩:=h;exact⟨f,fd,_,dk (k:=1) rV.2 jh.2 F eN (fun dC A outer s H E hr=>(aw (aZ eN.nd rfl (Or.inl rfl) (mG (cb af))) (aw (eR PassesOwn.never rfl (bA (bL (aR dI rfl T.z_len PySem.boot_len (ab (aA (aa 2) ag (fun _ _=>rfl)) af)) rfl T.z_range)) (aL eN.nd rfl (Or.inr rfl)) (aw (cS rfl eN.nd rfl rfl (bz.of (own:=["out"]) (kp:=[1,2,4]) (kn:=["one","other","place"]) (sc:=jh.1) (N:=fV) rfl rfl (by decide+kernel)) (bA (bL (aR dI rfl T.z_len PySem.boot_len (ab (aA (aa 1) ag (fun _ _=>rfl)) af)) rfl T.z_range)) (fun _ _ _=>(aL (show List.Nodup [(Str.ofString "out"),"one","other","place"] from by decide+kernel) rfl (Or.inl rfl))) (fun _ _ _=>(n8 (iM (bO (m4 hr.units) (aR dI rfl T.z_len PySem.boot_len (ab (aA (aA (aA (aa 1) ag (fun _ _=>rfl)) (aa 0) (fun _ _=>rfl)) ag (fun _ _=>rfl)) af)) (aA (aA (aA (aa 2) ag (fun _ _=>rfl)) (aa 3) (fun _ _=>rfl)) ag (fun _ _=>rfl)) (cP _))))) (fun _ _ _=>(ak (aa 0)))) (aw (aZ eN.nd rfl (Or.inl rfl) (ak (aN bJ hr (by decide) rfl (ab (aa 0) (ab (ay bQ ag (aa 4)) af)) (au (au aY))))) (bq (qq (iM (vS (Ai (bO (Et hr.units) (aa 5) (bo (cb af)) (cP _)) (xR (bO zo (ay eM (aa 6) ag) ag (cP _)))))) (bq (mm rfl (Or.inl rfl) (ak (b8 (ab (aA (aa 5) (ay eM (ay uH (aa 6) ag) (aR dI rfl T.z_len PySem.boot_len (ab (aa 5) af))) (fun _ _=>rfl)) (ab (aa 4) af)))))) lQ))))) (rG 3 (aw (qq (iM (bO (m4 hr.units) (ay eM (aN bJ hr (by decide) rfl (ab (aa 0) (ab ag af)) (au (au aY))) ag) ag (cP _))) (bq (aZ eN.nd rfl (Or.inl rfl) (ak (Cb (aa 3) (ke (A4 ag)))))) lQ) (bq (gg (ak (aa 3))))))))),hm,F.kp,F.binds fun _ _ _ _ _ _ us hl=>match us,hl with | [_,_,_],_=>rfl⟩
abbrev iJ:Stmt:=top 32
noncomputable abbrev qG:List Str:=["kind","some"]
noncomputable def u9:{b:List Stmt // a9 iJ=b}:=⟨_,by conv=>lhs;whnf⟩
noncomputable def oQ:{b:Scope // aJ iJ=b}:=⟨_,by conv=>lhs;whnf⟩
theorem xl:bp qG ["kind","some"] oQ.1:=⟨rfl,rfl,rfl,by decide+kernel,rfl,by decide+kernel,by decide+kernel⟩
def xV:FS:=(fJ (tG (b2 tP (ae 0) (eC (.str "not"))) (gP (e2 lJ (eC (.int 1)) (e2 b6 (ae 1) (eC (.int 0))))) m7) (fJ (tG (b2 tP (ae 0) (eC (.str "and"))) (gP (aF zi (aj (ae 1) aG))) m7) (fJ (tG (b2 tP (ae 0) (eC (.str "or"))) (gP (aF zD (aj (ae 1) aG))) m7) (gP (e2 b6 (eNew (fB (aj (aF kZ (aj (e2 y0 (aF mY (aj (ae 1) aG)) (eC (.int 1))) aG)) (aj (e2 fG (aF mY (aj (ae 1) aG)) (eC (.int 2))) aG)))) (aF kZ (aj (e2 tP (ae 0) (eC (.str "xor"))) aG)))))))
def kF:List D->R D:=qE qG xV
theorem xb{K:W.Frag}{mg:PY}(T:Tp K mg)(h:Def K mg "_law_bit" iJ):Callee P w K mg base 1 "_law_bit" 2 kF:=by
 obtain⟨f,fd,F,hm⟩:=h;exact⟨f,fd,_,cC (k:=0) u9.2 oQ.2 F xl (fun dC A outer s H E hr=>(bK (e8 (bO (m4 hr.units) (aa 0) dc (cP _)) (bu (bX (ay l9 ag (aA (aa 1) ag (fun _ _=>rfl))))) d9) (bK (e8 (bO (m4 hr.units) (aa 0) dc (cP _)) (bu (bX (aR (D4 rfl) rfl T.z_min PyProof.Rows.boot_min (ab (aa 1) af)))) d9) (bK (e8 (bO (m4 hr.units) (aa 0) dc (cP _)) (bu (bX (aR (DT rfl) rfl T.z_max PyProof.Rows.boot_max (ab (aa 1) af)))) d9) (bu (bX (aA (bo (cb (ab (bR ml rfl T.z_int PyProof.Rows.boot_int (ab (jt zo (aR (oz rfl) rfl T.z_sum PyProof.Rows.boot_sum (ab (aa 1) af)) ag (cP _)) af)) (ab (ay eM (aR (oz rfl) rfl T.z_sum PyProof.Rows.boot_sum (ab (aa 1) af)) ag) af)))) (bR ml rfl T.z_int PyProof.Rows.boot_int (ab (jt (m4 hr.units) (aa 0) dc (cP _)) af)) (fun _ _=>rfl)))))))),hm,F.kp,F.binds fun _ _ _ _ _ _ us hl=>match us,hl with | [_,_],_=>rfl⟩
abbrev gL:Stmt:=top 33
noncomputable abbrev fK:List Str:=["net","wires","turned","place","kind","own","sure","bit"]
noncomputable def sR:{b:List Stmt // a9 gL=b}:=⟨_,by conv=>lhs;whnf⟩
noncomputable def hX:{b:Scope // aJ gL=b}:=⟨_,by conv=>lhs;whnf⟩
theorem eK:bp fK ["net","wires","turned"] hX.1:=⟨rfl,rfl,rfl,by decide+kernel,rfl,by decide+kernel,by decide+kernel⟩
def jk:FZ:=(bC (bS 7 (xT (aF kF (aj (ae 4) (aj (eNew (dy (c8 (ae 5)) (bc 0) jn (e2 b6 (ae 1) (ae 0)) ["one"] [1])) aG))))) (oD 1 (xP (e2 b6 (eNew (fB (aj (ae 7) (aj (e2 lJ (eC (.int 1)) (ae 7)) aG)))) (aF kZ (aj (e2 xD (ae 3) (ae 2)) aG))))))
def lu:FZ:=(bC (bS 1 (tJ (nList (ae 1)))) (bC (kI (iP (eE (e2 b6 (ae 0) (eC (.int 1))))) (uc 2 (kP (g6 3) (kP (uc 3 (kP (g6 4) (kP (g6 5) (kP (g6 6) ui)))) ui))) jk) (lS (f6 (iP (c8 (e2 b6 (ae 0) (eC (.int 2))))) (uc 2 (kP (g6 0) (kP (g6 1) ui))) oq (xT (aF j_ (aj (eNew (dy (c8 (ae 1)) (bc 0) jn (e2 b6 (ae 1) (ae 0)) ["one"] [2])) aG))) ["name","own"] [1]))))
def tq:List V3->bw->R3 V3:=pG fK lu
def fZ:List V3->bw->R3 V3:=rh fK lu
theorem uB{K:W.Frag}{mg:PY}(T:Tp K mg)(h:Def K mg "_law_gone" gL)(mK:Callee P w K mg base 1 "_law_bit" 2 kF):cg P w K mg base sg 2 "_law_gone" 3 tq:=by
 obtain⟨f,fd,F,hm⟩:=h;exact⟨f,fd,_,dk (k:=1) sR.2 hX.2 F eK (fun dC A outer s H E hr=>(aw (aZ eK.nd rfl (Or.inr rfl) (mG (yU (aa 1) rfl T.z_list))) (aw (eR PassesOwn.never rfl (bA (dP (aA (aa 0) ag (fun _ _=>rfl)) rfl T.z_enumerate)) (df rfl (aQ (aL eK.nd rfl (Or.inl rfl)) (aQ (df rfl (aQ (aL eK.nd rfl (Or.inl rfl)) (aQ (aL eK.nd rfl (Or.inl rfl)) (aQ (aL eK.nd rfl (Or.inl rfl)) cE)))) cE))) (aw (aZ eK.nd rfl (Or.inl rfl) (nJ (aN mK hr (by decide) rfl (ab (aa 4) (ab (bo (ck rfl (bz.of (own:=["one"]) (kp:=[1]) (kn:=["wires"]) (sc:=hX.1) (N:=fK) rfl rfl (by decide+kernel)) (bU (aa 5)) (fun _ _ _=>(aO (show List.Nodup [(Str.ofString "one"),"wires"] from by decide+kernel) rfl (Or.inl rfl))) (fun _ _ _=>bZ) (fun _ _ _=>(aA (aa 1) (aa 0) (fun _ _=>rfl))))) af)) (au (au aY))))) (bq (mm rfl (Or.inr (Or.inl rfl)) (ak (aA (bo (cb (ab (aa 7) (ab (ay l9 ag (aa 7)) af)))) (bR ml rfl T.z_int PyProof.Rows.boot_int (ab (jt zP (aa 3) (aa 2) (by with_unfolding_all rfl)) af)) (fun _ _=>rfl))))))) (bq (gg (CB rfl (bz.of (own:=["name","own"]) (kp:=[1]) (kn:=["wires"]) (sc:=hX.1) (N:=fK) rfl rfl (by decide+kernel)) (bA (bU (aA (aa 0) ag (fun _ _=>rfl)))) (fun _ _ _=>(df rfl (aQ (aL (show List.Nodup [(Str.ofString "name"),"own","wires"] from by decide+kernel) rfl (Or.inl rfl)) (aQ (aL (show List.Nodup [(Str.ofString "name"),"own","wires"] from by decide+kernel) rfl (Or.inl rfl)) cE)))) (fun _ _ _=>eL) (fun _ _ _=>(nJ (bR kG rfl T.z_tuple PyProof.Rows.boot_tuple (ab (bo (ck rfl (bz.of (own:=["one"]) (kp:=[2]) (kn:=["wires"]) rfl rfl rfl) (bU (aa 1)) (fun _ _ _=>(aO (show List.Nodup [(Str.ofString "one"),"wires"] from by decide+kernel) rfl (Or.inl rfl))) (fun _ _ _=>bZ) (fun _ _ _=>(aA (aa 1) (aa 0) (fun _ _=>rfl))))) af)))))))))),hm,F.kp,F.binds fun _ _ _ _ _ _ us hl=>match us,hl with | [_,_,_],_=>rfl⟩
abbrev iI:Stmt:=top 34
noncomputable abbrev dt:List Str:=["one","other","pairs","bits","turned","bad","mine","k","name","width","rest","first","fed","yours","count","place","own","behind","second","used"]
noncomputable def uV:{b:List Stmt // a9 iI=b}:=⟨_,by conv=>lhs;whnf⟩
noncomputable def dD:{b:Scope // aJ iI=b}:=⟨_,by conv=>lhs;whnf⟩
theorem br:bp dt ["one","other","pairs","bits","turned","bad"] dD.1:=⟨rfl,rfl,rfl,by decide+kernel,rfl,by decide+kernel,by decide+kernel⟩
def j8:FZ:=(bS 6 (xP (e2 cf (ae 6) (eNew (yp (fB (aj (e2 b6 (ae 3) (ae 7)) aG)) (ae 9))))))
def j9:FZ:=(Dp (bP (b2 sF (ae 15) (ae 12))) (bS 13 (xP (e2 cf (ae 13) (aF wj (aj (e2 b6 (ae 11) (e2 tS (ae 12) (ae 15))) aG))))) (bC (bS 16 (xP (eNew (yp (fB (aj (e2 b6 (ae 10) (eC (.int 0))) aG)) (ae 9))))) (bC (bS 13 (xP (e2 cf (ae 13) (eNew (dy (eE (ae 16)) (fE 2 (bH (bc 0) (bH (bc 1) fD))) jn (e2 b6 (eNew (fB (aj (ae 1) (aj (e2 lJ (eC (.int 1)) (ae 1)) aG)))) (aF kZ (aj (e2 xD (e2 cf (ae 3) (ae 0)) (ae 2)) aG))) ["k","bit"] [5,14]))))) (bC (bS 14 (xP (e2 cf (ae 14) (ae 9)))) (bS 10 (xP (CY (ae 10) (lH (eC (.int 1))) qD)))))))
def mD:FZ:=(bC (bS 6 (xP (eNew (fB aG)))) (bC (kI (iP (eE (e2 b6 (ae 0) (eC (.int 0))))) (uc 2 (kP (g6 7) (kP (uc 2 (kP (g6 8) (kP (g6 9) ui))) ui))) j8) (bC (bS 10 (xP (CY (ae 3) (lH (aF d3 (aj (e2 b6 (ae 0) (eC (.int 0))) aG))) qD))) (bC (bS 6 (f6 (iP (eE (ae 6))) (uc 2 (kP (g6 0) (kP (g6 1) ui))) oq (xP (e2 b6 (eNew (fB (aj (ae 1) (aj (e2 lJ (eC (.int 1)) (ae 1)) aG)))) (aF kZ (aj (e2 xD (ae 0) (ae 2)) aG)))) ["wire","bit"] [5])) (bC (bS 11 (gq fZ (bB (xP (ae 0)) (bB (xP (ae 6)) (bB (xP (ae 4)) jg))))) (bC (bS 12 (xP (aF qQ (aj (eNew (dy (c8 (ae 2)) (fE 2 (bH (bc 0) (bH (bc 1) fD))) jn (fH (aj (ae 1) (aj (ae 0) aG))) ["out","place"] [])) aG)))) (bC (bS 13 (xP (eNew (fB aG)))) (bC (bS 14 (xP (aF d3 (aj (ae 6) aG)))) (bC (kI (iP (eE (e2 b6 (ae 1) (eC (.int 0))))) (uc 2 (kP (g6 15) (kP (uc 2 (kP (g6 8) (kP (g6 9) ui))) ui))) j9) (bC (bS 17 (f6 (iP (c8 (ae 4))) (g6 0) oq (xP (e2 lJ (ae 0) (aF d3 (aj (e2 b6 (ae 1) (eC (.int 1))) aG)))) ["place"] [0])) (bC (bS 18 (gq fZ (bB (xP (ae 1)) (bB (xP (ae 13)) (bB (xP (ae 17)) jg))))) (bC (bS 19 (xP (eNew (dy (c8 (ae 2)) (fE 2 (bH (bc 0) (bH (bc 1) fD))) jn (ae 0) ["out","place"] [])))) (lS (xP (e2 cf (eNew (dy (cV (aF d3 (aj (ae 11) aG))) (bc 0) (b2 oY (ae 0) (ae 2)) (e2 b6 (ae 1) (ae 0)) ["k"] [11,19])) (ae 18))))))))))))))))
def uI:List V3->bw->R3 V3:=pG dt mD
def lb:List V3->bw->R3 V3:=rh dt mD
theorem xS{K:W.Frag}{mg:PY}(T:Tp K mg)(h:Def K mg "_law_due" iI)(ia:cg P w K mg base sg 2 "_law_gone" 3 fZ):cg P w K mg base sg 3 "_law_due" 6 uI:=by
 obtain⟨f,fd,F,hm⟩:=h;exact⟨f,fd,_,dk (k:=2) uV.2 dD.2 F br (fun dC A outer s H E hr=>(aw (aZ br.nd rfl (Or.inl rfl) (ak (bo (cb af)))) (aw (eR PassesOwn.never rfl (bA (dP (aA (aa 0) ag (fun _ _=>rfl)) rfl T.z_enumerate)) (df rfl (aQ (aL br.nd rfl (Or.inl rfl)) (aQ (df rfl (aQ (aL br.nd rfl (Or.inl rfl)) (aQ (aL br.nd rfl (Or.inl rfl)) cE))) cE))) (bq (aZ br.nd rfl (Or.inl rfl) (ak (ay bQ (aa 6) (bo (v8 (cb (ab (aA (aa 3) (aa 7) (fun _ _=>rfl)) af)) (aa 9)))))))) (aw (aZ br.nd rfl (Or.inl rfl) (ak (qU (aa 3) (ke (aR dI rfl T.z_len PySem.boot_len (ab (aA (aa 0) ag (fun _ _=>rfl)) af))) lZ))) (aw (cS rfl br.nd rfl rfl (bz.of (own:=["wire","bit"]) (kp:=[5]) (kn:=["bad"]) (sc:=dD.1) (N:=dt) rfl rfl (by decide+kernel)) (bA (dP (aa 6) rfl T.z_enumerate)) (fun _ _ _=>(df rfl (aQ (aL (show List.Nodup [(Str.ofString "wire"),"bit","bad"] from by decide+kernel) rfl (Or.inl rfl)) (aQ (aL (show List.Nodup [(Str.ofString "wire"),"bit","bad"] from by decide+kernel) rfl (Or.inl rfl)) cE)))) (fun _ _ _=>eL) (fun _ _ _=>(ak (aA (bo (cb (ab (aa 1) (ab (ay l9 ag (aa 1)) af)))) (bR ml rfl T.z_int PyProof.Rows.boot_int (ab (jt zP (aa 0) (aa 2) (by with_unfolding_all rfl)) af)) (fun _ _=>rfl))))) (aw (aZ br.nd rfl (Or.inr rfl) (dA ia hr (by decide) rfl (aH (ak (aa 0)) (aH (ak (aa 6)) (aH (ak (aa 4)) dz))) (aD (aD (aD cK))))) (aw (aZ br.nd rfl (Or.inl rfl) (ak (bR (AW rfl) rfl T.z_dict PyProof.Rows.boot_dict (ab (bo (ck rfl (bz.of (own:=["out","place"]) (kp:=[]) (kn:=[]) (sc:=dD.1) (N:=dt) rfl rfl (by decide+kernel)) (bU (aa 2)) (fun _ _ _=>(dj rfl (aW (aO (show List.Nodup [(Str.ofString "out"),"place"] from by decide+kernel) rfl (Or.inl rfl)) (aW (aO (show List.Nodup [(Str.ofString "out"),"place"] from by decide+kernel) rfl (Or.inl rfl)) cJ)))) (fun _ _ _=>bZ) (fun _ _ _=>(b8 (ab (aa 1) (ab (aa 0) af)))))) af)))) (aw (aZ br.nd rfl (Or.inl rfl) (ak (bo (cb af)))) (aw (aZ br.nd rfl (Or.inr rfl) (ak (aR dI rfl T.z_len PySem.boot_len (ab (aa 6) af)))) (aw (eR PassesOwn.never rfl (bA (dP (aA (aa 1) ag (fun _ _=>rfl)) rfl T.z_enumerate)) (df rfl (aQ (aL br.nd rfl (Or.inl rfl)) (aQ (df rfl (aQ (aL br.nd rfl (Or.inl rfl)) (aQ (aL br.nd rfl (Or.inl rfl)) cE))) cE))) (bq (qq (iM (bO (vz (kU hr)) (aa 15) (aa 12) (by with_unfolding_all rfl))) (bq (aZ br.nd rfl (Or.inl rfl) (ak (ay bQ (aa 13) (bR zM rfl T.z_list PyProof.Rows.boot_list (ab (aA (aa 11) (qx (kU hr) (aa 12) (aa 15) (fun _ _=>rfl)) (fun _ _=>rfl)) af)))))) (aw (aZ br.nd rfl (Or.inl rfl) (ak (bo (v8 (cb (ab (aA (aa 10) ag (fun _ _=>rfl)) af)) (aa 9))))) (aw (aZ br.nd rfl (Or.inl rfl) (ak (ay bQ (aa 13) (bo (ck rfl (bz.of (own:=["k","bit"]) (kp:=[5,14]) (kn:=["bad","count"]) (sc:=dD.1) (N:=dt) rfl rfl (by decide+kernel)) (dP (aa 16) rfl T.z_enumerate) (fun _ _ _=>(dj rfl (aW (aO (show List.Nodup [(Str.ofString "k"),"bit","bad","count"] from by decide+kernel) rfl (Or.inl rfl)) (aW (aO (show List.Nodup [(Str.ofString "k"),"bit","bad","count"] from by decide+kernel) rfl (Or.inl rfl)) cJ)))) (fun _ _ _=>bZ) (fun _ _ _=>(aA (bo (cb (ab (aa 1) (ab (ay l9 ag (aa 1)) af)))) (bR ml rfl T.z_int PyProof.Rows.boot_int (ab (jt zP (ay bQ (aa 3) (aa 0)) (aa 2) (by with_unfolding_all rfl)) af)) (fun _ _=>rfl)))))))) (aw (aZ br.nd rfl (Or.inr rfl) (ak (ay bQ (aa 14) (aa 9)))) (bq (aZ br.nd rfl (Or.inl rfl) (ak (qU (aa 10) (ke ag) lZ)))))))))) (aw (cS rfl br.nd rfl rfl (bz.of (own:=["place"]) (kp:=[0]) (kn:=["one"]) (sc:=dD.1) (N:=dt) rfl rfl (by decide+kernel)) (bA (bU (aa 4))) (fun _ _ _=>(aL (show List.Nodup [(Str.ofString "place"),"one"] from by decide+kernel) rfl (Or.inl rfl))) (fun _ _ _=>eL) (fun _ _ _=>(ak (ay l9 (aa 0) (aR dI rfl T.z_len PySem.boot_len (ab (aA (aa 1) ag (fun _ _=>rfl)) af)))))) (aw (aZ br.nd rfl (Or.inl rfl) (dA ia hr (by decide) rfl (aH (ak (aa 1)) (aH (ak (aa 13)) (aH (ak (aa 17)) dz))) (aD (aD (aD cK))))) (aw (aZ br.nd rfl (Or.inr rfl) (ak (bo (ck rfl (bz.of (own:=["out","place"]) (kp:=[]) (kn:=[]) (sc:=dD.1) (N:=dt) rfl rfl (by decide+kernel)) (bU (aa 2)) (fun _ _ _=>(dj rfl (aW (aO (show List.Nodup [(Str.ofString "out"),"place"] from by decide+kernel) rfl (Or.inl rfl)) (aW (aO (show List.Nodup [(Str.ofString "out"),"place"] from by decide+kernel) rfl (Or.inl rfl)) cJ)))) (fun _ _ _=>bZ) (fun _ _ _=>(aa 0)))))) (bq (gg (ak (ay bQ (bo (ck rfl (bz.of (own:=["k"]) (kp:=[11,19]) (kn:=["first","used"]) (sc:=dD.1) (N:=dt) rfl rfl (by decide+kernel)) (bL (aR dI rfl T.z_len PySem.boot_len (ab (aa 11) af)) rfl T.z_range) (fun _ _ _=>(aO (show List.Nodup [(Str.ofString "k"),"first","used"] from by decide+kernel) rfl (Or.inl rfl))) (fun _ _ _=>(Au (bO vU (aa 0) (aa 2) (by with_unfolding_all rfl)))) (fun _ _ _=>(aA (aa 1) (aa 0) (fun _ _=>rfl))))) (aa 18)))))))))))))))))),hm,F.kp,F.binds fun _ _ _ _ _ _ us hl=>match us,hl with | [_,_,_,_,_,_],_=>rfl⟩
abbrev vM:Stmt:=top 35
noncomputable abbrev jP:List Str:=["script","cell","one","other","pairs","whole","many","gates","wires","turned","bad","number","bits","some","own"]
noncomputable def Ei:{b:List Stmt // a9 vM=b}:=⟨_,by conv=>lhs;whnf⟩
noncomputable def mB:{b:Scope // aJ vM=b}:=⟨_,by conv=>lhs;whnf⟩
theorem gM:bp jP ["script"] mB.1:=⟨rfl,rfl,rfl,by decide+kernel,rfl,by decide+kernel,by decide+kernel⟩
def qJ:FZ:=(Dp (I_ Dc (gq uR (bB (xP (ae 5)) (bB (xP (ae 12)) (bB (xP (ae 13)) (bB (xP (ae 14)) jg))))) (gq lb (bB (xP (ae 2)) (bB (xP (ae 3)) (bB (xP (ae 4)) (bB (xP (aF wj (aj (ae 12) aG))) (bB (xP (ae 13)) (bB (xP (ae 14)) jg)))))))) (lS (xP (eC (.bl false)))) uG)
def qN:FZ:=(bC (bS 12 (xP (aF j_ (aj (eNew (dy (cV (ae 6)) (bc 0) jn (e2 Dz (e2 Bn (ae 2) (e2 lJ (e2 lJ (ae 1) (eC (.int 1))) (ae 0))) (eC (.int 1))) ["k"] [6,11])) aG)))) (kI (iP (c8 (eNew (fB (aj (fH (aj (fH aG) (aj (fH aG) aG))) (aj (fH (aj (ae 9) (aj (fH aG) aG))) (aj (fH (aj (fH aG) (aj (ae 10) aG))) (aj (fH (aj (ae 9) (aj (ae 10) aG))) aG)))))))) (uc 2 (kP (g6 13) (kP (g6 14) ui))) qJ))
def qT:FZ:=(bC (bS 2 (gq fg (bB (xP (ae 1)) (bB (xP (eC (.int 0))) (bB (xP (eC (.str "abcdefg"))) (bB (xP (eNew (fB (aj (eC (.int 1)) (aj (eC (.int 2)) (aj (eC (.int 3)) aG)))))) jg)))))) (bC (bS 3 (gq fg (bB (xP (ae 1)) (bB (xP (eC (.int 150))) (bB (xP (eC (.str "nopqrst"))) (bB (xP (eNew (fB (aj (eC (.int 1)) (aj (eC (.int 2)) (aj (eC (.int 3)) aG)))))) jg)))))) (bC (bS 4 (gq jl (bB (xP (ae 1)) (bB (xP (ae 2)) (bB (xP (ae 3)) jg))))) (bC (bS 5 (gq mE (bB (xP (ae 2)) (bB (xP (ae 3)) (bB (xP (ae 4)) jg))))) (bC (bS 6 (xP (aF d3 (aj (e2 b6 (ae 5) (eC (.int 0))) aG)))) (bC (bS 7 (f6 (iP (cV (aF d3 (aj (e2 b6 (ae 5) (eC (.int 1))) aG)))) (g6 0) oq (xP (fH (aj (ae 0) aG))) ["place"] [])) (bC (bS 8 (f6 (iP (cV (aF mY (aj (eNew (dy (c8 (e2 b6 (ae 5) (eC (.int 0)))) (fE 2 (bH (bc 0) (bH (bc 1) fD))) jn (ae 1) ["name","width"] [])) aG)))) (g6 0) oq (xP (fH (aj (ae 0) aG))) ["wire"] [])) (bC (bS 9 (xP (e2 b6 (e2 cf (eNew (fB (aj (fH aG) aG))) (ae 7)) (e2 fG (aF bg (aj (ae 1) (aj (eC (.int 96)) aG))) (e2 cf (eC (.int 1)) (aF d3 (aj (ae 7) aG))))))) (bC (bS 10 (xP (e2 b6 (e2 cf (eNew (fB (aj (fH aG) aG))) (ae 8)) (e2 fG (aF bg (aj (ae 1) (aj (eC (.int 97)) aG))) (e2 cf (eC (.int 1)) (aF d3 (aj (ae 8) aG))))))) (kI (iP (cV (e2 Ce (eC (.int 1)) (ae 6)))) (g6 11) qN))))))))))
def n6:FZ:=(bC (kI (iP (c8 (e2 cf (eNew (fB (aj (eC (.int 0)) aG))) (CY (ae 0) qD (lH (eC (.int 6))))))) (g6 1) qT) (lS (xP (eC (.bl true)))))
def Kc:List V3->bw->R3 V3:=pG jP n6
def IZ:List V3->bw->R3 V3:=rh jP n6
def vt:List D->R D:=IE jP n6
theorem E4{K:W.Frag}{mg:PY}{f:Addr}{fd:FuncData}(T:Tp K mg)(mL:Def K mg "vote_of" iW)(kz:Def K mg "gate_mask" fX)(gm:Def K mg "in_wire_masks" dm)(lA:Def K mg "masks_at" gI)(jz:Def K mg "wire_masks" eX)(kC:Def K mg "out_masks" fU)(AI:Def K mg "run" sI)(jv:Def K mg "check_fits" eU)(iH:Def K mg "outs_of_ins" ei)(iA:Def K mg "check_names" el)(jy:Def K mg "check_room" e_)(jA:Def K mg "many_wires" eZ)(mO:Def K mg "rewired" iL)(gh:Def K mg "rewired_gates" dr)(gU:Def K mg "rewired_outs" dE)(iC:Def K mg "one_numbers" d7)(gp:Def K mg "other_numbers" di)(pC:Def K mg "joined" kj)(lz:Def K mg "_law_stir" gG)(iE:Def K mg "_law_any_net" d5)(kA:Def K mg "_law_pairs" fW)(mM:Def K mg "_law_bit" iJ)(lC:Def K mg "_law_gone" gL)(mN:Def K mg "_law_due" iI)(F:wb K "law" "law" vM f fd):iY P w K mg base p9 5 f fd ["script"] (BL K 1 vt):=by
 have mJ:=xJ (P:=P) (w:=w) (base:=base) T mL;have kx:=sr (P:=P) (w:=w) (base:=base) T kz mJ;have dX:=nc (P:=P) (w:=w) (base:=base) T gm;have XP_in_wire_masks:=dX.p;have fM:=vi (P:=P) (w:=w) (base:=base) T lA;have XK_wire_masks:=qZ (P:=P) (w:=w) (base:=base) T jz fM kx dX;have iF:=XK_wire_masks.p;have XK_out_masks:=tV (P:=P) (w:=w) (base:=base) T kC fM;have jx:=XK_out_masks.p;have XK_run:=Ha (P:=P) (w:=w) (base:=base) T AI iF jx;have XP_run:=XK_run.p;have jB:=rQ (P:=P) (w:=w) (base:=base) T jv;have XK_outs_of_ins:=pK (P:=P) (w:=w) (base:=base) T iH;have gY:=XK_outs_of_ins.p;have XK_check_names:=pR (P:=P) (w:=w) (base:=base) T iA;have fu:=XK_check_names.p;have jw:=rp (P:=P) (w:=w) (base:=base) T jy;have cA:=qW (P:=P) (w:=w) (base:=base) T jA;have dW:=wR (P:=P) (w:=w) (base:=base) T mO;have eD:=nq (P:=P) (w:=w) (base:=base) T gh dW;have fw:=o7 (P:=P) (w:=w) (base:=base) T gU dW;have iG:=pI (P:=P) (w:=w) (base:=base) T iC cA;have gn:=ng (P:=P) (w:=w) (base:=base) T gp cA dW;have XK_joined:=zN (P:=P) (w:=w) (base:=base) T pC jB cA iG gn eD fw jw gY fu;have XP_joined:=XK_joined.p;have bJ:=uK (P:=P) (w:=w) (base:=base) T lz;have XK_law_any_net:=pL (P:=P) (w:=w) (base:=base) T iE bJ;have XP_law_any_net:=XK_law_any_net.p;have XK_law_pairs:=tp (P:=P) (w:=w) (base:=base) T kA bJ;have XP_law_pairs:=XK_law_pairs.p;have mK:=xb (P:=P) (w:=w) (base:=base) T mM;have XK_law_gone:=uB (P:=P) (w:=w) (base:=base) T lC mK;have ia:=XK_law_gone.p;have XK_law_due:=xS (P:=P) (w:=w) (base:=base) T mN ia;have XP_law_due:=XK_law_due.p;exact(dk (cl:=sg) (N:=jP) (F:=n6) (k:=4) Ei.2 mB.2 F gM (fun dC A outer s H E hr=>(aw (eR PassesOwn.never rfl (bA (bU (ay bQ (bo (cb (ab ag af))) (qU (aa 0) lZ (ke ag))))) (aL gM.nd rfl (Or.inl rfl)) (aw (aZ gM.nd rfl (Or.inl rfl) (dA XP_law_any_net hr (by decide) rfl (aH (ak (aa 1)) (aH (ak ag) (aH (ak dc) (aH (ak (bo (cb (ab ag (ab ag (ab ag af)))))) dz)))) (aD (aD (aD (aD cK)))))) (aw (aZ gM.nd rfl (Or.inl rfl) (dA XP_law_any_net hr (by decide) rfl (aH (ak (aa 1)) (aH (ak ag) (aH (ak dc) (aH (ak (bo (cb (ab ag (ab ag (ab ag af)))))) dz)))) (aD (aD (aD (aD cK)))))) (aw (aZ gM.nd rfl (Or.inl rfl) (dA XP_law_pairs hr (by decide) rfl (aH (ak (aa 1)) (aH (ak (aa 2)) (aH (ak (aa 3)) dz))) (aD (aD (aD cK))))) (aw (aZ gM.nd rfl (Or.inl rfl) (dA XP_joined hr (by decide) rfl (aH (ak (aa 2)) (aH (ak (aa 3)) (aH (ak (aa 4)) dz))) (aD (aD (aD cK))))) (aw (aZ gM.nd rfl (Or.inr rfl) (ak (aR dI rfl T.z_len PySem.boot_len (ab (aA (aa 5) ag (fun _ _=>rfl)) af)))) (aw (cS rfl gM.nd rfl rfl (bz.of (own:=["place"]) (kp:=[]) (kn:=[]) (sc:=mB.1) (N:=jP) rfl rfl (by decide+kernel)) (bA (bL (aR dI rfl T.z_len PySem.boot_len (ab (aA (aa 5) ag (fun _ _=>rfl)) af)) rfl T.z_range)) (fun _ _ _=>(aL (show List.Nodup [(Str.ofString "place")] from by decide+kernel) rfl (Or.inl rfl))) (fun _ _ _=>eL) (fun _ _ _=>(ak (b8 (ab (aa 0) af))))) (aw (cS rfl gM.nd rfl rfl (bz.of (own:=["wire"]) (kp:=[]) (kn:=[]) (sc:=mB.1) (N:=jP) rfl rfl (by decide+kernel)) (bA (bL (aR (oz rfl) rfl T.z_sum PyProof.Rows.boot_sum (ab (bo (ck rfl (bz.of (own:=["name","width"]) (kp:=[]) (kn:=[]) (sc:=mB.1) (N:=jP) rfl rfl (by decide+kernel)) (bU (aA (aa 5) ag (fun _ _=>rfl))) (fun _ _ _=>(dj rfl (aW (aO (show List.Nodup [(Str.ofString "name"),"width"] from by decide+kernel) rfl (Or.inl rfl)) (aW (aO (show List.Nodup [(Str.ofString "name"),"width"] from by decide+kernel) rfl (Or.inl rfl)) cJ)))) (fun _ _ _=>bZ) (fun _ _ _=>(aa 1)))) af)) rfl T.z_range)) (fun _ _ _=>(aL (show List.Nodup [(Str.ofString "wire")] from by decide+kernel) rfl (Or.inl rfl))) (fun _ _ _=>eL) (fun _ _ _=>(ak (b8 (ab (aa 0) af))))) (aw (aZ gM.nd rfl (Or.inl rfl) (ak (aA (ay bQ (bo (cb (ab (b8 af) af))) (aa 7)) (ay eM (aN bJ hr (by decide) rfl (ab (aa 1) (ab ag af)) (au (au aY))) (ay bQ ag (aR dI rfl T.z_len PySem.boot_len (ab (aa 7) af)))) (fun _ _=>rfl)))) (aw (aZ gM.nd rfl (Or.inl rfl) (ak (aA (ay bQ (bo (cb (ab (b8 af) af))) (aa 8)) (ay eM (aN bJ hr (by decide) rfl (ab (aa 1) (ab ag af)) (au (au aY))) (ay bQ ag (aR dI rfl T.z_len PySem.boot_len (ab (aa 8) af)))) (fun _ _=>rfl)))) (bq (eR PassesOwn.never rfl (bA (bL (ay Hr ag (aa 6)) rfl T.z_range)) (aL gM.nd rfl (Or.inr rfl)) (aw (aZ gM.nd rfl (Or.inl rfl) (ak (bR kG rfl T.z_tuple PyProof.Rows.boot_tuple (ab (bo (ck rfl (bz.of (own:=["k"]) (kp:=[6,11]) (kn:=["many","number"]) (sc:=mB.1) (N:=jP) rfl rfl (by decide+kernel)) (bL (aa 6) rfl T.z_range) (fun _ _ _=>(aO (show List.Nodup [(Str.ofString "k"),"many","number"] from by decide+kernel) rfl (Or.inl rfl))) (fun _ _ _=>bZ) (fun _ _ _=>(ay Aa (ay DA (aa 2) (ay l9 (ay l9 (aa 1) ag) (aa 0))) ag)))) af)))) (bq (eR PassesOwn.never rfl (bA (bU (bo (cb (ab (b8 (ab (b8 af) (ab (b8 af) af))) (ab (b8 (ab (aa 9) (ab (b8 af) af))) (ab (b8 (ab (b8 af) (ab (aa 10) af))) (ab (b8 (ab (aa 9) (ab (aa 10) af))) af)))))))) (df rfl (aQ (aL gM.nd rfl (Or.inl rfl)) (aQ (aL gM.nd rfl (Or.inl rfl)) cE))) (bq (qq (BR (Et hr.units) (dA XP_run hr (by decide) rfl (aH (ak (aa 5)) (aH (ak (aa 12)) (aH (ak (aa 13)) (aH (ak (aa 14)) dz)))) (aD (aD (aD (aD cK))))) (dA XP_law_due hr (by decide) rfl (aH (ak (aa 2)) (aH (ak (aa 3)) (aH (ak (aa 4)) (aH (ak (bR zM rfl T.z_list PyProof.Rows.boot_list (ab (aa 12) af))) (aH (ak (aa 13)) (aH (ak (aa 14)) dz)))))) (aD (aD (aD (aD (aD (aD cK))))))) (cP _)) (bq (gg (ak ur))) lQ))))))))))))))))) (bq (gg (ak ur)))))).imp fun _ _ _ _ h=>EW h
end K36
end
section
namespace K36
open PySem PySem.Spec PyProof.Rows L2 L3 MT
theorem F9{a:D}{r:List D}:b6 (.tup (a ::r)) (.int 0)= .ok a:=uP (by rw[rC (by omega) (by simp)];rfl)
theorem HK{a b:D}{r:List D}:b6 (.tup (a ::b ::r)) (.int 1)= .ok b:=uP (by rw[rC (by omega) (by simp)];rfl)
theorem KY{a b c:D}{r:List D}:b6 (.tup (a ::b ::c ::r)) (.int 2)= .ok c:=uP (by rw[rC (by omega) (by simp)];rfl)
theorem Co{N:Nat}{a b c:M}:i5 [.tup [mI N a,mI N b,mI N c]]= .ok (mI N fun p=>(a p && b p) || (a p && c p) || (b p && c p)):=by
 unfold i5 qr;refine eF (c_ ?_);exact aq (aq (aq (aq rfl rfl F9) (aq rfl rfl HK) (vZ N a b)) (aq (aq rfl rfl F9) (aq rfl rfl KY) (vZ N a c)) (EF N _ _)) (aq (aq rfl rfl HK) (aq rfl rfl KY) (vZ N b c)) (EF N _ _)
theorem HA(k j:Nat)(hk:k<=4)(hj:j<=4):tP (.str (kS k)) (.str (kS j))= .ok (.bl (decide (k=j))):=by
 show R.ok (D.bl (kS k==kS j))=_;congr 2
 revert hk hj
 have:∀a∈List.range 5,∀b∈List.range 5,(kS a==kS b)=decide (a=b):=by decide+kernel
 intro hk hj;exact this k (by rw[List.mem_range];omega) j (by rw[List.mem_range];omega)
theorem Bs{N kd:Nat}{xs:List M}(hk:kd<=4)(hx:xs.length=ar kd):fT [.str (kS kd), .tup (xs.map (mI N)),mI N one]= .ok (mI N fun p=>gv kd (xs.map (· p))):=by
 unfold fT mT;have q:∀j,j<=4->b2 tP (ae 0) (eC (.str (kS j))) (cY ki [.str (kS kd), .tup (xs.map (mI N)),mI N one])= .ok (decide (kd=j)):=fun j hj=>d_ (a:= .str (kS kd)) (b:= .str (kS j)) rfl rfl (HA kd j hk hj)
 have q0:=q 0 (by omega)
 have q1:=q 1 (by omega)
 have q2:=q 2 (by omega)
 have q3:=q 3 (by omega)
 match kd,hk,xs,hx with
 | 0,_,[a],_=>
   refine eF (NT.lI (qF q0 (c_ (aq (a:=mI N one) (b:=mI N a) rfl (aq rfl rfl F9) (C7 N a)))))
 | 1,_,[a,b],_=>
   refine eF (b9 (g9 q0 rfl) (NT.lI (qF q1 (c_ (aq (aq rfl rfl F9) (aq rfl rfl HK) (vZ N a b))))))
 | 2,_,[a,b],_=>
   refine eF (b9 (g9 q0 rfl) (b9 (g9 q1 rfl) (NT.lI (qF q2 (c_ (aq (aq rfl rfl F9) (aq rfl rfl HK) (EF N a b)))))))
 | 3,_,[a,b],_=>
   refine eF (b9 (g9 q0 rfl) (b9 (g9 q1 rfl) (b9 (g9 q2 rfl) (NT.lI (qF q3 (c_ (aq (aq rfl rfl F9) (aq rfl rfl HK) (Dl N a b))))))))
 | 4,_,[a,b,c],_=>
   refine eF (b9 (g9 q0 rfl) (b9 (g9 q1 rfl) (b9 (g9 q2 rfl) (b9 (g9 q3 rfl) (c_ (ax (ds:=[.tup [mI N a,mI N b,mI N c]]) rfl Co))))))
theorem De{N:Nat}{ws:List M}{ns:List Nat}(hn:∀n∈ns,n < ws.length)(hl:ns.length < 1000):eJ [.lst (ws.map (mI N)), .tup (ns.map nI)]= .ok (.tup ((ns.map (ye ws)).map (mI N))):=by
 have hz:sizeLine=16777216:=sizeLine_eq;unfold eJ nR;refine eF (c_ (ax (ds:=[.lst ((ns.map (ye ws)).map (mI N))]) (az (cc (cj (ds:=ns.map nI) (oU rfl) (by rw[List.length_map];omega) ?_)) rfl) rfl))
 rw[List.map_map];exact NT.bG nI _ fun n HV=>⟨[.val (nI n), .val (.lst (ws.map (mI N)))],rfl,rfl,aq (a:= .lst (ws.map (mI N))) (b:=nI n) rfl rfl (Ew (hn n HV))⟩
def uM(N:Nat)(S:bw)(AG jQ Km:D)(a5 a6 a7:Option V3):DE:=[some (.d AG),some (.d jQ),some (.d (mI N one)),some (.d Km),some (.loc S.length),a5,a6,a7]
theorem Aq{N:Nat}{S:bw}{AG jQ:D}{bad:List Int}{a5 a7:Option V3}{b:M}{ws:List M}(hl:ws.length < 10000) :
 W3 (e7 (uM N S AG jQ (.tup (bad.map .int)) a5 (some (.d (mI N b))) a7) (S++[.lst (ws.map (mI N))])) fun o S1=>o= .nx (uM N S AG jQ (.tup (bad.map .int)) a5 (some (.d (mI N b))) a7)/\S1=S++[SO.lst ((ws++[fun p=>b p !=bad.contains (ws.length:Int)]).map (mI N))]:=by
 have hz:sizeLine=16777216:=sizeLine_eq;unfold e7;refine qt (k:=S.length) rfl ⟨_,bx _ _⟩ (IG (d:=mI N fun p=>b p !=bad.contains (ws.length:Int)) ?_ rfl ⟨_,_,rfl,bx _ _,by rw[List.length_map];omega,rfl,?_⟩)
 .have h4:(c0 (S++[.lst (ws.map (mI N))]) (uM N S AG jQ (.tup (bad.map .int)) a5 (some (.d (mI N b))) a7))[4]? =some (.val (.lst (ws.map (mI N)))):=by
   unfold c0 uM;show some (match res (S++[.lst (ws.map (mI N))]) (.loc S.length) with | some d=>Sl.val d | none=> .un)=_
   unfold res;rw[bx]
  refine ym (b:=bad.contains (ws.length:Int)) (d_ (a:= .int ws.length) (b:= .tup (bad.map .int)) (ax (ds:=[.lst (ws.map (mI N))]) (az (by unfold ae;rw [h4]) rfl) (by rw[um,List.length_map])) rfl (rF _ _)) ?_
  rw[<-zF];rfl
 .rw [dH,List.map_append];rfl
theorem sJ{N:Nat}{S:bw}{bD:D}{ins:PR}{bits:List M}{bad:List Int}(hB:bD= .lst (bits.map (mI N))\/bD= .tup (bits.map (mI N)))(hb:bits.length=ins.length)(hi:ins.length < 100)(hw:∀x∈ins,x.2 < 100){Q:V3->bw->Prop}
 (h:Q (.loc S.length) (S++[.lst ((gx ins bits bad ins.length).map (mI N))])) :
 W3 (cU [.d (.lst (ins.map inD)), .d bD, .d (mI N one), .d (.tup (bad.map .int))] S) Q:=by
 have hz:sizeLine=16777216:=sizeLine_eq;unfold cU;refine zQ rfl ?_;simp only[dg,eu,List.map,List.length,List.replicate,List.cons_append,List.nil_append,Nat.reduceAdd,Nat.reduceSub];unfold f9;refine aS (bf (by simp) (qf (ds:=[]) rfl ⟨_,rfl,?_⟩))
 simp only[List.set];refine aS (g7 (gu (ds:=cT (bits.map (mI N))) (by rcases hB with rfl | rfl <;> rfl) ?_))
 have big:∀i,i<=ins.length->(gx ins bits bad i).length<=100*i:=by
  intro i hi'
  induction i with
  | zero=>simp [gx]
  | succ i ih=>
    have ih:=ih (by omega)
    have h1:ins[i]? =some ins[i]:=List.getElem?_eq_getElem (by omega)
    have h2:bits[i]? =some bits[i]:=List.getElem?_eq_getElem (by omega)
    unfold gx;rw[h1,h2];show(i0 bad bits[i] ins[i].2 (gx ins bits bad i)).length<=_;rw[iT];have:=hw ins[i] (List.getElem_mem _);omega
 refine(cm (fun i δ S2=>(∃a b c,δ=uM N S (.lst (ins.map inD)) bD (.tup (bad.map .int)) a b c)/\S2=S++[SO.lst ((gx ins bits bad i).map (mI N))])
  ⟨⟨_,_,_,rfl⟩,rfl⟩ ?_).mono fun o S2 ⟨ft,kB,⟨a,b,c,hδ⟩,hS⟩=>⟨ft,kB,?_⟩
 .rintro i v δ S2 hv ⟨⟨a,b,c,rfl⟩,rfl⟩;obtain⟨d,hd,rfl⟩:=q_ hv;rw[List.getElem?_map] at hd;have hib:i < bits.length:=by
   have:=(List.getElem?_eq_some_iff.mp hv).1;simpa [cT] using this
  have h1:ins[i]? =some ins[i]:=List.getElem?_eq_getElem (by omega)
  have h2:bits[i]? =some bits[i]:=List.getElem?_eq_getElem hib;rw[h2] at hd;cases hd;refine⟨uM N S (.lst (ins.map inD)) bD (.tup (bad.map .int)) (some (.d (.int i))) (some (.d (mI N bits[i]))) c,rfl,?_⟩;unfold h_;have hwi:=hw ins[i] (List.getElem_mem _);refine g7 (gu (rA (n:=ins[i].2) ?_ (by omega)) ?_)
  .refine aq (a:=inD ins[i]) (b:= .int 1) (aq (a:= .lst (ins.map inD)) (b:= .int i) rfl rfl (zl ?_)) rfl rfl;rw[rC (by omega) (by rw[List.length_map,Int.toNat_natCast];omega)]
   simp
  refine(cm (fun j δ S3=>(∃c,δ=uM N S (.lst (ins.map inD)) bD (.tup (bad.map .int)) (some (.d (.int i))) (some (.d (mI N bits[i]))) c)/\S3=S++[SO.lst ((i0 bad bits[i] j (gx ins bits bad i)).map (mI N))])
   ⟨⟨_,rfl⟩,rfl⟩ ?_).mono fun o S3 ⟨δ3,e3,⟨c3,KL⟩,hS3⟩=>⟨δ3,e3,⟨_,_,c3,KL⟩,?_⟩
  .rintro j v δ S3 hv ⟨⟨c3,rfl⟩,rfl⟩;refine⟨_,rfl,?_⟩;have hj:j < ins[i].2:=by
    have:=(List.getElem?_eq_some_iff.mp hv).1
    rwa [List.length_map,il,List.length_map,List.length_range] at this
   refine(Aq ?_).mono fun o S4 ⟨e4,e5⟩=>⟨_,e4,⟨_,rfl⟩,e5⟩
   rw[iT];have:=big i (by omega)
   omega
  .rw [hS3,List.length_map,il,List.length_map,List.length_range];show _=S++[SO.lst ((match ins[i]?,bits[i]? with | some x,some b=>i0 bad b x.2 (gx ins bits bad i) | _,_=>gx ins bits bad i).map (mI N))]
   rw[h1,h2]
 have hlen:((cT (bits.map (mI N))).map V3.d).length=ins.length:=by simp [cT,hb]
 rw[hlen] at hS;subst hδ hS;exact ko (w_var rfl ⟨_,rfl,h⟩)
section
variable {N:Nat} {ins:PR} {gs:List Gt} {os:PU} {bits:List M} {turned bad:List Int}
def tw(N:Nat)(S:bw)(nt jQ tD bD:D)(a6 a7 a8:Option V3):DE:=[some (.d nt),some (.d jQ),some (.d (mI N one)),some (.d tD),some (.d bD),some (.loc S.length),a6,a7,a8]
theorem wO{S:bw}{nt jQ bD:D}{a8:Option V3}{g:Gt}{i:Nat}{ws:List M}(hg:vc ws.length g)(hl:ws.length < 20000) :
 W3 (gQ (tw N S nt jQ (.tup (turned.map .int)) bD (some (.d (.int i))) (some (.d (jb g))) a8) (S++[.lst (ws.map (mI N))])) fun o S1=>(∃c,o= .nx (tw N S nt jQ (.tup (turned.map .int)) bD (some (.d (.int i))) (some (.d (jb g))) c))/\S1=S++[SO.lst ((ws++[fun p=>gF g ws p !=turned.contains (i:Int)]).map (mI N))]:=by
 have hz:sizeLine=16777216:=sizeLine_eq;have ha:=tm g.1;unfold gQ;refine aS (bf (by unfold tw;simp only[List.length_cons,List.length_nil];omega) (IG (d:=mI N (gF g ws)) ?_ rfl ⟨_,rfl,?_⟩))
 .have h5:(c0 (S++[.lst (ws.map (mI N))]) (tw N S nt jQ (.tup (turned.map .int)) bD (some (.d (.int i))) (some (.d (jb g))) a8))[5]? =some (.val (.lst (ws.map (mI N)))):=by
   unfold c0 tw;show some (match res (S++[.lst (ws.map (mI N))]) (.loc S.length) with | some d=>Sl.val d | none=> .un)=_
   unfold res;rw[bx]
  refine(ax (ds:=[.str (kS g.1), .tup ((g.2.1.map (ye ws)).map (mI N)),mI N one]) (az (aq (a:=jb g) (b:= .int 0) rfl rfl rfl) (az ?_ (az rfl rfl))) (Bs hg.1 (by rw[List.length_map];exact hg.2.1))).trans ?_
  .exact ax (ds:=[.lst (ws.map (mI N)), .tup (g.2.1.map nI)]) (az (by unfold ae;rw [h5]) (az (aq (a:=jb g) (b:= .int 1) rfl rfl rfl) rfl)) (De hg.2.2 (by rw[hg.2.1];omega))
  .have:(fun p=>gv g.1 ((g.2.1.map (ye ws)).map (· p)))=gF g ws:=by funext p;unfold gF;rw [List.map_map];rfl
   rw[this]
 .show W3 (oD 5 _ (tw N S nt jQ (.tup (turned.map .int)) bD (some (.d (.int i))) (some (.d (jb g))) (some (.d (mI N (gF g ws))))) _) _;refine qt (k:=S.length) rfl ⟨_,bx _ _⟩ (cx (d:=mI N fun p=>gF g ws p !=turned.contains (i:Int)) ?_ ⟨_,_,rfl,bx _ _,by rw[List.length_map];omega,⟨_,rfl⟩,?_⟩)
  .refine ym (b:=turned.contains (i:Int)) (d_ (a:= .int i) (b:= .tup (turned.map .int)) rfl rfl (rF _ _)) ?_;rw[<-zF];rfl
  .rw [dH,List.map_append];rfl
theorem zU{S:bw}{bD:D}(hB:bD= .lst (bits.map (mI N))\/bD= .tup (bits.map (mI N)))(NO:en ins gs os)(hb:bits.length=ins.length)(hS:yC S){Q:V3->bw->Prop}(h:Q (.d (.lst ((zA ins gs bits turned bad).map (mI N)))) S) :
 W3 (fO [.d (aT ins gs os), .d bD, .d (mI N one), .d (.tup (turned.map .int)), .d (.tup (bad.map .int))] S) Q:=by
 have hz:sizeLine=16777216:=sizeLine_eq;unfold fO;refine j3 hS (zQ rfl ?_);simp only[dg,gr,List.map,List.length,List.replicate,List.cons_append,List.nil_append,Nat.reduceAdd,Nat.reduceSub];unfold ja;refine aS <| bf (by simp) <| fq <| bb <| cx (d:= .lst (ins.map inD)) rfl <| bb <| cx (d:=bD) rfl <| bb <| cx (d:=mI N one) rfl <| bb <| cx (d:= .tup (bad.map .int)) rfl <| hJ <| sJ hB hb NO.hi NO.hw ⟨_,rfl,?_⟩
 simp only[List.set];have hwd:=ib NO.hw;have hN:=NO.hi;have hG:=NO.hg;refine aS (g7 (gu (ds:=cT (gs.map jb)) rfl ?_));refine(cm (fun i δ S2=>(∃a b c,δ=tw N S (aT ins gs os) bD (.tup (turned.map .int)) (.tup (bad.map .int)) a b c)/\S2=S++[SO.lst ((sP gs turned (gx ins bits bad ins.length) i).map (mI N))])
  ⟨⟨_,_,_,rfl⟩,rfl⟩ ?_).mono fun o S2 ⟨ft,kB,⟨a,b,c,hδ⟩,m3⟩=>⟨ft,kB,?_⟩
 .rintro i v δ S2 hv ⟨⟨a,b,c,rfl⟩,rfl⟩;obtain⟨d,hd,rfl⟩:=q_ hv;rw[List.getElem?_map] at hd;cases q:gs[i]? with
  | none=>rw [q] at hd;cases hd
  | some g=>
    rw[q] at hd;cases hd;have hi:i < gs.length:=(List.getElem?_eq_some_iff.mp q).1;have hl:(sP gs turned (gx ins bits bad ins.length) i).length=bV ins+i:=by rw[wI _ (by omega),o8 hb _ (Nat.le_refl _),List.take_length]
    refine⟨tw N S (aT ins gs os) bD (.tup (turned.map .int)) (.tup (bad.map .int)) (some (.d (.int i))) (some (.d (jb g))) c,rfl,?_⟩;refine(wO (by rw[hl];exact NO.g i g q) (by rw[hl];omega)).mono fun o S4 ⟨⟨c4,e4⟩,e5⟩=>⟨_,e4,⟨_,_,_,rfl⟩,?_⟩
    rw[e5];show _=S++[SO.lst ((match gs[i]? with | some g=>sP gs turned (gx ins bits bad ins.length) i++[fun p=>gF g (sP gs turned (gx ins bits bad ins.length) i) p !=turned.contains (i:Int)] | none=>sP gs turned (gx ins bits bad ins.length) i).map (mI N))]
    rw[q]
 have hlen:((cT (gs.map jb)).map V3.d).length=gs.length:=by simp [cT]
 rw[hlen] at m3;subst hδ m3;exact ko (w_var rfl ⟨_,rfl,by unfold jS;exact decide_eq_true (Nat.le_refl _),⟨_,rfl⟩,_,by unfold res;rw [bx];rfl,h⟩)
def o4(N:Nat)(os:PU)(ws:List M):List D:=os.map fun x=> .tup ((tell ws x).map (mI N))
theorem CD{S:bw}{ws:List M}(hO:os.length < 1000)(ho:∀x∈os,x.2.length < 1000/\∀w∈x.2,w < ws.length)(hS:yC S){Q:V3->bw->Prop}(h:Q (.d (.lst (o4 N os ws))) S) :
 W3 (gy [.d (aT ins gs os), .d (.lst (ws.map (mI N)))] S) Q:=by
 have hz:sizeLine=16777216:=sizeLine_eq;unfold gy;refine j3 hS (zQ rfl ?_);simp only[dg,fY,List.map,List.length,List.replicate,List.cons_append,List.nil_append,Nat.reduceAdd,Nat.reduceSub];unfold j0;refine ko (qf (ds:=o4 N os ws) ?_ ⟨_,rfl,by unfold jS;exact decide_eq_true (Nat.le_refl _),⟨_,rfl⟩,_,by unfold res;rw [bx],h⟩)
 refine cj (ds:=os.map j6) (jZ (aq (a:=aT ins gs os) (b:= .int 2) rfl rfl rfl)) (by rw[List.length_map];omega) ?_
 unfold o4;refine NT.bG j6 _ fun(x:Str × List Nat) hx=>⟨[.val (.str x.1), .val (.tup (x.2.map nI)), .val (.lst (ws.map (mI N)))],rfl,rfl,?_⟩
 exact ax (ds:=[.lst (ws.map (mI N)), .tup (x.2.map nI)]) rfl (De (ho x hx).2 (ho x hx).1)
end
end K36
end
section
set_option maxHeartbeats 1000000
namespace K36
open PySem PySem.Spec PyProof.Rows L2 L3 MT JT
theorem rS{i:Nat}{f:FD}{δ:av}{d:D}{ds es:List D}(h:f δ= .ok d)(hs:seqD? d=some es)(hb:δ[i]? =some (.bld ds))(hl:ds.length+es.length<=sizeLine):qc i f δ= .ok (.nx (δ.set i (.bld (ds++es)))):=by
 unfold qc nQ;rw [h,R.aX,hb];show(match seqD? d with | some es=>_ | none=>_)=_
 rw[hs];show R.a_ _ _=_;rw [bM _ hl]
section
variable {ins:PR} {gs:List Gt} {os:PU}
theorem rP(hi:ins.length < 1000):cy [.lst (ins.map inD)]= .ok (nI (bV ins)):=by
 have hz:sizeLine=16777216:=sizeLine_eq;unfold cy lU;refine eF (c_ (ax (ds:=[.lst (ins.map fun x=>nI x.2)]) (az (cc (cj (ds:=ins.map inD) rfl (by rw[List.length_map];omega) ?_)) rfl) ?_))
 .exact NT.bG inD _ fun x hx=>⟨[.val (.str x.1), .val (nI x.2)],rfl,rfl,rfl⟩
 .have e:(ins.map fun x=>nI x.2)=(ins.map fun x=>((x.2:Nat):Int)).map D.int:=by rw[List.map_map];rfl
  rw[e];show(match ints? ((ins.map fun x=>((x.2:Nat):Int)).map D.int) with | some ns=>R.ok (D.int ns.sum) | none=> .no)=_
  rw[L2.ints_map];show R.ok (D.int (ins.map fun x=>((x.2:Nat):Int)).sum)=_
  unfold nI bV;congr 2
  induction ins with
  | nil=>rfl
  | cons x l ih=>
    rw[List.map_cons,List.map_cons,List.sum_cons,List.sum_cons,ih (by simp only[List.length_cons] at hi;omega) (by rw[List.map_map];rfl)]
    omega
theorem uJ{nums ns:List Nat}(h:∀n∈ns,n < nums.length)(hl:ns.length < 1000):dQ [.tup (ns.map nI), .lst (nums.map nI)]= .ok (.tup ((ns.map fun n=>nums.getD n 0).map nI)):=by
 have hz:sizeLine=16777216:=sizeLine_eq;unfold dQ p6;refine eF (c_ (ax (ds:=[.lst ((ns.map fun n=>nums.getD n 0).map nI)]) (az (cc (cj (ds:=ns.map nI) (oU rfl) (by rw[List.length_map];omega) ?_)) rfl) rfl))
 rw[List.map_map];refine NT.bG nI _ fun n hn=>⟨[.val (nI n), .val (.lst (nums.map nI))],rfl,rfl,aq (a:= .lst (nums.map nI)) (b:=nI n) rfl rfl ?_⟩
 refine NT.de ?_;rw[List.getElem?_map,List.getElem?_eq_getElem (h n hn)];show _=some (nI (nums.getD n 0));rw[List.getD_eq_getElem?_getD,List.getElem?_eq_getElem (h n hn)];rfl
abbrev gd(nums:List Nat):Nat->Nat:=fun n=>nums.getD n 0
theorem tj{nums:List Nat}(h:∀g∈gs,(∀n∈g.2.1,n < nums.length)/\g.2.1.length < 1000)(hl:gs.length < 1000):cI [.lst (gs.map jb), .lst (nums.map nI)]= .ok (.lst ((gs.map (iu (gd nums))).map jb)):=by
 have hz:sizeLine=16777216:=sizeLine_eq;unfold cI jC;refine eF (c_ (cc (cj (ds:=gs.map jb) rfl (by rw[List.length_map];omega) ?_)))
 rw[List.map_map];exact NT.bG jb _ fun g hg=>⟨[.val (.str (kS g.1)), .val (.tup (g.2.1.map nI)), .val (.bl g.2.2), .val (.lst (nums.map nI))],rfl,rfl,c9 (az rfl (az (ax (ds:=[.tup (g.2.1.map nI), .lst (nums.map nI)]) rfl (uJ (h g hg).1 (h g hg).2)) (az rfl rfl))) (by simp;omega)⟩
theorem sM{nums:List Nat}(h:∀x∈os,(∀n∈x.2,n < nums.length)/\x.2.length < 1000)(hl:os.length < 1000):cW [.lst (os.map j6), .lst (nums.map nI)]= .ok (.lst ((os.map (kJ (gd nums))).map j6)):=by
 have hz:sizeLine=16777216:=sizeLine_eq;unfold cW kr;refine eF (c_ (cc (cj (ds:=os.map j6) rfl (by rw[List.length_map];omega) ?_)))
 rw[List.map_map];exact NT.bG j6 _ fun x hx=>⟨[.val (.str x.1), .val (.tup (x.2.map nI)), .val (.lst (nums.map nI))],rfl,rfl,c9 (az rfl (az (ax (ds:=[.tup (x.2.map nI), .lst (nums.map nI)]) rfl (uJ (h x hx).1 (h x hx).2)) rfl)) (by simp;omega)⟩
theorem ES(n:Nat):il 0 n=(List.range n).map nI:=by
 unfold il;refine List.map_congr_left fun i _=>?_
 show D.int (0+(i:Int))=D.int (i:Int);rw[Int.zero_add]
theorem BZ{f:FD}{δ:av}{n:Nat}(h:f δ= .ok (nI n))(hn:n < 1000000):Cv f δ= .ok ((List.range n).map nI):=by
 unfold Cv;rw [h,R.aX];show R.a_ _ _=_;rw [bM _ ⟨by omega,by omega⟩,Int.toNat_natCast,ES]
theorem t6{f g:FD}{δ:av}{a b:Nat}(h:f δ= .ok (nI a))(h2:g δ= .ok (nI b))(ha:a < 1000000)(hb:b < 1000000):ue f g δ= .ok ((List.range' a (b - a)).map nI):=by
 unfold ue;rw [h,R.aX,h2,R.aX];show R.a_ _ _=_;rw[bM _ ⟨by omega,by omega,by omega,by omega,by omega⟩,show((b:Int) - a).toNat=b - a by omega,List.range'_eq_map_range,List.map_map];rfl
def mz(c l n:Nat):List Nat:=List.range c++(List.range n).map fun i=>c+l+i
theorem yr(c l n:Nat):(mz c l n).length=c+n:=by unfold mz;simp
theorem BX{c l n w:Nat}(h:w < c+n):gd (mz c l n) w=pH c l w:=by
 show(mz c l n).getD w 0=_;unfold mz pH;rw[List.getD_eq_getElem?_getD];by_cases q:w < c
 .rw [List.getElem?_append_left (by simpa using q),if_pos q,List.getElem?_range q];rfl
 .rw [List.getElem?_append_right (by simpa using q),if_neg q,List.getElem?_map,List.length_range,List.getElem?_range (by omega)]
  show c+l+(w - c)=w+l;omega
theorem Fs{l:Nat}(hi:ins.length < 100)(hw:∀x∈ins,x.2 < 100)(hg:gs.length < 1000)(hl:l < 100000):ee [aT ins gs os,nI l]= .ok (.lst ((mz (bV ins) l gs.length).map nI)):=by
 have hz:sizeLine=16777216:=sizeLine_eq;have hwd:=ib hw;have hwd2:bV ins < 10000:=by omega
 unfold ee k3;refine eF (b9 (kD (d:=nI (bV ins)) (ax (ds:=[.lst (ins.map inD)]) rfl (rP (by omega))) (by simp [cY,eh])) (b9 (vH (ds:=(List.range (bV ins)).map nI) (BZ (n:=bV ins) rfl (by omega)) (by simp [cY,eh])) ?_))
 have r2:dy (cV (aF d3 (aj (e2 b6 (ae 0) (eC (.int 1))) aG))) (bc 0) jn (e2 cf (e2 cf (ae 2) (ae 1)) (ae 0)) ["place"] [1,2] [.val (aT ins gs os), .val (nI l), .val (nI (bV ins)), .bld ((List.range (bV ins)).map nI)]= .ok (((List.range gs.length).map fun i=>bV ins+l+i).map nI):=by
  refine cj (ds:=il 0 gs.length) (rA (n:=gs.length) (ax (ds:=[.lst (gs.map jb)]) rfl (by rw[um,List.length_map])) (by omega)) (by unfold il;rw [List.length_map,List.length_range];omega) ?_
  rw[List.map_map];unfold il;refine NT.bG (fun i:Nat=>D.int (0+(i:Int))) _ fun i hi=>⟨[.val (.int (0+(i:Int))), .val (nI l), .val (nI (bV ins))],rfl,rfl,aq (a:= .int ((bV ins:Int)+l)) (b:= .int (0+(i:Int))) (aq (a:=nI (bV ins)) (b:=nI l) rfl rfl rfl) rfl ?_⟩
  exact congrArg (fun z=>R.ok (D.int z)) (by omega:(bV ins:Int)+l+(0+(i:Int))=((bV ins+l+i:Nat):Int))
 refine b9 (δ1:=[.val (aT ins gs os), .val (nI l), .val (nI (bV ins)), .bld ((mz (bV ins) l gs.length).map nI)]) ?_ (c_ rfl);unfold Bh;show(dy _ _ _ _ _ _ [.val (aT ins gs os), .val (nI l), .val (nI (bV ins)), .bld ((List.range (bV ins)).map nI)]).bind _=_;rw[r2,R.aX];show R.a_ (decide (((List.range (bV ins)).map nI).length+(((List.range gs.length).map fun i=>bV ins+l+i).map nI).length<=sizeLine)) _=_
 rw[bM _ (by rw[List.length_map,List.length_range,List.length_map,List.length_map,List.length_range];omega)]
 unfold mz;rw[List.map_append];rfl
end
def b5(pairs:List (Nat × Nat))(k:Nat):Option Nat:=(pairs.find? fun q=>decide (q.2=k)).map (·.1)
def dctP(pairs:List (Nat × Nat)):D:= .dct (pairs.map fun q=>Sum.inl ((q.2:Nat):Int)) (pairs.map fun q=>nI q.1)
theorem zS(a b:Nat):decide ((Sum.inl ((a:Nat):Int):Key)=Sum.inl ((b:Nat):Int))=decide (a=b):=by
 by_cases h:a=b
 .subst h;simp
 .rw [decide_eq_false h];refine decide_eq_false fun z=>h ?_
  injection z with z
  omega
theorem vV(k:Nat):∀pairs:List (Nat × Nat),Am (pairs.map fun q=>Sum.inl ((q.2:Nat):Int)) (pairs.map fun q=>nI q.1) (Sum.inl ((k:Nat):Int))=(b5 pairs k).map nI
 | []=>rfl
 | q ::pairs=>by
   have ih:=vV k pairs;unfold Am b5 at ih ⊢;rw[List.map_cons,List.map_cons,List.zip_cons_cons,List.find?_cons,List.find?_cons];show Option.map _ (match decide ((Sum.inl ((q.2:Nat):Int):Key)=Sum.inl ((k:Nat):Int)) with | true=>some (Sum.inl ((q.2:Nat):Int),nI q.1) | false=>_)=_
   rw[zS];cases decide (q.2=k) with
   | true=>rfl
   | false=>exact ih
theorem lM(k:Nat):∀pairs:List (Nat × Nat),kK (pairs.map fun q=>Sum.inl ((q.2:Nat):Int)) (Sum.inl ((k:Nat):Int))=(b5 pairs k).isSome
 | []=>rfl
 | q ::pairs=>by
   have ih:=lM k pairs;unfold kK b5 at ih ⊢;rw[List.map_cons,List.any_cons,List.find?_cons,zS,ih];cases decide (q.2=k) <;> rfl
theorem nK{k:Nat}{pairs:List (Nat × Nat)}:sF (.int k) (dctP pairs)= .ok (.bl (b5 pairs k).isSome):=by
 show R.ok (D.bl (kK _ _))=_;rw[lM]
theorem Ck{k:Nat}{pairs:List (Nat × Nat)}:Bz (.int k) (dctP pairs)= .ok (.bl (b5 pairs k).isNone):=by
 show R.ok (D.bl (!kK _ _))=_;rw[lM,Option.not_isSome]
theorem sZ{k o:Nat}{pairs:List (Nat × Nat)}(h:b5 pairs k=some o):tS (dctP pairs) (.int k)= .ok (nI o):=by
 show(match Am (pairs.map fun q=>Sum.inl ((q.2:Nat):Int)) (pairs.map fun q=>nI q.1) (Sum.inl ((k:Nat):Int)) with | some x=>R.ok x | none=> .no)=_
 rw[vV,h];rfl
theorem n_{f:Nat->Nat}{os:Nat->List Nat}:∀(a b:List (Option Nat × Nat)) (free:Nat),cH f os (a++b) free=cH f os a free++cH f os b (free+aM a)
 | [],b,free=>rfl
 | (some o,w) ::a,b,free=>by
   rw[List.cons_append];show _++cH f os (a++b) free=(_++cH f os a free)++cH f os b (free+aM a);rw[n_ a b free,List.append_assoc]
 | (none,w) ::a,b,free=>by
   rw[List.cons_append];show _++cH f os (a++b) (free+w)=(_++cH f os a (free+w))++cH f os b (free+(w+aM a));rw[n_ a b (free+w),List.append_assoc,show free+w+aM a=free+(w+aM a) by omega]
theorem kE:∀(a b:List (Option Nat × Nat)),aM (a++b)=aM a+aM b
 | [],b=>by show aM b=0+_;omega
 | (some o,w) ::a,b=>kE a b
 | (none,w) ::a,b=>by
   show w+aM (a++b)=(w+aM a)+aM b;rw[kE a b];omega
def cO(pairs:List (Nat × Nat))(ins:PR):List (Option Nat × Nat):=ins.zipIdx.map fun x=>(b5 pairs x.2,x.1.2)
def lD(os:PU)(o:Nat):List Nat:=(os.getD o (Str.empty,[])).2
theorem o5{pairs:List (Nat × Nat)}{ins:PR}{i:Nat}{x:Str × Nat}(h:ins[i]? =some x):(cO pairs ins).take (i+1)=(cO pairs ins).take i++[(b5 pairs i,x.2)]:=by
 unfold cO;rw[List.take_add_one,List.getElem?_map,List.getElem?_zipIdx,h];simp
theorem l8{pairs:List (Nat × Nat)}{ins:PR}:(cO pairs ins).length=ins.length:=by unfold cO;simp
theorem Cf{pairs:List (Nat × Nat)}{ins:PR}{o w:Nat}(h:(some o,w)∈cO pairs ins):∃k x,ins[k]? =some x/\x.2=w/\b5 pairs k=some o:=by
 unfold cO at h;obtain⟨⟨x,k⟩,hx,e⟩:=List.mem_map.mp h;rw[List.mem_zipIdx_iff_getElem?] at hx;injection e with e1 e2
 exact⟨k,x,hx,e2,e1⟩
theorem qm{pairs:List (Nat × Nat)}{k o:Nat}(h:b5 pairs k=some o):(o,k)∈pairs:=by
 unfold b5 at h;obtain⟨⟨a,b⟩,h1,e⟩:=L3.eQ h;have:=List.find?_some h1;have hb:b=k:=of_decide_eq_true this;have ha:a=o:=e;subst ha hb;exact List.mem_of_find?_eq_some h1
theorem lN:∀{φ:List (Option Nat × Nat)},(∀x∈φ,x.2 < 100)->aM φ<=100*φ.length
 | [],_=>Nat.le_refl _
 | (some o,w) ::φ,h=>by
   have:=lN (φ:=φ) fun x hx=>h x (List.mem_cons_of_mem _ hx)
   show aM φ<=100*(φ.length+1);omega
 | (none,w) ::φ,h=>by
   have:=lN (φ:=φ) fun x hx=>h x (List.mem_cons_of_mem _ hx)
   have:=h (none,w) List.mem_cons_self;show w+aM φ<=100*(φ.length+1);omega
theorem vw:∀{φ:List (Option Nat × Nat)},(∀x∈φ,x.2 < 100)->(φ.map (·.2)).sum<=100*φ.length
 | [],_=>Nat.le_refl _
 | x ::φ,h=>by
   have:=vw (φ:=φ) fun x hx=>h x (List.mem_cons_of_mem _ hx)
   have:=h x List.mem_cons_self;rw[List.map_cons,List.sum_cons,List.length_cons];omega
section
variable {ai ah:PR} {gs1 gs2:List Gt} {aI cz:PU} {pairs:List (Nat × Nat)} {nums:List Nat}
def Fits(aI:PU)(ah:PR)(pairs:List (Nat × Nat)):Prop:=∀q∈pairs,∃x y,aI[q.1]? =some x/\ah[q.2]? =some y/\x.2.length=y.2
theorem Fits.at(F:Fits aI ah pairs){o w:Nat}(h:(some o,w)∈cO pairs ah):∃x,aI[o]? =some x/\lD aI o=x.2/\x.2.length=w:=by
 obtain⟨k,y,h1,h2,h3⟩:=Cf h;obtain⟨x,y',a,b,c⟩:=F _ (qm h3);rw[h1] at b;cases b;refine⟨x,a,?_,by rw[c,h2]⟩
 unfold lD;rw[List.getD_eq_getElem?_getD,a];rfl
theorem yE(F:Fits aI ah pairs)(Gr:ai.length < 100)(Ma:∀x∈ai,x.2 < 100)(Pq:ah.length < 100)(Ko:∀x∈ah,x.2 < 100)(Mg:gs1.length < 1000)(Gk:gs2.length < 1000)(ho:∀x∈aI,x.2.length < 1000/\∀n∈x.2,n < nums.length) :
 dq [aT ah gs2 cz,aT ai gs1 aI, .lst (nums.map nI),dctP pairs]= .ok (.lst ((cH (gd nums) (lD aI) (cO pairs ah) (bV ai)++List.range' (bV ai+aM (cO pairs ah)+gs1.length) gs2.length).map nI)):=by
 have hz:sizeLine=16777216:=sizeLine_eq;have hwd:=ib Ma;have hph:∀x∈cO pairs ah,x.2 < 100:=fun x hx=>by
  unfold cO at hx;obtain⟨⟨y,k⟩,hy,rfl⟩:=List.mem_map.mp hx;rw[List.mem_zipIdx_iff_getElem?] at hy;exact Ko y (List.mem_of_getElem? hy)
 have hpt:∀i,∀x∈(cO pairs ah).take i,x.2 < 100:=fun i x hx=>hph x (List.mem_of_mem_take hx)
 have hlw:∀i,aM ((cO pairs ah).take i)<=10000:=fun i=>by
  have:=lN (hpt i);rw[List.length_take,l8] at this;omega
 have wJ:∀i,(cH (gd nums) (lD aI) ((cO pairs ah).take i) (bV ai)).length<=10000:=fun i=>by
  rw[iZ _ _ fun o w h=>by obtain⟨x,_,e,e2⟩:=F.at (List.mem_of_mem_take h);rw [e,e2]]
  have:=vw (hpt i);rw[List.length_take,l8] at this;omega
 unfold dq jK;refine eF (b9 (vH (ds:=[]) rfl (by simp [cY,er])) (b9 (kD (d:=nI (bV ai)) (ax (ds:=[.lst (ai.map inD)]) rfl (rP (by omega))) (by simp [cY,er])) ?_))
 let E (i:Nat) (a6 a7:Sl):av:=[.val (aT ah gs2 cz), .val (aT ai gs1 aI), .val (.lst (nums.map nI)), .val (dctP pairs), .bld ((cH (gd nums) (lD aI) ((cO pairs ah).take i) (bV ai)).map nI), .val (nI (bV ai+aM ((cO pairs ah).take i))),a6,a7, .un]
 obtain⟨δ1,e1,a6,a7,F3⟩:=qh (t:=fE 2 (bH (bc 6) (bH (bc 7) fD))) (body:=eW) (ds:=cT (ah.map inD))
  (fun i δ=>∃a6 a7,δ=E i a6 a7) (δ:=E 0 .un .un) ⟨.un, .un,rfl⟩ (by
    rintro i d δ hd ⟨a6,a7,rfl⟩;have hv:((cT (ah.map inD)).map V3.d)[i]? =some (.d d):=by rw[List.getElem?_map,hd];rfl
    obtain⟨d0,OK,ed⟩:=q_ hv;cases ed;obtain⟨x,hx,rfl⟩:=NT.vC OK;have hxw:=Ko x (List.mem_of_getElem? hx);refine⟨E (i+1) (.val (.int i)) (.val (inD x)),?_,⟨_,_,rfl⟩⟩;have hE:E (i+1) (.val (.int i)) (.val (inD x))=[.val (aT ah gs2 cz), .val (aT ai gs1 aI), .val (.lst (nums.map nI)), .val (dctP pairs), .bld ((cH (gd nums) (lD aI) ((cO pairs ah).take i) (bV ai)).map nI++(cH (gd nums) (lD aI) [(b5 pairs i,x.2)] (bV ai+aM ((cO pairs ah).take i))).map nI), .val (nI (bV ai+aM ((cO pairs ah).take i)+aM [(b5 pairs i,x.2)])), .val (.int i), .val (inD x), .un]:=by
     show [_,_,_,_,Sl.bld ((cH (gd nums) (lD aI) ((cO pairs ah).take (i+1)) (bV ai)).map nI),Sl.val (nI (bV ai+aM ((cO pairs ah).take (i+1)))),_,_,_]=_;rw[o5 hx,n_,kE,List.map_append,Nat.add_assoc]
    rw[hE];have Gs:=wJ i;have Gj:=hlw i;rw[show fE 2 (bH (bc 6) (bH (bc 7) fD)) (.tup [.int i,inD x]) (E i a6 a7)= .ok ([.val (aT ah gs2 cz), .val (aT ai gs1 aI), .val (.lst (nums.map nI)), .val (dctP pairs), .bld ((cH (gd nums) (lD aI) ((cO pairs ah).take i) (bV ai)).map nI), .val (nI (bV ai+aM ((cO pairs ah).take i))), .val (.int i), .val (inD x), .un]:av) from rfl,R.aX]
    generalize hfr:bV ai+aM ((cO pairs ah).take i)=fr;have hfrl:fr < 30000:=by omega
    generalize cH (gd nums) (lD aI) ((cO pairs ah).take i) (bV ai)=L at Gs;unfold eW;cases hf:b5 pairs i with
    | some o=>
      have hm:(some o,x.2)∈cO pairs ah:=by
       unfold cO;exact List.mem_map.mpr ⟨(x,i),List.mem_zipIdx_iff_getElem?.mpr hx,by rw[hf]⟩
      obtain⟨y,y1,y2,y3⟩:=F.at hm;have hyo:=ho y (List.mem_of_getElem? y1);refine qF (d_ (a:= .int i) (b:=dctP pairs) rfl rfl (by rw[nK,hf];rfl)) ?_
      refine(rS (ds:=L.map nI) (es:=((y.2.map (gd nums)).map nI)) (ax (ds:=[.tup (y.2.map nI), .lst (nums.map nI)]) (az (aq (a:=j6 y) (b:= .int 1) (aq (a:= .lst (aI.map j6)) (b:=nI o) (aq (a:=aT ai gs1 aI) (b:= .int 2) rfl rfl rfl) (aq (a:=dctP pairs) (b:= .int i) rfl rfl (sZ hf)) (NT.de (by rw[List.getElem?_map,y1];rfl))) rfl rfl) rfl) (uJ hyo.2 hyo.1)) rfl rfl ?_).trans ?_
      .rw [List.length_map,List.length_map,List.length_map];omega
      .show R.ok (Out.nx [_,_,_,_,Sl.bld (L.map nI++(y.2.map (gd nums)).map nI),Sl.val (nI fr),_,_,_])=R.ok (Out.nx [_,_,_,_,Sl.bld (L.map nI++(((lD aI o).map (gd nums))++[]).map nI),Sl.val (nI (fr+0)),_,_,_]);rw[y2,List.append_nil,Nat.add_zero]
    | none=>
      refine g9 (d_ (a:= .int i) (b:=dctP pairs) rfl rfl (by rw[nK,hf];rfl)) ?_
      have ev:∀b,e2 cf (ae 5) (e2 b6 (ae 7) (eC (.int 1))) [.val (aT ah gs2 cz), .val (aT ai gs1 aI), .val (.lst (nums.map nI)), .val (dctP pairs), .bld b, .val (nI fr), .val (.int i), .val (inD x), .un]= .ok (nI (fr+x.2)):=fun b=>aq (a:=nI fr) (b:=nI x.2) rfl (aq (a:=inD x) (b:= .int 1) rfl rfl rfl) rfl
      refine(b9 (rS (d:= .lst ((List.range' fr x.2).map nI)) (ds:=L.map nI) (es:=(List.range' fr x.2).map nI) (cc ((t6 (a:=fr) (b:=fr+x.2) rfl (ev (L.map nI)) (by omega) (by omega)).trans (by rw[Nat.add_sub_cancel_left]))) rfl rfl (by rw[List.length_map,List.length_map,List.length_range'];omega)) (kD (ev (L.map nI++(List.range' fr x.2).map nI)) (by simp))).trans ?_
      show R.ok (Out.nx [_,_,_,_,Sl.bld (L.map nI++(List.range' fr x.2).map nI),Sl.val (nI (fr+x.2)),_,_,_])=R.ok (Out.nx [_,_,_,_,Sl.bld (L.map nI++(List.range' fr x.2++[]).map nI),Sl.val (nI (fr+(x.2+0))),_,_,_]);rw[List.append_nil,Nat.add_zero])
 have hlen:(cT (ah.map inD)).length=ah.length:=by simp [cT]
 rw[hlen] at F3;have hta:(cO pairs ah).take ah.length=cO pairs ah:=List.take_of_length_le (by rw[l8];exact Nat.le_refl _)
 have Gs:=wJ ah.length;have Gj:=hlw ah.length;subst F3;refine b9 (vL (ds:=cT (ah.map inD)) (j5 rfl) e1) ?_;show fJ _ _ [.val (aT ah gs2 cz), .val (aT ai gs1 aI), .val (.lst (nums.map nI)), .val (dctP pairs), .bld ((cH (gd nums) (lD aI) ((cO pairs ah).take ah.length) (bV ai)).map nI), .val (nI (bV ai+aM ((cO pairs ah).take ah.length))),a6,a7, .un]=_;rw[hta] at Gs Gj ⊢;generalize cH (gd nums) (lD aI) (cO pairs ah) (bV ai)=L at Gs;generalize hfr:bV ai+aM (cO pairs ah)=fr;refine b9 (kD (d:=nI (fr+gs1.length)) (aq (a:=nI fr) (b:=nI gs1.length) rfl (ax (ds:=[.lst (gs1.map jb)]) rfl (by rw[um,List.length_map];rfl)) rfl) (by simp)) ?_
 have ev:∀b,e2 cf (ae 8) (aF d3 (aj (e2 b6 (ae 0) (eC (.int 1))) aG)) [.val (aT ah gs2 cz), .val (aT ai gs1 aI), .val (.lst (nums.map nI)), .val (dctP pairs), .bld b, .val (nI fr),a6,a7, .val (nI (fr+gs1.length))]= .ok (nI (fr+gs1.length+gs2.length)):=fun b=>aq (a:=nI (fr+gs1.length)) (b:=nI gs2.length) rfl (ax (ds:=[.lst (gs2.map jb)]) rfl (by rw[um,List.length_map];rfl)) rfl
 refine b9 (rS (d:= .lst ((List.range' (fr+gs1.length) gs2.length).map nI)) (ds:=L.map nI) (es:=(List.range' (fr+gs1.length) gs2.length).map nI) (cc ?_) rfl rfl (by rw[List.length_map,List.length_map,List.length_range'];omega)) (c_ ?_)
 .exact(t6 (a:=fr+gs1.length) (b:=fr+gs1.length+gs2.length) rfl (ev (L.map nI)) (by omega) (by omega)).trans (by rw[Nat.add_sub_cancel_left])
 .show R.ok (D.lst (L.map nI++(List.range' (fr+gs1.length) gs2.length).map nI))=_;rw[List.map_append]
end
end K36
end
section
namespace K36
open PySem PySem.Spec PyProof.Rows L2 L3 MT JT
def g8(q:Nat × Nat):D:= .tup [nI q.1,nI q.2]
def nP(pairs:List (Nat × Nat)):List (Key × D):=pairs.map fun q=>(Sum.inl ((q.2:Nat):Int),nI q.1)
theorem y_(pairs:List (Nat × Nat)):D.dct ((nP pairs).map (·.1)) ((nP pairs).map (·.2))=dctP pairs:=by
 unfold nP dctP;rw[List.map_map,List.map_map];rfl
theorem rT{kvs:List (Key × D)}{k:Key}{d:D}(h:kK (kvs.map (·.1)) k=false):nD kvs k d=kvs++[(k,d)]:=by
 unfold nD;have e:(kvs.any fun kv=>decide (kv.1=k))=kK (kvs.map (·.1)) k:=by unfold kK;rw [List.any_map];rfl
 rw[e,h,if_neg (by decide)]
section
variable {S:bw} {pairs:List (Nat × Nat)}
theorem sQ{k:Nat}(h:∀q∈pairs,q.2≠k):b5 pairs k=none:=by
 unfold b5;rw[List.find?_eq_none.mpr fun q hq=>by rw[decide_eq_false (h q hq)];decide]
 rfl
theorem k8{α β:Type}{f:α->β}{l:List α}{i:Nat}{x:α}(hn:(l.map f).Nodup)(hx:l[i]? =some x):∀y∈l.take i,f y≠f x:=fun y hy e=>by
 obtain⟨j,hj⟩:=List.getElem?_of_mem hy;rw[List.getElem?_take] at hj;split at hj
 .rename_i hji;have h1:(l.map f)[j]? =some (f y):=by rw[List.getElem?_map,hj];rfl
  have h2:(l.map f)[i]? =some (f x):=by rw[List.getElem?_map,hx];rfl
  obtain⟨a1,a2⟩:=List.getElem?_eq_some_iff.mp h1;obtain⟨b1,b2⟩:=List.getElem?_eq_some_iff.mp h2;have:=(List.nodup_iff_pairwise_ne.mp hn);have:=List.pairwise_iff_getElem.mp this j i a1 b1 hji;exact this (by rw[a2,b2,e])
 .cases hj
theorem EB(hn:(pairs.map (·.2)).Nodup)(hl:pairs.length < 1000)(hS:yC S){Q:V3->bw->Prop}(h:Q (.d (dctP pairs)) S):W3 (fj [.d (.lst (pairs.map g8))] S) Q:=by
 have hz:sizeLine=16777216:=sizeLine_eq;unfold fj;refine j3 hS (zQ rfl ?_);simp only[dg,fR,List.map,List.length,List.replicate,List.cons_append,List.nil_append,Nat.reduceAdd,Nat.reduceSub];unfold ig;refine aS <| bf (by simp) <| Ag ⟨_,rfl,?_⟩
 simp only[List.set];refine aS <| g7 <| gu (ds:=pairs.map g8) rfl ?_
 refine(cm (fun i δ S2=>(∃a b,δ=[some (.d (.lst (pairs.map g8))),some (.loc S.length),a,b])/\S2=S++[SO.dct (nP (pairs.take i))])
  ⟨⟨_,_,rfl⟩,rfl⟩ ?_).mono fun o S2 ⟨ft,kB,⟨a,b,hδ⟩,m3⟩=>⟨ft,kB,?_⟩
 .rintro i v δ S2 hv ⟨⟨a,b,rfl⟩,rfl⟩;obtain⟨q,hq,rfl⟩:=NT.cQ hv;refine⟨[some (.d (.lst (pairs.map g8))),some (.loc S.length),some (.d (nI q.1)),some (.d (nI q.2))],rfl,?_⟩;unfold jJ;have hno:b5 (pairs.take i) q.2=none:=sQ (k8 hn hq);have h1:(c0 (S++[.dct (nP (pairs.take i))]) [some (.d (.lst (pairs.map g8))),some (.loc S.length),some (.d (nI q.1)),some (.d (nI q.2))])[1]? =some (.val (dctP (pairs.take i))):=by
   unfold c0;show some (match res (S++[.dct (nP (pairs.take i))]) (.loc S.length) with | some d=>Sl.val d | none=> .un)=_
   unfold res;rw[bx];show some (Sl.val (.dct ((nP (pairs.take i)).map (·.1)) ((nP (pairs.take i)).map (·.2))))=_
   rw[y_]
  refine aS <| xy <| HN (b:=false) (d_ (a:=nI q.2) (b:=dctP (pairs.take i)) rfl (by unfold ae;rw [h1]) (by show sF (.int (q.2:Nat)) _=_;rw [nK,hno];rfl)) ?_
  rw[if_neg (by decide)]
  refine ph ⟨_,rfl,?_⟩;refine vx <| cx (d:=nI q.1) rfl <| w_var (v:= .loc S.length) rfl <| cx (d:=nI q.2) rfl ⟨_,S.length,_,Sum.inl ((q.2:Nat):Int),nP (pairs.take i),rfl,rfl,rfl,rfl,bx _ _,?_,?_⟩
  .unfold nP;rw [List.length_map,List.length_take];omega
  .refine⟨_,rfl,⟨_,_,rfl⟩,?_⟩;rw[dH,rT (by
    have:=lM q.2 (pairs.take i);rw[hno] at this;unfold nP;rw[List.map_map];exact this),List.take_add_one,hq]
   unfold nP;rw[List.map_append];rfl
 rw[List.length_map,List.length_map,List.take_length] at m3;subst hδ m3;refine ko (w_var rfl ⟨_,rfl,by unfold jS;exact decide_eq_true (Nat.le_refl _),⟨_,rfl⟩,dctP pairs,?_,h⟩)
 unfold res;rw[bx];show some (D.dct ((nP pairs).map (·.1)) ((nP pairs).map (·.2)))=_
 rw[y_]
def Bj(x:Str × D):D:= .tup [.str x.1,x.2]
def yg(xs:List (Str × D)):List (Key × D):=xs.map fun x=>(Sum.inr x.1,D.bl true)
theorem zk{xs:List (Str × D)}(h:∀x∈xs,x.1≠n):kK ((yg xs).map (·.1)) (Sum.inr n)=false:=by
 unfold kK yg;rw[List.map_map,List.any_map];refine List.any_eq_false.mpr fun x hx=>?_
 show ¬decide ((Sum.inr x.1:Key)=Sum.inr n)=true;rw[decide_eq_false fun z=>h x hx (by injection z)]
 decide
theorem sC{xs:List (Str × D)}(hn:(xs.map (·.1)).Nodup)(hl:xs.length < 1000)(hS:yC S){Q:V3->bw->Prop}(h:Q (.d .cL) S):W3 (dJ [.d (.lst (xs.map Bj))] S) Q:=by
 have hz:sizeLine=16777216:=sizeLine_eq;unfold dJ;refine j3 hS (JM rfl ?_);simp only[dg,fP,List.map,List.length,List.replicate,List.cons_append,List.nil_append,Nat.reduceAdd,Nat.reduceSub];unfold ie;refine aS <| bf (by simp) <| Ag ⟨_,rfl,?_⟩
 simp only[List.set];refine g7 <| gu (ds:=xs.map Bj) rfl ?_
 refine(cm (fun i δ S2=>(∃a b,δ=[some (.d (.lst (xs.map Bj))),some (.loc S.length),a,b])/\S2=S++[SO.dct (yg (xs.take i))])
  ⟨⟨_,_,rfl⟩,rfl⟩ ?_).mono fun o S2 ⟨ft,kB,⟨a,b,hδ⟩,m3⟩=>⟨ft,kB,by unfold jS;rfl,⟨_,m3⟩, .cL,by unfold res;rfl,h⟩
 rintro i v δ S2 hv ⟨⟨a,b,rfl⟩,rfl⟩;obtain⟨x,hx,rfl⟩:=NT.cQ hv;refine⟨[some (.d (.lst (xs.map Bj))),some (.loc S.length),some (.d (.str x.1)),some (.d x.2)],rfl,?_⟩;unfold jD;have hno:=zk (n:=x.1) (xs:=xs.take i) (k8 hn hx);have h1:(c0 (S++[.dct (yg (xs.take i))]) [some (.d (.lst (xs.map Bj))),some (.loc S.length),some (.d (.str x.1)),some (.d x.2)])[1]? =some (.val (.dct ((yg (xs.take i)).map (·.1)) ((yg (xs.take i)).map (·.2)))):=by
  unfold c0;show some (match res (S++[.dct (yg (xs.take i))]) (.loc S.length) with | some d=>Sl.val d | none=> .un)=_
  unfold res;rw[bx]
 refine aS <| xy <| HN (b:=false) (d_ (a:= .str x.1) (b:= .dct ((yg (xs.take i)).map (·.1)) ((yg (xs.take i)).map (·.2))) rfl (by unfold ae;rw [h1]) (by show R.ok (D.bl (kK _ _))=_;rw [hno])) ?_
 rw[if_neg (by decide)]
 refine ph ⟨_,rfl,?_⟩;refine vx <| cx (d:= .bl true) rfl <| w_var (v:= .loc S.length) rfl <| cx (d:= .str x.1) rfl ⟨_,S.length,_,Sum.inr x.1,yg (xs.take i),rfl,rfl,rfl,rfl,bx _ _,?_,?_⟩
 .unfold yg;rw [List.length_map,List.length_take];omega
 .refine⟨_,rfl,⟨_,_,rfl⟩,?_⟩;rw[dH,rT hno,List.take_add_one,hx];unfold yg;rw[List.map_append];rfl
end
section
variable {ai ah:PR} {gs1 gs2:List Gt} {aI cz:PU} {pairs:List (Nat × Nat)}
theorem EM(a b:Nat):Dc (.int a) (.int b)= .ok (.bl (!decide (a=b))):=by
 show R.ok (D.bl (!((a:Int)==(b:Int))))=_;congr 3;by_cases h:a=b
 .rw [decide_eq_true h];exact beq_iff_eq.mpr (by omega)
 .rw [decide_eq_false h];exact beq_eq_false_iff_ne.mpr (by omega)
theorem yH{N:List Str}{F:FS}{ds:List D}{δ:av}(h:F (cY N ds)= .ok (.nx δ)):qE N F ds= .ok .cL:=by unfold qE;rw [h];rfl
theorem BP(F:Fits aI ah pairs):fk [aT ai gs1 aI,aT ah gs2 cz, .lst (pairs.map g8)]= .ok .cL:=by
 unfold fk l7;obtain⟨δ1,e1,a,b,F3⟩:=qh (t:=fE 2 (bH (bc 3) (bH (bc 4) fD))) (body:=gA) (ds:=pairs.map g8)
  (fun i δ=>∃a b,δ=[.val (aT ai gs1 aI), .val (aT ah gs2 cz), .val (.lst (pairs.map g8)),a,b]) (δ:=[.val (aT ai gs1 aI), .val (aT ah gs2 cz), .val (.lst (pairs.map g8)), .un, .un]) ⟨.un, .un,rfl⟩ (by
    rintro i d δ hd ⟨a,b,rfl⟩;obtain⟨q,hq,rfl⟩:=NT.vC hd;obtain⟨x,y,h1,h2,h3⟩:=F q (List.mem_of_getElem? hq);refine⟨[.val (aT ai gs1 aI), .val (aT ah gs2 cz), .val (.lst (pairs.map g8)), .val (nI q.1), .val (nI q.2)],?_,⟨_,_,rfl⟩⟩;rw[show fE 2 (bH (bc 3) (bH (bc 4) fD)) (g8 q) [.val (aT ai gs1 aI), .val (aT ah gs2 cz), .val (.lst (pairs.map g8)),a,b]= .ok [.val (aT ai gs1 aI), .val (aT ah gs2 cz), .val (.lst (pairs.map g8)), .val (nI q.1), .val (nI q.2)] from rfl,R.aX]
    unfold gA;refine g9 (d_ (a:= .int x.2.length) (b:= .int y.2) (k:=false) (ax (ds:=[.tup (x.2.map nI)]) (az (aq (a:=j6 x) (b:= .int 1) (aq (a:= .lst (aI.map j6)) (b:=nI q.1) (aq (a:=aT ai gs1 aI) (b:= .int 2) rfl rfl rfl) rfl (NT.de (by rw[List.getElem?_map,h1];rfl))) rfl rfl) rfl) (by show R.ok (D.int ((x.2.map nI).length:Nat))=_;rw [List.length_map])) (aq (a:=inD y) (b:= .int 1) (aq (a:= .lst (ah.map inD)) (b:=nI q.2) (aq (a:=aT ah gs2 cz) (b:= .int 0) rfl rfl rfl) rfl (NT.de (by rw[List.getElem?_map,h2];rfl))) rfl rfl) ?_) rfl
    rw[EM,h3,decide_eq_true rfl];rfl)
 exact yH (vL (ds:=pairs.map g8) rfl e1)
theorem yn{n m:Nat}(h:n<=m):y0 (.int n) (.int m)= .ok (.bl false):=by
 show R.ok (D.bl (decide ((n:Int) > (m:Int))))=_;rw[decide_eq_false (by omega)]
theorem BM{ins:PR}{gs:List Gt}{os:PU}(h1:ins.length<=6)(h2:gs.length<=60)(h3:os.length<=6):eV [aT ins gs os]= .ok .cL:=by
 unfold eV l0;have q1:b2 y0 (aF d3 (aj (e2 b6 (ae 0) (eC (.int 0))) aG)) (eC fL) (cY dO [aT ins gs os])= .ok false:=d_ (a:= .int ins.length) (b:= .int (6:Nat)) (ax (ds:=[.lst (ins.map inD)]) rfl (by rw[um,List.length_map])) rfl (yn h1)
 have q2:b2 y0 (aF d3 (aj (e2 b6 (ae 0) (eC (.int 1))) aG)) (eC dR) (cY dO [aT ins gs os])= .ok false:=d_ (a:= .int gs.length) (b:= .int (60:Nat)) (ax (ds:=[.lst (gs.map jb)]) rfl (by rw[um,List.length_map])) rfl (yn h2)
 have q3:b2 y0 (aF d3 (aj (e2 b6 (ae 0) (eC (.int 2))) aG)) (eC eP) (cY dO [aT ins gs os])= .ok false:=d_ (a:= .int os.length) (b:= .int (6:Nat)) (ax (ds:=[.lst (os.map j6)]) rfl (by rw[um,List.length_map])) rfl (yn h3)
 refine yH (δ:=cY dO [aT ins gs os]) (g9 ?_ rfl);unfold Hi;rw[q1,R.aX,if_neg (by decide),q2,R.aX,if_neg (by decide)]
 exact q3
end
end K36
end
section
namespace K36
open PySem PySem.Spec PyProof.Rows L2 L3 MT JT
def dZ(pairs:List (Nat × Nat))(ins:PR):PR:=(ins.zipIdx.filter fun x=>(b5 pairs x.2).isNone).map (·.1)
def dY(pairs:List (Nat × Nat))(os:PU):PU:=(os.zipIdx.filter fun x=>!(pairs.map (·.1)).contains x.2).map (·.1)
theorem oW{pairs:List (Nat × Nat)}{ins:PR}:bV (dZ pairs ins)=aM (cO pairs ins):=by
 unfold dZ cO;generalize ins.zipIdx=l
 induction l with
 | nil=>rfl
 | cons x l ih=>
   rw[List.filter_cons,List.map_cons];cases hf:b5 pairs x.2 with
   | none=>
     rw[Option.isNone_none,if_pos rfl,List.map_cons];show bV (x.1 ::_)=x.1.2+aM _;rw[<-ih];unfold bV;rw[List.map_cons,List.sum_cons]
   | some o=>
     rw[Option.isNone_some,if_neg (by decide)]
     exact ih
theorem Al{pairs:List (Nat × Nat)}{ins:PR}{x:Str × Nat}(h:x∈dZ pairs ins):x∈ins:=by
 unfold dZ at h;obtain⟨⟨y,k⟩,hy,rfl⟩:=List.mem_map.mp h;exact List.mem_of_getElem? (List.mem_zipIdx_iff_getElem?.mp (List.mem_filter.mp hy).1)
theorem iX{pairs:List (Nat × Nat)}{os:PU}{x:Str × List Nat}(h:x∈dY pairs os):x∈os:=by
 unfold dY at h;obtain⟨⟨y,k⟩,hy,rfl⟩:=List.mem_map.mp h;exact List.mem_of_getElem? (List.mem_zipIdx_iff_getElem?.mp (List.mem_filter.mp hy).1)
section
variable {ai ah:PR} {gs1 gs2:List Gt} {aI cz:PU} {pairs:List (Nat × Nat)} {S:bw}
abbrev jL(ai ah:PR)(aI:PU)(pairs:List (Nat × Nat)):List Nat:=cH (pH (bV ai) (aM (cO pairs ah))) (lD aI) (cO pairs ah) (bV ai)
abbrev C6(ai ah:PR)(pairs:List (Nat × Nat)):Nat->Nat:=pH (bV ai) (aM (cO pairs ah))
abbrev AM(ai ah:PR)(gs1:List Gt)(aI:PU)(pairs:List (Nat × Nat)):Nat->Nat:=yf (jL ai ah aI pairs) (bV ai+aM (cO pairs ah)+gs1.length)
def jI(ai ah:PR)(pairs:List (Nat × Nat)):PR:=ai++dZ pairs ah
def jG(ai ah:PR)(gs1 gs2:List Gt)(aI:PU)(pairs:List (Nat × Nat)):List Gt:=gJ gs1 gs2 (cO pairs ah) (lD aI) (bV ai)
def jO(ai ah:PR)(gs1:List Gt)(aI cz:PU)(pairs:List (Nat × Nat)):PU:=(dY pairs aI).map (kJ (C6 ai ah pairs))++cz.map (kJ (AM ai ah gs1 aI pairs))
theorem yN{α:Type}(f:α->D)(l:List α):cT (l.map f)=l.zipIdx.map fun x=>D.tup [.int x.2,f x.1]:=by
 unfold cT;rw[List.zipIdx_map,List.map_map];rfl
theorem EX{ins:PR}:ins.map MT.inD=(ins.map fun x=>(x.1,nI x.2)).map Bj:=by rw[List.map_map];rfl
theorem BU{os:PU}:os.map j6=(os.map fun x=>(x.1,D.tup (x.2.map nI))).map Bj:=by rw[List.map_map];rfl
theorem lW{ins:PR}:((cO pairs ins).map (·.2)).sum=bV ins:=by
 unfold cO bV;rw[List.map_map];congr 1;refine List.ext_getElem? fun i=>?_
 rw[List.getElem?_map,List.getElem?_map,List.getElem?_zipIdx];cases ins[i]? <;> rfl
theorem k9{f g:Nat->Nat}{os:Nat->List Nat}:∀{φ:List (Option Nat × Nat)} {free:Nat},(∀o w,(some o,w)∈φ->∀n∈os o,f n=g n)->cH f os φ free=cH g os φ free
 | [],_,_=>rfl
 | (some o,w) ::φ,free,h=>by
   show(os o).map f++cH f os φ free=(os o).map g++cH g os φ free;rw[k9 fun o w hh=>h o w (List.mem_cons_of_mem _ hh),List.map_congr_left (h o w List.mem_cons_self)]
 | (none,w) ::φ,free,h=>by
   show _++cH f os φ (free+w)=_++cH g os φ (free+w);rw[k9 fun o w hh=>h o w (List.mem_cons_of_mem _ hh)]
theorem D2{L:List Nat}{top n w:Nat}(h:w < L.length+n):gd (L++List.range' top n) w=yf L top w:=by
 show(L++List.range' top n).getD w 0=_;unfold yf;rw[List.getD_eq_getElem?_getD];by_cases q:w < L.length
 .rw [List.getElem?_append_left q,if_pos q,List.getD_eq_getElem?_getD]
 .rw [List.getElem?_append_right (by omega),if_neg q,List.getElem?_range' (by omega)]
  show top+1*(w - L.length)=_;omega
theorem ox{f g:Nat->Nat}{x:Gt}(h:∀n∈x.2.1,f n=g n):iu f x=iu g x:=by unfold iu;rw [List.map_congr_left h]
theorem oC{f g:Nat->Nat}{x:Str × List Nat}(h:∀n∈x.2,f n=g n):kJ f x=kJ g x:=by unfold kJ;rw [List.map_congr_left h]
theorem kT{a b:List D}(h:a.length+b.length<=sizeLine):cf (.lst a) (.lst b)= .ok (.lst (a++b)):=CC h
theorem wq(k:Nat)(l:List Nat):oY (.int k) (.lst (l.map nI))= .ok (.bl (!l.contains k)):=by
 have e:l.map nI=(l.map fun(n:Nat)=>(n:Int)).map D.int:=(List.map_map (g:=D.int) (f:=fun(n:Nat)=>(n:Int)) (l:=l)).symm
 rw[e];show((match ints? ((l.map fun(n:Nat)=>(n:Int)).map D.int) with | some ss=>R.ok (ss.contains (k:Int)) | none=> .no)).bind (fun b=>R.ok (D.bl (!b)))=_
 rw[L2.ints_map];show R.ok (D.bl (!((l.map fun(n:Nat)=>(n:Int)).contains (k:Int))))=_
 congr 3;rw[Bool.eq_iff_iff];simp only[List.contains_iff_mem,List.mem_map];constructor
 .rintro⟨a,ha,e⟩;rw[<-Int.ofNat_inj.mp e];exact ha
 .exact fun h=>⟨k,h,rfl⟩
structure Ho (ai ah:PR) (gs1 gs2:List Gt) (aI cz:PU) (pairs:List (Nat × Nat)):Prop where
 F:Fits aI ah pairs
 nd:(pairs.map (·.2)).Nodup
 ni:((jI ai ah pairs).map (·.1)).Nodup
 no:((jO ai ah gs1 aI cz pairs).map (·.1)).Nodup
 ri:(jI ai ah pairs).length<=6
 rg:gs1.length+gs2.length<=60
 ro:(jO ai ah gs1 aI cz pairs).length<=6
theorem pd:∀{n:Nat} {l:List Nat},l.Nodup->(∀x∈l,x < n)->l.length<=n
 | 0,l,_,hn=>by
   cases l with
   | nil=>exact Nat.le_refl _
   | cons x l=>exact absurd (hn x List.mem_cons_self) (by omega)
 | n+1,l,h,hn=>by
   have h1:=pd (n:=n) (l:=l.erase n) (h.erase n) fun x hx=>by
    have h2:=hn x (List.mem_of_mem_erase hx);have h3:x≠n:=fun e=>(List.Nodup.mem_erase_iff h).mp hx |>.1 e
    omega
   have h2:=List.length_erase (a:=n) (l:=l);split at h2 <;> omega
theorem xt(N1:en ai gs1 aI)(N2:en ah gs2 cz)(J:Ho ai ah gs1 gs2 aI cz pairs)(hS:yC S){Q:V3->bw->Prop}(h:Q (.d (aT (jI ai ah pairs) (jG ai ah gs1 gs2 aI pairs) (jO ai ah gs1 aI cz pairs))) S) :
 W3 (mE [.d (aT ai gs1 aI), .d (aT ah gs2 cz), .d (.lst (pairs.map g8))] S) Q:=by
 have hz:sizeLine=16777216:=sizeLine_eq;have Ma:=ib N1.hw;have Ko:=ib N2.hw;have FR:=N1.hi;have FE:=N1.hg;have h13:=N1.ho;have h21:=N2.hi;have h22:=N2.hg;have h23:=N2.ho;have kN:pairs.length < 1000:=by
  have:=pd (n:=ah.length) J.nd fun x hx=>by
   obtain⟨q,hq,rfl⟩:=List.mem_map.mp hx;obtain⟨_,y,_,hy,_⟩:=J.F q hq;exact(List.getElem?_eq_some_iff.mp hy).1
  rw[List.length_map] at this;omega
 have hpw:∀x∈cO pairs ah,x.2 < 100:=fun x hx=>by
  unfold cO at hx;obtain⟨⟨y,k⟩,hy,rfl⟩:=List.mem_map.mp hx;rw[List.mem_zipIdx_iff_getElem?] at hy;exact N2.hw y (List.mem_of_getElem? hy)
 have hlw:aM (cO pairs ah) < 10000:=by
  have:=lN hpw;rw[l8] at this;omega
 have hll:(dZ pairs ah).length<=ah.length:=by
  unfold dZ;rw[List.length_map];have:=List.length_filter_le (fun x:(Str × Nat) × Nat=>(b5 pairs x.2).isNone) ah.zipIdx
  rwa [List.length_zipIdx] at this
 have hlo:(dY pairs aI).length<=aI.length:=by
  unfold dY;rw[List.length_map];have:=List.length_filter_le (fun x:(Str × List Nat) × Nat=>!(pairs.map (·.1)).contains x.2) aI.zipIdx
  rwa [List.length_zipIdx] at this
 unfold mE;refine j3 hS (zQ rfl ?_);simp only[dg,gH,List.map,List.length,List.replicate,List.cons_append,List.nil_append,Nat.reduceAdd,Nat.reduceSub];unfold nY;refine aS <| qO <| cx (d:= .cL) (ax (ds:=[aT ai gs1 aI,aT ah gs2 cz, .lst (pairs.map g8)]) rfl (BP J.F)) ⟨_,rfl,?_⟩
 refine aS <| bf (by simp) <| fq <| bb <| cx (d:= .lst (pairs.map g8)) rfl <| hJ <| EB J.nd kN hS ⟨_,rfl,?_⟩
 simp only[List.set];refine aS <| bf (by simp) <| cx (d:= .lst ((pairs.map (·.1)).map nI)) (cc (cj (ds:=pairs.map g8) rfl (by rw[List.length_map];omega) ?_)) ⟨_,rfl,?_⟩
 .rw [List.map_map];exact NT.bG g8 _ fun q hq=>⟨[.val (nI q.1), .val (nI q.2)],rfl,rfl,rfl⟩
 simp only[List.set];refine aS <| bf (by simp) <| fS (fun j ds S2=>S2=S/\ds=(((ah.zipIdx.take j).filter fun x=>(b5 pairs x.2).isNone).map (·.1)).map MT.inD) <| gu (ds:=ah.zipIdx.map fun x=>D.tup [.int x.2,MT.inD x.1]) (by rw[<-yN MT.inD];exact j5 rfl) ⟨by rw[List.length_map,List.length_map,List.length_zipIdx];omega,⟨rfl,rfl⟩,?_,?_⟩
 .rintro j v ds S2 hv ⟨rfl,rfl⟩;obtain⟨⟨x,k⟩,hx,rfl⟩:=NT.cQ hv;refine⟨[some (.d (.int k)),some (.d (inD x)),some (.d (dctP pairs))],rfl,xY (b:=(b5 pairs k).isNone) (d_ (a:= .int k) (b:=dctP pairs) rfl rfl Ck) ?_⟩;rw[List.take_add_one,hx,List.filter_append];cases hf:(b5 pairs k).isNone with
  | true=>rw [if_pos rfl];exact cx (d:=inD x) rfl ⟨_,rfl,rfl,by simp [hf]⟩
  | false=>rw [if_neg (by decide)];exact⟨rfl,by simp [hf]⟩
 rintro ds S2 ⟨e1,rfl⟩;subst S2;rw[List.length_map,List.length_map,List.take_length];refine⟨_,rfl,?_⟩;simp only[List.set];refine aS <| bf (by simp) <| fS (fun j ds S2=>S2=S/\ds=(((aI.zipIdx.take j).filter fun x=>!(pairs.map (·.1)).contains x.2).map (·.1)).map j6) <| gu (ds:=aI.zipIdx.map fun x=>D.tup [.int x.2,j6 x.1]) (by rw[<-yN j6];exact j5 rfl) ⟨by rw[List.length_map,List.length_map,List.length_zipIdx];omega,⟨rfl,rfl⟩,?_,?_⟩
 .rintro j v ds S2 hv ⟨rfl,rfl⟩;obtain⟨⟨x,k⟩,hx,rfl⟩:=NT.cQ hv;refine⟨[some (.d (.int k)),some (.d (j6 x)),some (.d (.lst ((pairs.map (·.1)).map nI)))],rfl,xY (b:=!(pairs.map (·.1)).contains k) (d_ (a:= .int k) (b:= .lst ((pairs.map (·.1)).map nI)) rfl rfl ?_) ?_⟩
  .exact wq k _
  rw[List.take_add_one,hx,List.filter_append];cases hf:!(pairs.map (·.1)).contains k with
  | true=>rw [if_pos rfl];exact cx (d:=j6 x) rfl ⟨_,rfl,rfl,by rw[List.map_append,List.map_append];congr 1;simp only[Option.toList_some,List.filter_cons,hf,if_true,List.filter_nil,List.map_cons,List.map_nil]⟩
  | false=>rw [if_neg (by decide)];exact⟨rfl,by congr 1;simp only[Option.toList_some,List.filter_cons,hf,List.filter_nil];simp⟩
 rintro ds S2 ⟨e1,rfl⟩;subst S2;rw[List.length_map,List.length_map,List.take_length];refine⟨_,rfl,?_⟩;simp only[List.set];have eI:((ah.zipIdx.filter fun x=>(b5 pairs x.2).isNone).map (·.1)).map MT.inD=(dZ pairs ah).map MT.inD:=rfl
 have eO:((aI.zipIdx.filter fun x=>!(pairs.map (·.1)).contains x.2).map (·.1)).map j6=(dY pairs aI).map j6:=rfl
 rw[eI,eO];refine aS <| bf (by simp) <| cx (d:= .lst ((mz (bV ai) (aM (cO pairs ah)) gs1.length).map nI)) (ax (ds:=[aT ai gs1 aI,nI (aM (cO pairs ah))]) (az rfl (az (ax (ds:=[.lst ((dZ pairs ah).map inD)]) rfl (by rw[rP (by omega),oW])) rfl)) (Fs FR N1.hw FE (by omega))) ⟨_,rfl,?_⟩
 simp only[List.set];have hnl:=yr (bV ai) (aM (cO pairs ah)) gs1.length;have hna:∀w,w < bV ai+gs1.length->gd (mz (bV ai) (aM (cO pairs ah)) gs1.length) w=C6 ai ah pairs w:=fun w hw=>BX hw
 have hL:cH (gd (mz (bV ai) (aM (cO pairs ah)) gs1.length)) (lD aI) (cO pairs ah) (bV ai)=jL ai ah aI pairs:=k9 fun o w ho n hn=>by
  obtain⟨x,x1,x2,x3⟩:=J.F.at ho;rw[x2] at hn;exact hna n ((N1.o x (List.mem_of_getElem? x1)).2 n hn)
 have hLl:(jL ai ah aI pairs).length=bV ah:=by
  rw[iZ _ _ fun o w ho=>by obtain⟨x,_,e,e2⟩:=J.F.at ho;rw [e,e2],lW]
 refine aS <| bf (by simp) <| cx (d:= .lst ((jL ai ah aI pairs++List.range' (bV ai+aM (cO pairs ah)+gs1.length) gs2.length).map nI)) ((ax (ds:=[aT ah gs2 cz,aT ai gs1 aI, .lst ((mz (bV ai) (aM (cO pairs ah)) gs1.length).map nI),dctP pairs]) rfl (yE J.F FR N1.hw h21 N2.hw FE h22 (fun x hx=>⟨(N1.o x hx).1,fun n hn=>by rw[hnl];exact(N1.o x hx).2 n hn⟩))).trans (by rw[hL])) ⟨_,rfl,?_⟩
 simp only[List.set];generalize hnu:mz (bV ai) (aM (cO pairs ah)) gs1.length=nums at hnl hna;have hnb:∀w,w < bV ah+gs2.length->gd (jL ai ah aI pairs++List.range' (bV ai+aM (cO pairs ah)+gs1.length) gs2.length) w=AM ai ah gs1 aI pairs w:=fun w hw=>D2 (by rw[hLl];exact hw)
 have wJ:(jL ai ah aI pairs++List.range' (bV ai+aM (cO pairs ah)+gs1.length) gs2.length).length=bV ah+gs2.length:=by rw[List.length_append,hLl,List.length_range']
 generalize jL ai ah aI pairs++List.range' (bV ai+aM (cO pairs ah)+gs1.length) gs2.length=oths at hnb wJ;refine aS <| bf (by simp) <| cx (d:= .lst ((jI ai ah pairs).map inD)) (aq (a:= .lst (ai.map inD)) (b:= .lst ((dZ pairs ah).map inD)) rfl rfl ((kT (by rw[List.length_map,List.length_map];omega)).trans (by unfold jI;rw [List.map_append]))) ⟨_,rfl,?_⟩
 simp only[List.set];have g1:∀g∈gs1,(∀n∈g.2.1,n < bV ai+gs1.length)/\g.2.1.length < 1000:=fun g hg=>by
  obtain⟨i,hi⟩:=List.getElem?_of_mem hg;have hil:=(List.getElem?_eq_some_iff.mp hi).1;obtain⟨a,b,c⟩:=N1.g i g hi;have:=tm g.1;exact⟨fun n hn=>by have:=c n hn;omega,by omega⟩
 have g2:∀g∈gs2,(∀n∈g.2.1,n < bV ah+gs2.length)/\g.2.1.length < 1000:=fun g hg=>by
  obtain⟨i,hi⟩:=List.getElem?_of_mem hg;have hil:=(List.getElem?_eq_some_iff.mp hi).1;obtain⟨a,b,c⟩:=N2.g i g hi;have:=tm g.1;exact⟨fun n hn=>by have:=c n hn;omega,by omega⟩
 have eG1:gs1.map (iu (gd nums))=gs1.map (iu (C6 ai ah pairs)):=List.map_congr_left fun g hg=>ox fun n hn=>hna n ((g1 g hg).1 n hn)
 have eG2:gs2.map (iu (gd oths))=gs2.map (iu (AM ai ah gs1 aI pairs)):=List.map_congr_left fun g hg=>ox fun n hn=>hnb n ((g2 g hg).1 n hn)
 have eO1:(dY pairs aI).map (kJ (gd nums))=(dY pairs aI).map (kJ (C6 ai ah pairs)):=List.map_congr_left fun x hx=>oC fun n hn=>hna n ((N1.o x (iX hx)).2 n hn)
 have eO2:cz.map (kJ (gd oths))=cz.map (kJ (AM ai ah gs1 aI pairs)):=List.map_congr_left fun x hx=>oC fun n hn=>hnb n ((N2.o x hx).2 n hn)
 refine aS <| bf (by simp) <| cx (d:= .lst ((jG ai ah gs1 gs2 aI pairs).map jb)) (aq (a:= .lst ((gs1.map (iu (C6 ai ah pairs))).map jb)) (b:= .lst ((gs2.map (iu (AM ai ah gs1 aI pairs))).map jb)) ((ax (ds:=[.lst (gs1.map jb), .lst (nums.map nI)]) rfl (tj (fun g hg=>by rw[hnl];exact g1 g hg) FE)).trans (by rw[eG1])) ((ax (ds:=[.lst (gs2.map jb), .lst (oths.map nI)]) rfl (tj (fun g hg=>by rw[wJ];exact g2 g hg) h22)).trans (by rw[eG2])) ((kT (by rw[List.length_map,List.length_map,List.length_map,List.length_map];omega)).trans (by unfold jG gJ;rw [List.map_append]))) ⟨_,rfl,?_⟩
 simp only[List.set];refine aS <| bf (by simp) <| cx (d:= .lst ((jO ai ah gs1 aI cz pairs).map j6)) (aq (a:= .lst (((dY pairs aI).map (kJ (C6 ai ah pairs))).map j6)) (b:= .lst ((cz.map (kJ (AM ai ah gs1 aI pairs))).map j6)) ((ax (ds:=[.lst ((dY pairs aI).map j6), .lst (nums.map nI)]) rfl (sM (fun x hx=>by rw[hnl];exact⟨(N1.o x (iX hx)).2,(N1.o x (iX hx)).1⟩) (by omega))).trans (by rw[eO1])) ((ax (ds:=[.lst (cz.map j6), .lst (oths.map nI)]) rfl (sM (fun x hx=>by rw[wJ];exact⟨(N2.o x hx).2,(N2.o x hx).1⟩) h23)).trans (by rw[eO2])) ((kT (by rw[List.length_map,List.length_map,List.length_map,List.length_map];omega)).trans (by unfold jO;rw [List.map_append]))) ⟨_,rfl,?_⟩
 simp only[List.set];have jgl:(jG ai ah gs1 gs2 aI pairs).length=gs1.length+gs2.length:=by unfold jG gJ;rw [List.length_append,List.length_map,List.length_map]
 refine aS <| qO <| fq <| bb <| cx (d:= .lst (((jI ai ah pairs).map fun x=>(x.1,nI x.2)).map Bj)) (by rw[<-EX];rfl) <| hJ <| sC (by rw[List.map_map];exact J.ni) (by rw[List.length_map];have:=J.ri;omega) hS ⟨_,rfl,?_⟩
 refine aS <| qO <| fq <| bb <| cx (d:= .lst (((jO ai ah gs1 aI cz pairs).map fun x=>(x.1,D.tup (x.2.map nI))).map Bj)) (by rw[<-BU];rfl) <| hJ <| sC (by rw[List.map_map];exact J.no) (by rw[List.length_map];have:=J.ro;omega) hS ⟨_,rfl,?_⟩
 refine aS <| qO <| cx (d:= .cL) (ax (ds:=[aT (jI ai ah pairs) (jG ai ah gs1 gs2 aI pairs) (jO ai ah gs1 aI cz pairs)]) (az (c9 rfl (by simp;omega)) rfl) (BM J.ri (by rw[jgl];exact J.rg) J.ro)) ⟨_,rfl,?_⟩
 exact ko <| cx (d:=aT (jI ai ah pairs) (jG ai ah gs1 gs2 aI pairs) (jO ai ah gs1 aI cz pairs)) (c9 rfl (by simp;omega)) ⟨_,rfl,rfl,⟨[],by simp⟩,_,rfl,h⟩
end
end K36
end
section
namespace K36
open PySem PySem.Spec PyProof.Rows L2 L3 MT JT
section
variable {ai ah:PR} {gs1 gs2:List Gt} {aI cz:PU} {pairs:List (Nat × Nat)}
theorem Bg(a b:PR):bV (a++b)=bV a+bV b:=by unfold bV;rw [List.map_append,List.sum_append]
theorem zR:bV (jI ai ah pairs)=bV ai+aM (cO pairs ah):=by unfold jI;rw [Bg,oW]
theorem zI{n l w m:Nat}(h:w < n+m):pH n l w < n+l+m:=by unfold pH;split <;> omega
theorem rW{f:Nat->Nat}{os:Nat->List Nat}{B:Nat}:∀{φ:List (Option Nat × Nat)} {free:Nat},(∀o w,(some o,w)∈φ->∀n∈os o,f n < B)->free+aM φ<=B->∀x∈cH f os φ free,x < B
 | [],_,_,_,x,hx=>by cases hx
 | (some o,w) ::φ,free,h,hb,x,hx=>by
   rcases List.mem_append.mp (show x∈(os o).map f++cH f os φ free from hx) with z | z
   .obtain⟨n,hn,rfl⟩:=List.mem_map.mp z;exact h o w List.mem_cons_self n hn
   .exact rW (fun o w hh=>h o w (List.mem_cons_of_mem _ hh)) hb x z
 | (none,w) ::φ,free,h,hb,x,hx=>by
   have hb:free+(w+aM φ)<=B:=hb;rcases List.mem_append.mp (show x∈List.range' free w++cH f os φ (free+w) from hx) with z | z
   .obtain⟨j,hj,rfl⟩:=List.mem_range'.mp z;omega
   .exact rW (fun o w hh=>h o w (List.mem_cons_of_mem _ hh)) (by omega) x z
theorem qL(F:Fits aI ah pairs):(jL ai ah aI pairs).length=bV ah:=by
 rw[iZ _ _ fun o w ho=>by obtain⟨x,_,e,e2⟩:=F.at ho;rw [e,e2],lW]
theorem Gz(N1:en ai gs1 aI)(F:Fits aI ah pairs):∀x∈jL ai ah aI pairs,x < bV ai+aM (cO pairs ah)+gs1.length:=by
 refine rW (fun o w ho n hn=>?_) (by omega)
 obtain⟨x,x1,x2,x3⟩:=F.at ho;rw[x2] at hn;exact zI ((N1.o x (List.mem_of_getElem? x1)).2 n hn)
theorem CW(N1:en ai gs1 aI)(F:Fits aI ah pairs){w m:Nat}(h:w < bV ah+m):AM ai ah gs1 aI pairs w < bV ai+aM (cO pairs ah)+gs1.length+m:=by
 show yf _ _ w < _;unfold yf;rw[qL F];split
 .rename_i q;have e:(jL ai ah aI pairs).getD w 0=(jL ai ah aI pairs)[w]'(by rw[qL F];exact q):=by rw[List.getD_eq_getElem?_getD,List.getElem?_eq_getElem (by rw[qL F];exact q)];rfl
  rw[e];have:=Gz N1 F _ (List.getElem_mem (by rw[qL F];exact q:w < (jL ai ah aI pairs).length))
  omega
 .omega
theorem n3(N1:en ai gs1 aI)(N2:en ah gs2 cz)(J:Ho ai ah gs1 gs2 aI cz pairs):en (jI ai ah pairs) (jG ai ah gs1 gs2 aI pairs) (jO ai ah gs1 aI cz pairs):=by
 have jgl:(jG ai ah gs1 gs2 aI pairs).length=gs1.length+gs2.length:=by unfold jG gJ;rw [List.length_append,List.length_map,List.length_map]
 refine⟨by have:=J.ri;omega,fun x hx=>?_,by have:=J.rg;omega,fun i x hx=>?_,by have:=J.ro;omega,fun x hx=>?_⟩
 .rcases List.mem_append.mp hx with z | z
  .exact N1.hw x z
  .exact N2.hw x (Al z)
 .rw [zR];unfold jG gJ at hx;by_cases hi:i < gs1.length
  .rw [List.getElem?_append_left (by rw[List.length_map];exact hi),List.getElem?_map] at hx
   cases hg:gs1[i]? with
   | none=>rw [hg] at hx;cases hx
   | some g=>
     rw[hg] at hx;cases hx;obtain⟨a,b,c⟩:=N1.g i g hg;refine⟨a,by unfold iu;rw [List.length_map];exact b,fun w hw=>?_⟩
     obtain⟨n,hn,rfl⟩:=List.mem_map.mp (show w∈g.2.1.map _ from hw)
     exact zI (c n hn)
  .rw [List.getElem?_append_right (by rw[List.length_map];omega),List.length_map,List.getElem?_map] at hx
   cases hg:gs2[i - gs1.length]? with
   | none=>rw [hg] at hx;cases hx
   | some g=>
     rw[hg] at hx;cases hx;obtain⟨a,b,c⟩:=N2.g _ g hg;refine⟨a,by unfold iu;rw [List.length_map];exact b,fun w hw=>?_⟩
     obtain⟨n,hn,rfl⟩:=List.mem_map.mp (show w∈g.2.1.map _ from hw)
     have:=CW (gs1:=gs1) N1 J.F (c n hn);have e:bV ai+aM (cO pairs ah)+gs1.length+(i - gs1.length)=bV ai+aM (cO pairs ah)+i:=by omega
     rw[e] at this;exact this
 .rw [zR,jgl];unfold jO at hx;rcases List.mem_append.mp hx with z | z
  .obtain⟨y,hy,rfl⟩:=List.mem_map.mp z;obtain⟨a,b⟩:=N1.o y (iX hy);refine⟨by unfold kJ;rw [List.length_map];exact a,fun w hw=>?_⟩
   obtain⟨n,hn,rfl⟩:=List.mem_map.mp (show w∈y.2.map _ from hw)
   have:=zI (l:=aM (cO pairs ah)) (b n hn);show pH _ _ n < _;omega
  .obtain⟨y,hy,rfl⟩:=List.mem_map.mp z;obtain⟨a,b⟩:=N2.o y hy;refine⟨by unfold kJ;rw [List.length_map];exact a,fun w hw=>?_⟩
   obtain⟨n,hn,rfl⟩:=List.mem_map.mp (show w∈y.2.map _ from hw)
   have:=CW (gs1:=gs1) N1 J.F (b n hn);show AM ai ah gs1 aI pairs n < _;omega
structure My (ins:PR) (gs:List Gt) (os:PU):Prop where
 N:en ins gs os
 i3:∀x∈ins,x.2=3
 o3:∀x∈os,x.2.length=3
theorem xa:many (cO pairs ah)=(dZ pairs ah).length:=by
 unfold dZ cO;generalize ah.zipIdx=l
 induction l with
 | nil=>rfl
 | cons x l ih=>
   rw[List.filter_cons,List.map_cons];cases hf:b5 pairs x.2 with
   | none=>
     rw[Option.isNone_none,if_pos rfl,List.map_cons,List.length_cons,<-ih];rfl
   | some o=>
     rw[Option.isNone_some,if_neg (by decide)]
     exact ih
theorem uF:(jI ai ah pairs).length=ai.length+(dZ pairs ah).length:=by unfold jI;rw [List.length_append]
def LS(g:Gt):Gt:=(g.1,g.2.1,true)
end
end K36
end
section
namespace K36
open PySem PySem.Spec PyProof.Rows L2 L3 MT JT
theorem Dk(b:Bool):mI 1 (fun _=>b)=bI b:=by cases b <;> rfl
theorem B7(f:M):mI 1 f=bI (f 0):=by rw[<-Dk];exact As fun i hi=>by rw[show i=0 by omega]
def b4(os:PU)(ws:List Bool):List D:=os.map fun x=> .tup ((cG ws x.2).map bI)
theorem vj(T:List Nat):T.map nI=(T.map fun(n:Nat)=>(n:Int)).map D.int:=(List.map_map (g:=D.int) (f:=fun(n:Nat)=>(n:Int)) (l:=T)).symm
theorem vD(T:List Nat)(i:Nat):(T.map fun(n:Nat)=>(n:Int)).contains (i:Int)=T.contains i:=by
 rw[Bool.eq_iff_iff];simp only[List.contains_iff_mem,List.mem_map];constructor
 .rintro⟨a,ha,e⟩;rw[<-Int.ofNat_inj.mp e];exact ha
 .exact fun h=>⟨i,h,rfl⟩
section
variable {ins:PR} {gs:List Gt} {os:PU} {bits:List Bool} {T B:List Nat} {S:bw}
theorem Ed(NO:en ins gs os)(hb:bits.length=ins.length)(hS:yC S){Q:V3->bw->Prop}(h:Q (.d (.lst (b4 os (ju ins gs bits (fun i=>T.contains i) (fun i=>B.contains i))))) S) :
 W3 (uR [.d (aT ins gs os), .d (.tup (bits.map bI)), .d (.tup (T.map nI)), .d (.tup (B.map nI))] S) Q:=by
 have hz:sizeLine=16777216:=sizeLine_eq
 let ms:List M:=bits.map fun b=>fun _=>b
 have hml:ms.length=ins.length:=by show(bits.map _).length=_;rw [List.length_map,hb]
 have hbm:bits.map bI=ms.map (mI 1):=by
  show _=(bits.map _).map _;rw[List.map_map];exact List.map_congr_left fun b _=>(Dk b).symm
 have hat:mP 0 ms=bits:=by
  show(bits.map fun b=>fun _=>b).map (fun f:M=>f 0)=bits
  rw[List.map_map];exact List.map_id _
 have hW:=Cj (p:=0) (ins:=ins) (gs:=gs) (bits:=ms) (turned:=T.map fun(n:Nat)=>(n:Int)) (bad:=B.map fun(n:Nat)=>(n:Int)) hml
 rw[hat] at hW;have e1:(fun i:Nat=>(T.map fun(n:Nat)=>(n:Int)).contains (i:Int))=fun i=>T.contains i:=funext fun i=>vD T i
 have kB:(fun i:Nat=>(B.map fun(n:Nat)=>(n:Int)).contains (i:Int))=fun i=>B.contains i:=funext fun i=>vD B i
 rw[e1,kB] at hW;have hWl:(zA ins gs ms (T.map fun(n:Nat)=>(n:Int)) (B.map fun(n:Nat)=>(n:Int))).length=bV ins+gs.length:=by
  have:=congrArg List.length hW;unfold mP ju at this;rw[List.length_map,d8,dS,jf hb.symm] at this;exact this
 generalize hWW:zA ins gs ms (T.map fun(n:Nat)=>(n:Int)) (B.map fun(n:Nat)=>(n:Int))=W at hW hWl
 have hout:o4 1 os W=b4 os (ju ins gs bits (fun i=>T.contains i) (fun i=>B.contains i)):=by
  unfold o4 b4;refine List.map_congr_left fun x hx=>?_
  rw[<-hW];unfold tell cG mP;rw[List.map_map,List.map_map];congr 1;refine List.map_congr_left fun n hn=>?_
  show mI 1 (ye W n)=bI ((W.map fun f=>f 0).getD n false)
  rw[B7];congr 1;have hnl:n < W.length:=by rw[hWl];exact(NO.o x hx).2 n hn
  unfold ye;rw[List.getD_eq_getElem?_getD,List.getD_eq_getElem?_getD,List.getElem?_map,List.getElem?_eq_getElem hnl];rfl
 rw[<-hout] at h;unfold uR;refine j3 hS (zQ rfl ?_);simp only[dg,wD,List.map,List.length,List.replicate,List.cons_append,List.nil_append,Nat.reduceAdd,Nat.reduceSub];unfold yM;refine ko <| fq <| bb <| cx (d:=aT ins gs os) rfl <| bb <| fq <| bb <| cx (d:=aT ins gs os) rfl <| bb <| cx (d:= .tup (ms.map (mI 1))) (by rw[<-hbm];rfl) <| bb <| cx (d:=mI 1 one) rfl <| bb <| cx (d:= .tup ((T.map fun(n:Nat)=>(n:Int)).map .int)) (by rw[<-vj];rfl) <| bb <| cx (d:= .tup ((B.map fun(n:Nat)=>(n:Int)).map .int)) (by rw[<-vj];rfl) <| hJ <| zU (.inr rfl) NO hml hS ?_
 rw[hWW];exact hJ <| CD NO.ho (fun x hx=>⟨(NO.o x hx).1,fun w hw=>by rw[hWl];exact(NO.o x hx).2 w hw⟩) hS ⟨_,rfl,rfl,⟨[],by simp⟩,_,rfl,h⟩
end
end K36
end
section
namespace K36
open PySem PySem.Spec PyProof.Rows L2 L3 MT JT
theorem wY{kd:Nat}{bs:List Bool}(hk:kd<=4)(hb:bs.length=ar kd):kF [.str (kS kd), .lst (bs.map bI)]= .ok (bI (gv kd bs)):=by
 match kd,hk,bs,hb with
 | 0,_,[a],_=>cases a <;> rfl
 | 1,_,[a,b],_=>cases a <;> cases b <;> rfl
 | 2,_,[a,b],_=>cases a <;> cases b <;> rfl
 | 3,_,[a,b],_=>cases a <;> cases b <;> rfl
 | 4,_,[a,b,c],_=>cases a <;> cases b <;> cases c <;> rfl
theorem DO(b:Bool):lJ (.int 1) (bI b)= .ok (bI (!b)):=by cases b <;> rfl
theorem rM{f g:FD}{δ:av}{b c:Bool}(hf:f δ= .ok (bI b))(hg:g δ= .ok (.bl c)):e2 b6 (eNew (fB (aj f (aj (e2 lJ (eC (.int 1)) f) aG)))) (aF kZ (aj g aG)) δ= .ok (bI (b !=c)):=by
 have hz:sizeLine=16777216:=sizeLine_eq;refine aq (a:= .lst [bI b,bI (!b)]) (b:= .int (if c then 1 else 0)) (cc (nH (az hf (az (aq (a:= .int 1) (b:=bI b) rfl hf (DO b)) rfl)) (by simp;omega))) (ax (ds:=[.bl c]) (az hg rfl) (by cases c <;> rfl)) ?_
 cases b <;> cases c <;> rfl
section
variable {ins:PR} {gs:List Gt} {os:PU} {tD:D} {T:Nat->Bool} {S:bw}
abbrev GJ(S:bw)(nt tD:D)(a3 a4 a5 a6 a7:Option V3):DE:=[some (.d nt),some (.loc S.length),some (.d tD),a3,a4,a5,a6,a7]
theorem xA{nt:D}{a7:Option V3}{g:Gt}{i:Nat}{ws:List Bool}(hT:xD (nI i) tD= .ok (.bl (T i)))(hg:vc ws.length g)(hl:ws.length < 20000) :
 W3 (jk (GJ S nt tD (some (.d (nI i))) (some (.d (.str (kS g.1)))) (some (.d (.tup (g.2.1.map nI)))) (some (.d (.bl g.2.2))) a7) (S++[.lst (ws.map bI)])) fun o S1=>(∃b7,o= .nx (GJ S nt tD (some (.d (nI i))) (some (.d (.str (kS g.1)))) (some (.d (.tup (g.2.1.map nI)))) (some (.d (.bl g.2.2))) b7))/\S1=S++[SO.lst ((ws++[gB g ws !=T i]).map bI)]:=by
 have hz:sizeLine=16777216:=sizeLine_eq;have ha:=tm g.1;unfold jk;have ec:nC ["one"] [1] (c0 (S++[.lst (ws.map bI)]) (GJ S nt tD (some (.d (nI i))) (some (.d (.str (kS g.1)))) (some (.d (.tup (g.2.1.map nI)))) (some (.d (.bl g.2.2))) a7))=[.un, .val (.lst (ws.map bI))]:=by
  show [Sl.un,ka _ 1]=_;unfold ka;rw[yS (v:= .loc S.length) rfl (C_ (bx _ _))]
 refine aS <| bf (by simp) <| IG (d:=bI (gB g ws)) (ax (ds:=[.str (kS g.1), .lst ((g.2.1.map fun n=>ws.getD n false).map bI)]) (az rfl (az (cc (cj (ds:=g.2.1.map nI) (oU rfl) (by rw[List.length_map];have:=hg.2.1;omega) ?_)) rfl)) (wY hg.1 (by rw[List.length_map];exact hg.2.1))) rfl ⟨_,rfl,?_⟩
 .rw [ec,show(g.2.1.map fun n=>ws.getD n false).map bI=g.2.1.map fun n=>bI (ws.getD n false) from List.map_map]
  exact NT.bG nI _ fun n hn=>⟨[.val (nI n), .val (.lst (ws.map bI))],rfl,rfl,aq (a:= .lst (ws.map bI)) (b:=nI n) rfl rfl (yD (hg.2.2 n hn))⟩
 simp only[List.set];refine qt (k:=S.length) rfl ⟨_,bx _ _⟩ (cx (d:=bI (gB g ws !=T i)) (rM rfl (aq (a:=nI i) (b:=tD) rfl rfl hT)) ⟨_,_,rfl,bx _ _,by rw[List.length_map];omega,⟨_,rfl⟩,?_⟩)
 rw[dH,List.map_append];rfl
theorem vK{w0:List Bool}(hg:∀i g,gs[i]? =some g->vc (w0.length+i) g)(Pu:gs.length < 1000)(DD:w0.length < 10000)(hO:os.length < 1000)(ho:∀x∈os,x.2.length < 1000/\∀n∈x.2,n < w0.length+gs.length)(hT:∀i,i < gs.length->xD (nI i) tD= .ok (.bl (T i)))(hS:yC S){Q:V3->bw->Prop}(h:Q (.d (.lst (b4 os (cF gs T w0)))) S) :
 W3 (fZ [.d (aT ins gs os), .d (.lst (w0.map bI)), .d tD] S) Q:=by
 have hz:sizeLine=16777216:=sizeLine_eq;unfold fZ;refine j3 hS (zQ rfl ?_);simp only[dg,fK,List.map,List.length,List.replicate,List.cons_append,List.nil_append,Nat.reduceAdd,Nat.reduceSub];unfold lu;refine aS <| bf (by simp) <| qf (ds:=w0.map bI) (by show nList (ae 1) _=_;rfl) ⟨_,rfl,?_⟩
 simp only[List.set];refine aS <| g7 <| gu (ds:=gs.zipIdx.map fun x=>D.tup [nI x.2,jb x.1]) (by rw[<-o_];exact j5 rfl) ?_
 refine(cm (fun i δ S2=>(∃a3 a4 a5 a6 a7,δ=GJ S (aT ins gs os) tD a3 a4 a5 a6 a7)/\S2=S++[SO.lst ((cF (gs.take i) T w0).map bI)])
  ⟨⟨_,_,_,_,_,rfl⟩,by simp [cF]⟩ ?_).mono fun o S2 ⟨ft,kB,⟨a3,a4,a5,a6,a7,hδ⟩,m3⟩=>⟨ft,kB,?_⟩
 .rintro i v δ S2 hv ⟨⟨a3,a4,a5,a6,a7,rfl⟩,rfl⟩;obtain⟨⟨g,k⟩,hq,rfl⟩:=NT.cQ hv;rw[List.getElem?_zipIdx] at hq;cases hgi:gs[i]? with
  | none=>rw [hgi] at hq;cases hq
  | some g'=>
    rw[hgi] at hq;simp only[Option.map_some,Nat.zero_add,Option.some.injEq,Prod.mk.injEq] at hq;obtain⟨rfl,rfl⟩:=hq;have hil:=(List.getElem?_eq_some_iff.mp hgi).1;have hrn:(cF (gs.take i) T w0).length=w0.length+i:=by rw[d8,List.length_take];omega
    refine⟨GJ S (aT ins gs os) tD (some (.d (nI i))) (some (.d (.str (kS g'.1)))) (some (.d (.tup (g'.2.1.map nI)))) (some (.d (.bl g'.2.2))) a7,rfl,?_⟩;refine(xA (hT i hil) (by rw[hrn];exact hg i g' hgi) (by rw[hrn];omega)).mono fun o S4 ⟨⟨c7,e4⟩,e5⟩=>⟨_,e4,⟨_,_,_,_,_,rfl⟩,?_⟩
    rw[e5,List.take_add_one,hgi,l4,List.length_take,Nat.min_eq_left (by omega)]
    rfl
 have hlz2:(gs.zipIdx.map fun x=>D.tup [nI x.2,jb x.1]).length=gs.length:=by rw[List.length_map,List.length_zipIdx]
 rw[List.length_map,hlz2,List.take_length] at m3;subst hδ m3;have hwn:(cF gs T w0).length=w0.length+gs.length:=d8 _ _ _;generalize cF gs T w0=ws at hwn h;refine ko <| fS (fun j ds S2=>S2=S++[SO.lst (ws.map bI)]/\ds=(b4 os ws).take j) <| gu (ds:=os.map j6) (jZ rfl) ⟨by rw[List.length_map,List.length_map];omega,⟨rfl,by simp⟩,?_,?_⟩
 .rintro j v ds S2 hv ⟨rfl,rfl⟩;obtain⟨x,hx,rfl⟩:=NT.cQ hv;obtain⟨o1,o2⟩:=ho x (List.mem_of_getElem? hx);refine⟨[some (.d (.str x.1)),some (.d (.tup (x.2.map nI))),some (.loc S.length)],rfl,oB ?_⟩;rw[if_pos rfl];have ec:nC ["one"] [2] (c0 (S++[.lst (ws.map bI)]) [some (.d (.str x.1)),some (.d (.tup (x.2.map nI))),some (.loc S.length)])=[.un, .val (.lst (ws.map bI))]:=by
   show [Sl.un,ka _ 2]=_;unfold ka;rw[yS (v:= .loc S.length) rfl (C_ (bx _ _))]
  refine IG (d:= .tup ((cG ws x.2).map bI)) (ax (ds:=[.lst ((cG ws x.2).map bI)]) (az (cc (cj (ds:=x.2.map nI) (oU rfl) (by rw[List.length_map];omega) ?_)) rfl) rfl) ?_ ⟨_,rfl,rfl,?_⟩
  .rw [ec];unfold cG;rw[show(x.2.map fun n=>ws.getD n false).map bI=x.2.map fun n=>bI (ws.getD n false) from List.map_map]
   exact NT.bG nI _ fun n hn=>⟨[.val (nI n), .val (.lst (ws.map bI))],rfl,rfl,aq (a:= .lst (ws.map bI)) (b:=nI n) rfl rfl (yD (by rw[hwn];exact o2 n hn))⟩
  .unfold pN;exact C2 _
  .unfold b4;rw[List.take_add_one,List.getElem?_map,hx];rfl
 .rintro ds S2 ⟨e1,rfl⟩;subst S2;rw[List.length_map,List.length_map,List.take_of_length_le (by unfold b4;rw [List.length_map];exact Nat.le_refl _)]
  exact⟨_,rfl,rfl,⟨_,rfl⟩,_,rfl,h⟩
end
end K36
end
section
namespace K36
open PySem PySem.Spec PyProof.Rows L2 L3 MT JT
def jW:List (Option Nat × Nat)->List Bool->List Bool
 | [],_=>[]
 | (some _,_) ::r,l=>jW r l
 | (none,w) ::r,l=>List.replicate w (l.headD false)++jW r (l.drop 1)
def nk(B:Nat->Bool)(f:Nat->List Bool):List (Option Nat × Nat)->Nat->List Bool->List Bool
 | [],_,_=>[]
 | (some o,_) ::r,k,l=>f o++nk B f r k l
 | (none,w) ::r,k,l=>bY k B (List.replicate w (l.headD false))++nk B f r (k+w) (l.drop 1)
theorem qK{B:Nat->Bool}{f:Nat->List Bool}:∀(φ:List (Option Nat × Nat)) (k:Nat) (l:List Bool),nk B f φ k l=gz f φ (bY k B (jW φ l))
 | [],_,_=>rfl
 | (some o,w) ::r,k,l=>by
   show f o++nk B f r k l=f o++gz f r (bY k B (jW r l));rw[qK r k l]
 | (none,w) ::r,k,l=>by
   have hl:(bY k B (List.replicate w (l.headD false))).length=w:=(dS _ _ _).trans List.length_replicate;show bY k B (List.replicate w (l.headD false))++nk B f r (k+w) (l.drop 1)=(bY k B (List.replicate w (l.headD false)++jW r (l.drop 1))).take w++gz f r ((bY k B (List.replicate w (l.headD false)++jW r (l.drop 1))).drop w);rw[qK r (k+w) (l.drop 1),iV,List.length_replicate];generalize jW r (l.drop 1)=q;generalize bY k B (List.replicate w (l.headD false))=p at hl;subst hl;rw[List.take_left,List.drop_left]
theorem qS{B:Nat->Bool}{f:Nat->List Bool}:∀(a b:List (Option Nat × Nat)) (k:Nat) (l:List Bool),nk B f (a++b) k l=nk B f a k l++nk B f b (k+aM a) (l.drop (many a))
 | [],b,k,l=>rfl
 | (some o,w) ::a,b,k,l=>by
   show f o++nk B f (a++b) k l=(f o++nk B f a k l)++nk B f b (k+aM a) (l.drop (many a));rw[qS a b k l,List.append_assoc]
 | (none,w) ::a,b,k,l=>by
   show bY k B (List.replicate w (l.headD false))++nk B f (a++b) (k+w) (l.drop 1)=(bY k B (List.replicate w (l.headD false))++nk B f a (k+w) (l.drop 1))++nk B f b (k+(w+aM a)) (l.drop (many a+1));rw[qS a b (k+w) (l.drop 1),List.append_assoc,List.drop_drop,Nat.add_assoc,Nat.add_comm 1 (many a)]
theorem jY:∀(a b:List (Option Nat × Nat)),many (a++b)=many a+many b
 | [],b=>by show many b=0+many b;omega
 | (some _,_) ::a,b=>by show many (a++b)=many a+many b;exact jY a b
 | (none,_) ::a,b=>by show many (a++b)+1=many a+1+many b;rw [jY a b];omega
theorem zx{pairs:List (Nat × Nat)}{ins:PR}{l:List Bool}:mf (dZ pairs ins) l=jW (cO pairs ins) l\/(dZ pairs ins).length≠l.length:=by
 by_cases hl:(dZ pairs ins).length=l.length
 .refine .inl ?_;unfold dZ cO at*;generalize ins.zipIdx=z at*
  induction z generalizing l with
  | nil=>rfl
  | cons x z ih=>
    rw[List.filter_cons] at hl ⊢;cases hf:b5 pairs x.2 with
    | some o=>
      rw[hf,Option.isNone_some,if_neg (by decide)] at hl
      rw[Option.isNone_some,if_neg (by decide),List.map_cons]
      show _=jW ((b5 pairs x.2,x.1.2) ::_) l;rw[hf];exact ih hl
    | none=>
      rw[hf,Option.isNone_none,if_pos rfl,List.map_cons,List.length_cons] at hl;rw[Option.isNone_none,if_pos rfl,List.map_cons,List.map_cons];cases l with
      | nil=>simp at hl
      | cons b l=>
        show List.replicate x.1.2 b++mf _ l=jW ((b5 pairs x.2,x.1.2) ::_) (b ::l);rw[hf];show _=List.replicate x.1.2 b++jW _ l;rw[ih (by simpa using hl)]
 .exact .inr hl
theorem wy{pairs:List (Nat × Nat)}{ins:PR}{l:List Bool}(h:(dZ pairs ins).length=l.length):mf (dZ pairs ins) l=jW (cO pairs ins) l:=zx.resolve_right fun q=>q h
def EJ(q:Nat × Nat):D:= .tup [nI q.2,nI q.1]
theorem vX:∀pairs:List (Nat × Nat),wQ (pairs.map EJ)=some (nP pairs)
 | []=>rfl
 | q ::l=>by
   show(ID (EJ q)).bind _=_;rw[vX l];rfl
theorem wG{pairs:List (Nat × Nat)}(nd:(pairs.map (·.2)).Nodup):∀i,i<=pairs.length->kq (nP (pairs.take i)) []=nP (pairs.take i)
 | 0,_=>rfl
 | i+1,hi=>by
   obtain⟨q,hq⟩:∃q,pairs[i]? =some q:=⟨_,List.getElem?_eq_getElem (by omega)⟩
   have hno:b5 (pairs.take i) q.2=none:=sQ (k8 nd hq);have ht:nP (pairs.take (i+1))=nP (pairs.take i)++[(Sum.inl ((q.2:Nat):Int),nI q.1)]:=by
    unfold nP;rw[List.take_add_one,hq,List.map_append];rfl
   rw[ht];unfold kq;rw[List.foldl_append];have ih:=wG nd i (by omega)
   unfold kq at ih;rw[ih];show nD (nP (pairs.take i)) _ _=_;exact rT (by
    have:=lM q.2 (pairs.take i);rw[hno] at this;unfold nP;rw[List.map_map];exact this)
theorem Cg{pairs:List (Nat × Nat)}(nd:(pairs.map (·.2)).Nodup)(hl:pairs.length < 1000):qQ [.lst (pairs.map EJ)]= .ok (dctP pairs):=by
 show(match wQ (pairs.map EJ) with | some qs=>R.a_ (decide ((pairs.map EJ).length<=1000000)) (R.ok (D.dct ((kq qs []).map fun(x:Key × D)=>x.1) ((kq qs []).map fun(x:Key × D)=>x.2))) | none=>R.no)=_
 rw[vX];show R.a_ (decide ((pairs.map EJ).length<=1000000)) (R.ok (D.dct ((kq (nP pairs) []).map fun(x:Key × D)=>x.1) ((kq (nP pairs) []).map fun(x:Key × D)=>x.2)))=_
 have:=wG nd pairs.length (Nat.le_refl _);rw[List.take_length] at this;rw[bM _ (by rw[List.length_map];omega),this,y_]
theorem Bu(i n:Nat)(T:List Nat):xD (nI i) (.lst (T.map fun(t:Nat)=>D.int ((t:Int) - (n:Int))))= .ok (.bl (T.contains (n+i))):=by
 rw[show(T.map fun(t:Nat)=>D.int ((t:Int) - (n:Int)))=(T.map fun(t:Nat)=>(t:Int) - (n:Int)).map D.int from(List.map_map (g:=D.int)).symm]
 show xD (.int (i:Int)) _=_;refine Eq.trans (b:= .ok (.bl ((T.map fun(t:Nat)=>(t:Int) - (n:Int)).contains (i:Int)))) ?_ ?_
 .show((match ints? ((T.map fun(t:Nat)=>(t:Int) - (n:Int)).map D.int) with | some ss=>R.ok (ss.contains (i:Int)) | none=> .no)).bind (fun b=>R.ok (D.bl b))=_
  rw[L2.ints_map];rfl
 congr 2;rw[Bool.eq_iff_iff];simp only[List.contains_iff_mem,List.mem_map];constructor
 .rintro⟨a,ha,e⟩;rw[show n+i=a by omega];exact ha
 .exact fun h=>⟨n+i,h,by omega⟩
end K36
end
section
namespace K36
open PySem PySem.Spec PyProof.Rows L2 L3 MT JT
theorem xK{α β:Type}{l:List α}{d:α}{p:Nat->Bool}{f:α->β}:((List.range l.length).filter p).map (fun k=>f (l.getD k d))=(l.zipIdx.filter fun x=>p x.2).map fun x=>f x.1:=by
 have e:l.zipIdx=(List.range l.length).map fun k=>(l.getD k d,k):=List.ext_getElem? fun i=>by
  rw[List.getElem?_zipIdx,List.getElem?_map];by_cases h:i < l.length
  .rw [List.getElem?_eq_getElem h,List.getElem?_range h];show some (l[i],0+i)=some (l.getD i d,i);rw[Nat.zero_add,List.getD_eq_getElem?_getD,List.getElem?_eq_getElem h];rfl
  .rw [List.getElem?_eq_none (by omega),List.getElem?_eq_none (by rw[List.length_range];omega)];rfl
 rw[e,List.filter_map,List.map_map];rfl
section
variable {ai ah:PR} {gs1 gs2:List Gt} {aI cz:PU} {pairs:List (Nat × Nat)} {S:bw} {bits:List Bool} {T B:List Nat}
abbrev uE(a b p bt t bd:D)(x6 x7 x8 x9 x10 x11 xZ ya x14 DH AA FN FI F5:Option V3):DE:=[some (.d a),some (.d b),some (.d p),some (.d bt),some (.d t),some (.d bd),x6,x7,x8,x9,x10,x11,xZ,ya,x14,DH,AA,FN,FI,F5]
theorem v3{l:List Bool}{n:Nat}:D3 (.lst (l.map bI)) (some (n:Int)) none= .ok (.lst ((l.drop n).map bI)):=by
 show R.ok (D.lst (L2.cutD (l.map bI) (some (n:Int)) none))=_;unfold L2.cutD;rw[List.length_map,HT.wk,HT.sT,List.map_drop];congr 2;by_cases h:n<=l.length
 .rw [Nat.min_eq_left h,List.take_of_length_le (by rw[List.length_drop,List.length_map];omega)]
 .rw [Nat.min_eq_right (by omega),List.take_of_length_le (by rw[List.length_drop,List.length_map];omega),List.drop_eq_nil_of_le (by rw[List.length_map];omega),List.drop_eq_nil_of_le (by rw[List.length_map];omega)]
theorem i4{bad:Nat->Bool}:∀(l:List Bool) (k:Nat),(l.zipIdx).map (fun x=>x.1 !=bad (k+x.2))=bY k bad l
 | [],_=>rfl
 | b ::l,k=>by
   show _=(b !=bad k) ::bY (k+1) bad l;rw[List.zipIdx_cons,List.map_cons,<-i4 l (k+1)];show(b !=bad (k+0)) ::_=_;rw[Nat.add_zero,show l.zipIdx (0+1)=l.zipIdx.map fun x=>(x.1,x.2+1) from by rw[List.zipIdx_eq_map_add];exact List.map_congr_left fun x _=>by obtain⟨u,v⟩:=x;show(u,1+0+v)=(u,v+1);rw [show 1+0+v=v+1 by omega],List.map_map]
   congr 1;exact List.map_congr_left fun x _=>by show(x.1 !=bad (k+(x.2+1)))=(x.1 !=bad (k+1+x.2));rw [show k+(x.2+1)=k+1+x.2 by omega]
theorem Ah{a b p t bd:D}{x8 x10 x11 xZ ya x14 DH AA FN FI F5:Option V3}{i:Nat}{x:Str × Nat}{l:List Bool}(hi:i < bits.length)(hx:x.2 < 100)(hl:l.length < 100000) :
 W3 (j8 (uE a b p (.lst (bits.map bI)) t bd (some (.d (.lst (l.map bI)))) (some (.d (nI i))) x8 (some (.d (nI x.2))) x10 x11 xZ ya x14 DH AA FN FI F5) S) fun o S1=>S1=S/\o= .nx (uE a b p (.lst (bits.map bI)) t bd (some (.d (.lst ((l++List.replicate x.2 (bits.getD i false)).map bI)))) (some (.d (nI i))) x8 (some (.d (nI x.2))) x10 x11 xZ ya x14 DH AA FN FI F5):=by
 have hz:sizeLine=16777216:=sizeLine_eq;unfold j8;refine bf (by simp) <| cx (d:= .lst ((l++List.replicate x.2 (bits.getD i false)).map bI)) (aq (a:= .lst (l.map bI)) (b:= .lst (List.replicate x.2 (bI (bits.getD i false)))) rfl (cc ((Du (ds:=[bI (bits.getD i false)]) (n:=x.2) (nH (az (aq (a:= .lst (bits.map bI)) (b:=nI i) rfl rfl (yD hi)) rfl) (by simp;omega)) rfl (by omega) (by simp;omega)).trans (by rw[zt]))) ((kT (by rw[List.length_map,List.length_replicate];omega)).trans (by rw[List.map_append,List.map_replicate]))) ⟨rfl,?_⟩
 simp only[List.set]
theorem xF{a b p bt t:D}{x6 x7 x8 AA FN FI F5:Option V3}{i c w:Nat}{W1 Y bl:List Bool}(hw:w < 100)(hY:Y.length < 100000)(hf:∀o,b5 pairs i=some o->∃x,aI[o]? =some x/\x.2.length < 1000)(hb:b5 pairs i=none->0 < bl.length) :
 W3 (j9 (uE a b p bt t (.tup (B.map nI)) x6 x7 x8 (some (.d (nI w))) (some (.d (.lst (bl.map bI)))) (some (.d (.lst (b4 aI W1)))) (some (.d (dctP pairs))) (some (.d (.lst (Y.map bI)))) (some (.d (nI c))) (some (.d (nI i))) AA FN FI F5) S) fun o S1=>S1=S/\∃Ku,o= .nx (uE a b p bt t (.tup (B.map nI)) x6 x7 x8 (some (.d (nI w))) (some (.d (.lst ((bl.drop (many [(b5 pairs i,w)])).map bI)))) (some (.d (.lst (b4 aI W1)))) (some (.d (dctP pairs))) (some (.d (.lst ((Y++nk (fun n=>B.contains n) (fun o=>cG W1 (lD aI o)) [(b5 pairs i,w)] c bl).map bI)))) (some (.d (nI (c+aM [(b5 pairs i,w)])))) (some (.d (nI i))) Ku FN FI F5):=by
 have hz:sizeLine=16777216:=sizeLine_eq;unfold j9;refine xy <| xY (b:=(b5 pairs i).isSome) (d_ (a:=nI i) (b:=dctP pairs) rfl rfl nK) ?_
 cases hfi:b5 pairs i with
 | some o=>
   rw[Option.isSome_some,if_pos rfl];obtain⟨x,hx,Il⟩:=hf o hfi;have hos:lD aI o=x.2:=by unfold lD;rw [List.getD_eq_getElem?_getD,hx];rfl
   have ey:nk (fun n=>B.contains n) (fun o=>cG W1 (lD aI o)) [(some o,w)] c bl=cG W1 x.2:=by
    show cG W1 (lD aI o)++[]=_;rw[List.append_nil,hos]
   rw[ey];refine bf (by simp) <| cx (d:= .lst ((Y++cG W1 x.2).map bI)) (aq (a:= .lst (Y.map bI)) (b:= .lst ((cG W1 x.2).map bI)) rfl (ax (ds:=[.tup ((cG W1 x.2).map bI)]) (az (aq (a:= .lst (b4 aI W1)) (b:=nI o) rfl (aq (a:=dctP pairs) (b:=nI i) rfl rfl (sZ hfi)) (NT.de (by unfold b4;rw [List.getElem?_map,hx];rfl))) rfl) rfl) ((kT (by rw[List.length_map,List.length_map,n5];omega)).trans (by rw[<-List.map_append]))) ⟨rfl,AA,?_⟩
   simp only[List.set];rfl
 | none=>
   rw[Option.isSome_none,if_neg (by decide)]
   have hb0:=hb hfi;obtain⟨b0,DB,rfl⟩:∃b0 DB,bl=b0 ::DB:=by
    cases bl with
    | nil=>simp at hb0
    | cons b0 DB=>exact⟨_,_,rfl⟩
   have ey:nk (fun n=>B.contains n) (fun o=>cG W1 (lD aI o)) [(none,w)] c (b0 ::DB)=bY c (fun n=>B.contains n) (List.replicate w b0):=by
    show bY c (fun n=>B.contains n) (List.replicate w b0)++[]=_
    rw[List.append_nil]
   rw[ey];refine aS <| bf (by simp) <| cx (d:= .lst ((List.replicate w b0).map bI)) (cc ((Du (ds:=[bI b0]) (n:=w) (nH (az (aq (a:= .lst ((b0 ::DB).map bI)) (b:=nI 0) rfl rfl (NT.de rfl)) rfl) (by simp;omega)) rfl (by omega) (by simp;omega)).trans (by rw[zt,List.map_replicate]))) ⟨_,rfl,?_⟩
   simp only[List.set];have hrl:(List.replicate w b0).length=w:=List.length_replicate;generalize List.replicate w b0=R0 at hrl;refine aS <| bf (by simp) <| cx (d:= .lst ((Y++bY c (fun n=>B.contains n) R0).map bI)) (aq (a:= .lst (Y.map bI)) (b:= .lst ((bY c (fun n=>B.contains n) R0).map bI)) rfl (cc (cj (ds:=R0.zipIdx.map fun x=>D.tup [nI x.2,bI x.1]) (by rw[<-o_];exact j5 rfl) (by rw[List.length_map,List.length_zipIdx];omega) ?_)) ((kT (by rw[List.length_map,List.length_map,dS];omega)).trans (by rw[<-List.map_append]))) ⟨_,rfl,?_⟩
   .rw [<-i4 R0 c,show(R0.zipIdx.map fun x=>x.1 !=B.contains (c+x.2)).map bI=R0.zipIdx.map fun x=>bI (x.1 !=B.contains (c+x.2)) from List.map_map]
    exact NT.bG (fun x:Bool × Nat=>D.tup [nI x.2,bI x.1]) _ fun x hx=>⟨[.val (nI x.2), .val (bI x.1), .val (.tup (B.map nI)), .val (nI c)],rfl,rfl,rM rfl (aq (a:=nI (c+x.2)) (b:= .tup (B.map nI)) (aq (a:=nI c) (b:=nI x.2) rfl rfl (dw _ _)) rfl (DR _ _))⟩
   simp only[List.set];refine aS <| bf (by simp) <| cx (d:=nI (c+w)) (aq (a:=nI c) (b:=nI w) rfl rfl (dw _ _)) ⟨_,rfl,?_⟩
   simp only[List.set];refine bf (by simp) <| cx (d:= .lst (DB.map bI)) (qP (d:= .lst ((b0 ::DB).map bI)) (lo:=some ((1:Nat):Int)) (hi:=none) rfl (lY rfl) rfl (v3 (l:=b0 ::DB) (n:=1))) ⟨rfl,some (.d (.lst (R0.map bI))),?_⟩
   simp only[List.set];rfl
end
end K36
end
section
set_option maxHeartbeats 2000000
namespace K36
open PySem PySem.Spec PyProof.Rows L2 L3 MT JT
section
variable {ai ah:PR} {gs1 gs2:List Gt} {aI cz:PU} {pairs:List (Nat × Nat)} {S:bw} {bits:List Bool} {T B:List Nat}
def k7(ai:PR)(bits:List Bool)(B:List Nat):List Bool:=bY 0 (fun n=>B.contains n) (mf ai (bits.take ai.length))
def pP(ai:PR)(gs1:List Gt)(bits:List Bool)(T B:List Nat):List Bool:=cF gs1 (fun n=>T.contains n) (k7 ai bits B)
def xv(ai ah:PR)(gs1:List Gt)(aI:PU)(pairs:List (Nat × Nat))(bits:List Bool)(T B:List Nat):List Bool:=nk (fun n=>B.contains n) (fun o=>cG (pP ai gs1 bits T B) (lD aI o)) (cO pairs ah) (bV ai) (bits.drop ai.length)
def xr(ai ah:PR)(gs1 gs2:List Gt)(aI:PU)(pairs:List (Nat × Nat))(bits:List Bool)(T B:List Nat):List Bool:=cF gs2 (fun n=>T.contains (gs1.length+n)) (xv ai ah gs1 aI pairs bits T B)
theorem rB(φ:List (Option Nat × Nat))(i:Nat):many (φ.take i)<=many φ:=by
 have:=jY (φ.take i) (φ.drop i);rw[List.take_append_drop] at this;omega
theorem lR{Bf:Nat->Bool}{f:Nat->List Bool}:∀{φ:List (Option Nat × Nat)} {k:Nat} {l:List Bool},(∀o w,(some o,w)∈φ->(f o).length=w)->(nk Bf f φ k l).length=(φ.map (·.2)).sum
 | [],_,_,_=>rfl
 | (some o,w) ::r,k,l,h=>by
   show(f o++nk Bf f r k l).length=w+(r.map (·.2)).sum
   rw[List.length_append,h o w List.mem_cons_self,lR fun o w hh=>h o w (List.mem_cons_of_mem _ hh)]
 | (none,w) ::r,k,l,h=>by
   show(bY k Bf (List.replicate w (l.headD false))++nk Bf f r (k+w) (l.drop 1)).length=w+(r.map (·.2)).sum
   rw[List.length_append,dS,List.length_replicate,lR fun o w hh=>h o w (List.mem_cons_of_mem _ hh)]
theorem mX:∀(l:List Nat) (i:Nat),(l.take i).sum<=l.sum
 | [],i=>by simp
 | a ::l,0=>by simp
 | a ::l,i+1=>by
   rw[List.take_succ_cons,List.sum_cons,List.sum_cons];have:=mX l i;omega
theorem E9(N1:en ai gs1 aI)(N2:en ah gs2 cz)(F:Fits aI ah pairs)(nd:(pairs.map (·.2)).Nodup)(hb:bits.length=(jI ai ah pairs).length)(Pn:T.length < 1000)(hS:yC S){Q:V3->bw->Prop}(h:Q (.d (.lst (b4 (dY pairs aI) (pP ai gs1 bits T B)++b4 cz (xr ai ah gs1 gs2 aI pairs bits T B)))) S) :
 W3 (lb [.d (aT ai gs1 aI), .d (aT ah gs2 cz), .d (.lst (pairs.map g8)), .d (.lst (bits.map bI)), .d (.tup (T.map nI)), .d (.tup (B.map nI))] S) Q:=by
 have hz:sizeLine=16777216:=sizeLine_eq;have FR:=N1.hi;have FE:=N1.hg;have h13:=N1.ho;have h21:=N2.hi;have h22:=N2.hg;have h23:=N2.ho;have hwd1:=ib N1.hw;have hwd2:=ib N2.hw;have kN:pairs.length < 1000:=by
  have:=pd (n:=ah.length) nd fun x hx=>by
   obtain⟨q,hq,rfl⟩:=List.mem_map.mp hx;obtain⟨_,y,_,hy,_⟩:=F q hq;exact(List.getElem?_eq_some_iff.mp hy).1
  rw[List.length_map] at this;omega
 rw[uF] at hb;have hbt:(bits.take ai.length).length=ai.length:=by rw[List.length_take];omega
 unfold lb;refine j3 hS (zQ rfl ?_);simp only[dg,dt,List.map,List.length,List.replicate,List.cons_append,List.nil_append,Nat.reduceAdd,Nat.reduceSub];unfold mD;refine aS <| bf (by simp) <| cx (d:= .lst (([]:List Bool).map bI)) rfl ⟨_,rfl,?_⟩
 simp only[List.set];refine aS <| g7 <| gu (ds:=ai.zipIdx.map fun x=>D.tup [nI x.2,MT.inD x.1]) (by rw[<-o_];exact j5 rfl) ?_
 refine(cm (fun i δ S2=>S=S2/\∃x7 x8 x9,δ=uE (aT ai gs1 aI) (aT ah gs2 cz) (.lst (pairs.map g8)) (.lst (bits.map bI)) (.tup (T.map nI)) (.tup (B.map nI)) (some (.d (.lst ((mf (ai.take i) (bits.take i)).map bI)))) x7 x8 x9 none none none none none none none none none none)
  ⟨rfl,_,_,_,rfl⟩ ?_).mono fun o S2 ⟨ft,kB,m3,x7,x8,x9,hδ⟩=>⟨ft,kB,?_⟩
 .rintro i v δ S2 hv ⟨rfl,x7,x8,x9,rfl⟩;obtain⟨⟨x,k⟩,hq,rfl⟩:=NT.cQ hv;rw[List.getElem?_zipIdx] at hq;cases hxi:ai[i]? with
  | none=>rw [hxi] at hq;cases hq
  | some x'=>
    rw[hxi] at hq;simp only[Option.map_some,Nat.zero_add,Option.some.injEq,Prod.mk.injEq] at hq;obtain⟨rfl,rfl⟩:=hq;have hil:=(List.getElem?_eq_some_iff.mp hxi).1;have hxw:=N1.hw x' (List.mem_of_getElem? hxi);have hl:(ai.take i).length=(bits.take i).length:=by rw[List.length_take,List.length_take];omega
    have DD:=ib (l:=ai.take i) fun y hy=>N1.hw y (List.mem_of_mem_take hy)
    have hbi:bits[i]? =some (bits.getD i false):=by rw[List.getD_eq_getElem?_getD,List.getElem?_eq_getElem (by omega)];rfl
    have enx:mf (ai.take (i+1)) (bits.take (i+1))=mf (ai.take i) (bits.take i)++List.replicate x'.2 (bits.getD i false):=by
     rw[List.take_add_one,List.take_add_one,hxi,hbi];show mf (ai.take i++[x']) (bits.take i++[bits.getD i false])=_;rw[nE _ _ hl];show _++(List.replicate x'.2 (bits.getD i false)++[])=_;rw[List.append_nil]
    exact⟨_,rfl,(Ah (x8:=some (.d (.str x'.1))) (x:=x') (i:=i) (by omega) hxw (by rw[jf hl];rw [List.length_take] at DD;omega)).mono fun o S3 ⟨e1,e2⟩=>⟨_,e2,e1.symm,some (.d (nI i)),some (.d (.str x'.1)),some (.d (nI x'.2)),by rw[enx]⟩⟩
 have hzl:(ai.zipIdx.map fun x=>D.tup [nI x.2,MT.inD x.1]).length=ai.length:=by rw[List.length_map,List.length_zipIdx]
 rw[List.length_map,hzl,List.take_length] at hδ;subst hδ m3;have Gr:=jf hbt.symm;refine aS <| bf (by simp) <| cx (d:= .lst ((bits.drop ai.length).map bI)) (qP (d:= .lst (bits.map bI)) (lo:=some (ai.length:Int)) (hi:=none) rfl (lY (ax (ds:=[.lst (ai.map MT.inD)]) (az (aq (a:=aT ai gs1 aI) (b:= .int 0) rfl rfl rfl) rfl) (by rw[f7,List.length_map];rfl))) rfl v3) ⟨_,rfl,?_⟩
 simp only[List.set];have er1:k7 ai bits B=bY 0 (fun n=>B.contains n) (mf ai (bits.take ai.length)):=rfl
 generalize mf ai (bits.take ai.length)=w0 at Gr er1;refine aS <| bf (by simp) <| fS (fun j ds S2=>S=S2/\ds=((k7 ai bits B).map bI).take j) <| gu (ds:=w0.zipIdx.map fun x=>D.tup [nI x.2,bI x.1]) (by rw[<-o_];exact j5 rfl) ⟨by rw[List.length_map,List.length_map,List.length_zipIdx];omega,⟨rfl,by simp⟩,?_,?_⟩
 .rintro j v ds S2 hv ⟨rfl,rfl⟩;obtain⟨x,hx,rfl⟩:=NT.cQ hv;refine⟨[some (.d (nI x.2)),some (.d (bI x.1)),some (.d (.tup (B.map nI)))],rfl,oB ?_⟩;rw[if_pos rfl];refine cx (d:=bI (x.1 !=B.contains x.2)) (rM rfl (aq (a:=nI x.2) (b:= .tup (B.map nI)) rfl rfl (DR _ _))) ⟨_,rfl,rfl,?_⟩;rw[er1,<-i4 w0 0,List.take_add_one,List.getElem?_map,List.getElem?_map,hx];show _=_++[bI (x.1 !=B.contains (0+x.2))];rw[Nat.zero_add]
 rintro ds S2 ⟨e1,rfl⟩;subst S2;have hr1:(k7 ai bits B).length=bV ai:=by rw[er1,dS,Gr]
 rw[List.length_map,List.length_map,List.length_zipIdx,List.take_of_length_le (by rw[List.length_map,er1,dS];exact Nat.le_refl _)]
 refine⟨_,rfl,?_⟩;simp only[List.set];refine aS <| bf (by simp) <| fq <| bb <| cx (d:=aT ai gs1 aI) rfl <| bb <| cx (d:= .lst ((k7 ai bits B).map bI)) rfl <| bb <| cx (d:= .tup (T.map nI)) rfl <| hJ <| vK (T:=fun n=>T.contains n) (fun i g hg=>by rw[hr1];exact N1.g i g hg) FE (by omega) h13 (fun x hx=>by rw[hr1];exact N1.o x hx) (fun i _=>DR i T) hS ⟨_,rfl,?_⟩
 simp only[List.set];have eR1:cF gs1 (fun n=>T.contains n) (k7 ai bits B)=pP ai gs1 bits T B:=rfl
 rw[eR1];have hR1:(pP ai gs1 bits T B).length=bV ai+gs1.length:=by rw[<-eR1,d8,hr1]
 have eY:xv ai ah gs1 aI pairs bits T B=nk (fun n=>B.contains n) (fun o=>cG (pP ai gs1 bits T B) (lD aI o)) (cO pairs ah) (bV ai) (bits.drop ai.length):=rfl
 have e22:xr ai ah gs1 gs2 aI pairs bits T B=cF gs2 (fun n=>T.contains (gs1.length+n)) (xv ai ah gs1 aI pairs bits T B):=rfl
 generalize pP ai gs1 bits T B=W1 at hR1 eY h;refine aS <| bf (by simp) <| cx (d:=dctP pairs) (ax (ds:=[.lst (pairs.map EJ)]) (az (cc (cj (ds:=pairs.map g8) (jZ rfl) (by rw[List.length_map];omega) (NT.bG g8 _ fun q hq=>⟨[.val (nI q.1), .val (nI q.2)],rfl,rfl,c9 rfl (by simp;omega)⟩))) rfl) (Cg nd kN)) ⟨_,rfl,?_⟩
 simp only[List.set];refine aS <| bf (by simp) <| cx (d:= .lst (([]:List Bool).map bI)) rfl ⟨_,rfl,?_⟩
 simp only[List.set];refine aS <| bf (by simp) <| cx (d:=nI (bV ai)) (ax (ds:=[.lst ((k7 ai bits B).map bI)]) rfl (by rw[f7,List.length_map,hr1])) ⟨_,rfl,?_⟩
 simp only[List.set];refine aS <| g7 <| gu (ds:=ah.zipIdx.map fun x=>D.tup [nI x.2,MT.inD x.1]) (by rw[<-o_];exact j5 rfl) ?_
 have yc:∀o w,(some o,w)∈cO pairs ah->(cG W1 (lD aI o)).length=w:=fun o w ho=>by obtain⟨x,_,e,e2⟩:=F.at ho;rw [n5,e,e2]
 have yl:∀i,(nk (fun n=>B.contains n) (fun o=>cG W1 (lD aI o)) ((cO pairs ah).take i) (bV ai) (bits.drop ai.length)).length<=bV ah:=fun i=>by
  rw[lR fun o w ho=>yc o w (List.mem_of_mem_take ho),List.map_take]
  have:=mX ((cO pairs ah).map (·.2)) i
  rw[lW] at this;exact this
 refine(cm (fun i δ S2=>S=S2/\∃x8 x9 DH AA,δ=uE (aT ai gs1 aI) (aT ah gs2 cz) (.lst (pairs.map g8)) (.lst (bits.map bI)) (.tup (T.map nI)) (.tup (B.map nI)) (some (.d (.lst ((k7 ai bits B).map bI)))) x7 x8 x9 (some (.d (.lst (((bits.drop ai.length).drop (many ((cO pairs ah).take i))).map bI)))) (some (.d (.lst (b4 aI W1)))) (some (.d (dctP pairs))) (some (.d (.lst ((nk (fun n=>B.contains n) (fun o=>cG W1 (lD aI o)) ((cO pairs ah).take i) (bV ai) (bits.drop ai.length)).map bI)))) (some (.d (nI (bV ai+aM ((cO pairs ah).take i))))) DH AA none none none)
  ⟨rfl,_,_,_,_,rfl⟩ ?_).mono fun o S2 ⟨ft,kB,m3,y8,y9,DH,AA,hδ⟩=>⟨ft,kB,?_⟩
 .rintro i v δ S2 hv ⟨rfl,y8,y9,DH,AA,rfl⟩;obtain⟨⟨x,k⟩,hq,rfl⟩:=NT.cQ hv;rw[List.getElem?_zipIdx] at hq;cases hxi:ah[i]? with
  | none=>rw [hxi] at hq;cases hq
  | some x'=>
    rw[hxi] at hq;simp only[Option.map_some,Nat.zero_add,Option.some.injEq,Prod.mk.injEq] at hq;obtain⟨rfl,rfl⟩:=hq;have hxw:=N2.hw x' (List.mem_of_getElem? hxi);have hyi:=yl i;refine⟨_,rfl,(xF (S:=S) (x8:=some (.d (.str x'.1))) (w:=x'.2) hxw (by omega) (fun o ho=>?_) (fun hn=>?_)).mono fun o S3 ⟨e1,Ku,e2⟩=>⟨_,e2,e1.symm,some (.d (.str x'.1)),some (.d (nI x'.2)),some (.d (nI i)),Ku,?_⟩⟩
    .obtain⟨y,_,q1,_,_⟩:=F (o,i) (qm ho);exact⟨y,q1,(N1.o y (List.mem_of_getElem? q1)).1⟩
    .have hm:=rB (cO pairs ah) (i+1);rw[o5 hxi,jY,hn,xa] at hm;have:many [((none:Option Nat),x'.2)]=1:=rfl;rw[List.length_drop,List.length_drop];omega
    .rw [o5 hxi,jY,qS,kE,List.drop_drop,Nat.add_assoc]
 have hzl2:(ah.zipIdx.map fun x=>D.tup [nI x.2,MT.inD x.1]).length=ah.length:=by rw[List.length_map,List.length_zipIdx]
 rw[List.length_map,hzl2,List.take_of_length_le (by rw[l8];exact Nat.le_refl _),<-eY] at hδ
 subst hδ m3;have hyl:(xv ai ah gs1 aI pairs bits T B).length=bV ah:=by rw[eY,lR yc,lW]
 rw[e22] at h;generalize xv ai ah gs1 aI pairs bits T B=Y at hyl h;refine aS <| bf (by simp) <| fS (fun j ds S2=>S=S2/\ds=(T.map fun(t:Nat)=>D.int ((t:Int) - (gs1.length:Int))).take j) <| gu (ds:=T.map nI) (oU rfl) ⟨by rw[List.length_map,List.length_map];omega,⟨rfl,by simp⟩,?_,?_⟩
 .rintro j v ds S2 hv ⟨rfl,rfl⟩;obtain⟨t,ht,rfl⟩:=NT.cQ hv;refine⟨[some (.d (nI t)),some (.d (aT ai gs1 aI))],rfl,oB ?_⟩;rw[if_pos rfl];refine cx (d:= .int ((t:Int) - (gs1.length:Int))) (aq (a:=nI t) (b:=nI gs1.length) rfl (ax (ds:=[.lst (gs1.map jb)]) (az (aq (a:=aT ai gs1 aI) (b:= .int 1) rfl rfl rfl) rfl) (by rw[f7,List.length_map])) rfl) ⟨_,rfl,rfl,?_⟩
  rw[List.take_add_one,List.getElem?_map,ht];rfl
 rintro ds S2 ⟨e1,rfl⟩;subst S2;rw[List.length_map,List.length_map,List.take_of_length_le (by rw[List.length_map];exact Nat.le_refl _)]
 refine⟨_,rfl,?_⟩;simp only[List.set];refine aS <| bf (by simp) <| fq <| bb <| cx (d:=aT ah gs2 cz) rfl <| bb <| cx (d:= .lst (Y.map bI)) rfl <| bb <| cx (d:= .lst (T.map fun(t:Nat)=>D.int ((t:Int) - (gs1.length:Int)))) rfl <| hJ <| vK (T:=fun n=>T.contains (gs1.length+n)) (fun i g hg=>by rw[hyl];exact N2.g i g hg) h22 (by omega) h23 (fun x hx=>by rw[hyl];exact N2.o x hx) (fun i _=>Bu i gs1.length T) hS ⟨_,rfl,?_⟩
 simp only[List.set];generalize cF gs2 (fun n=>T.contains (gs1.length+n)) Y=W2 at h
 refine aS <| bf (by simp) <| cx (d:= .lst ((pairs.map (·.1)).map nI)) (cc (cj (ds:=pairs.map g8) (jZ rfl) (by rw[List.length_map];omega) (by
  rw[show(pairs.map (·.1)).map nI=pairs.map fun q=>nI q.1 from List.map_map]
  exact NT.bG g8 _ fun q hq=>⟨[.val (nI q.1), .val (nI q.2)],rfl,rfl,rfl⟩))) ⟨_,rfl,?_⟩
 simp only[List.set];have ol1:(b4 aI W1).length=aI.length:=by unfold b4;rw [List.length_map]
 have ol2:(b4 cz W2).length=cz.length:=by unfold b4;rw [List.length_map]
 have oll:(b4 (dY pairs aI) W1).length<=aI.length:=by
  unfold b4 dY;rw[List.length_map,List.length_map];have:=List.length_filter_le (fun x:(Str × List Nat) × Nat=>!(pairs.map (·.1)).contains x.2) aI.zipIdx
  rwa [List.length_zipIdx] at this
 refine ko <| cx (d:= .lst (b4 (dY pairs aI) W1++b4 cz W2)) (aq (a:= .lst (b4 (dY pairs aI) W1)) (b:= .lst (b4 cz W2)) (cc (cj (ds:=(List.range aI.length).map nI) (jM (n:=aI.length) (ax (ds:=[.lst (b4 aI W1)]) rfl (by rw[f7,ol1])) (by omega)) (by rw[List.length_map,List.length_range];omega) ?_)) rfl (kT (by omega))) ⟨_,rfl,rfl,⟨[],by simp⟩,_,rfl,h⟩
 have epk:b4 (dY pairs aI) W1=((List.range aI.length).filter fun k=>!(pairs.map (·.1)).contains k).map fun k=>D.tup ((cG W1 (aI.getD k (Str.empty,[])).2).map bI):=by
  unfold b4 dY;rw[List.map_map];exact(xK (l:=aI) (d:=(Str.empty,[])) (p:=fun k=>!(pairs.map (·.1)).contains k) (f:=fun x:Str × List Nat=>D.tup ((cG W1 x.2).map bI))).symm
 rw[epk];generalize pairs.map (fun q:Nat × Nat=>q.1)=gone
 exact NT.px (t:=bc 0) (c:=b2 oY (ae 0) (ae 2)) (f:=e2 b6 (ae 1) (ae 0)) (δ:=[.un, .val (.lst (b4 aI W1)), .val (.lst (gone.map nI))]) (xs:=List.range aI.length) (fun k=>!gone.contains k) nI (fun k=>D.tup ((cG W1 (aI.getD k (Str.empty,[])).2).map bI)) fun k hk=>⟨[.val (nI k), .val (.lst (b4 aI W1)), .val (.lst (gone.map nI))],rfl,d_ (a:=nI k) (b:= .lst (gone.map nI)) rfl rfl (wq k _),fun _=>aq (a:= .lst (b4 aI W1)) (b:=nI k) rfl rfl (NT.de (by
  have hkl:=List.mem_range.mp hk;unfold b4;rw[List.getElem?_map,List.getElem?_eq_getElem hkl,List.getD_eq_getElem?_getD,List.getElem?_eq_getElem hkl];rfl))⟩
end
end K36
end
section
set_option maxHeartbeats 1000000
namespace K36
open PySem PySem.Spec PyProof.Rows L2 L3 MT JT
section
variable {ai ah:PR} {gs1 gs2:List Gt} {aI cz:PU} {pairs:List (Nat × Nat)} {bits:List Bool} {T B:List Nat}
theorem nX(N1:en ai gs1 aI)(N2:en ah gs2 cz)(F:Fits aI ah pairs)(hb:bits.length=(jI ai ah pairs).length) :
 b4 (jO ai ah gs1 aI cz pairs) (ju (jI ai ah pairs) (jG ai ah gs1 gs2 aI pairs) bits (fun i=>T.contains i) (fun i=>B.contains i))=b4 (dY pairs aI) (pP ai gs1 bits T B)++b4 cz (xr ai ah gs1 gs2 aI pairs bits T B):=by
 rw[uF] at hb;have hbt:(bits.take ai.length).length=ai.length:=by rw[List.length_take];omega
 have hbd:(dZ pairs ah).length=(bits.drop ai.length).length:=by rw[List.length_drop];omega
 have hi:mf (jI ai ah pairs) bits=mf ai (bits.take ai.length)++jW (cO pairs ah) (bits.drop ai.length):=by
  unfold jI;rw[<-wy hbd,<-nE _ _ hbt.symm,List.take_append_drop]
 have Gr:=jf hbt.symm;have hr1:(k7 ai bits B).length=bV ai:=by unfold k7;rw [dS,Gr]
 have hrow:bY 0 (fun n=>B.contains n) (mf (jI ai ah pairs) bits)=k7 ai bits B++bY (bV ai) (fun n=>B.contains n) (jW (cO pairs ah) (bits.drop ai.length)):=by
  rw[hi,iV,Nat.zero_add,Gr];rfl
 have hll:(jW (cO pairs ah) (bits.drop ai.length)).length=aM (cO pairs ah):=by rw[<-wy hbd,jf hbd,oW]
 have hW:ju (jI ai ah pairs) (jG ai ah gs1 gs2 aI pairs) bits (fun i=>T.contains i) (fun i=>B.contains i)=cF (gJ gs1 gs2 (cO pairs ah) (lD aI) (bV ai)) (fun i=>T.contains i) (k7 ai bits B++bY (bV ai) (fun n=>B.contains n) (jW (cO pairs ah) (bits.drop ai.length))):=by
  unfold ju jG;rw[hrow]
 have hsum:((cO pairs ah).map (·.2)).sum=bV ah:=lW
 obtain⟨s1,s2⟩:=uO (gs1:=gs1) (gs2:=gs2) (φ:=cO pairs ah) (os:=lD aI) (n1:=bV ai) (r1:=k7 ai bits B) (rl:=bY (bV ai) (fun n=>B.contains n) (jW (cO pairs ah) (bits.drop ai.length))) (T:=fun i=>T.contains i) hr1 (by rw[dS,hll]) (fun i g hg w hw=>(N1.g i g hg).2.2 w hw) (fun o w ho=>by
  obtain⟨x,q1,q2,q3⟩:=F.at ho;rw[q2];exact⟨q3,fun n hn=>(N1.o x (List.mem_of_getElem? q1)).2 n hn⟩) (fun i g hg w hw=>by rw[hsum];exact(N2.g i g hg).2.2 w hw)
 rw[<-hW] at s1 s2;rw[<-qK] at s2;have e1:cF gs1 (fun i=>T.contains i) (k7 ai bits B)=pP ai gs1 bits T B:=rfl
 have kB:cF gs2 (fun i=>T.contains (gs1.length+i)) (nk (fun n=>B.contains n) (fun o=>cG (cF gs1 (fun i=>T.contains i) (k7 ai bits B)) (lD aI o)) (cO pairs ah) (bV ai) (bits.drop ai.length))=xr ai ah gs1 gs2 aI pairs bits T B:=rfl
 rw[e1] at s1;rw[kB] at s2;have l1:(pP ai gs1 bits T B).length=bV ai+gs1.length:=by unfold pP;rw [d8,hr1]
 have l2:(xr ai ah gs1 gs2 aI pairs bits T B).length=bV ah+gs2.length:=by
  unfold xr xv;rw[d8,lR fun o w ho=>by obtain⟨x,_,e,e2⟩:=F.at ho;rw [n5,e,e2],hsum]
 generalize ju (jI ai ah pairs) (jG ai ah gs1 gs2 aI pairs) bits (fun i=>T.contains i) (fun i=>B.contains i)=W at s1 s2
 unfold b4 jO;rw[List.map_append,List.map_map,List.map_map];congr 1
 .refine List.map_congr_left fun x hx=>?_
  show D.tup ((cG W (x.2.map (C6 ai ah pairs))).map bI)=_;rw[t_ s1 fun n hn=>by rw[l1];exact(N1.o x (iX hx)).2 n hn]
 .refine List.map_congr_left fun x hx=>?_
  show D.tup ((cG W (x.2.map (AM ai ah gs1 aI pairs))).map bI)=_;rw[t_ s2 fun n hn=>by rw[l2];exact(N2.o x hx).2 n hn]
end
end K36
end
section
set_option maxHeartbeats 4000000
namespace K36
open PySem PySem.Spec PyProof.Rows L2 L3 MT JT
def stir(cell k:Int):Int:=if 10 ^ 18<=cell then(cell - 10 ^ 18) / 2 ^ (28*k).toNat % 2 ^ 28
 else((cell+1013*k+1)*16807 % 2147483647)*((cell+1013*k+1)*16807 % 2147483647) % 2147483629*39373 % 2147483587 / 8
theorem B4(cell k:Int)(hk:0<=k):bg [.int cell, .int k]= .ok (.int (stir cell k)):=by
 have p1:∀δ,e2 xp (eC (.int 10)) (eC (.int 18)) δ= .ok (.int (10 ^ 18)):=fun δ=>rfl
 have p2:∀δ,e2 xp (eC (.int 2)) (eC (.int 28)) δ= .ok (.int (2 ^ 28)):=fun δ=>rfl
 have ge:∀a b:Int,J6 (.int a) (.int b)= .ok (.bl (decide (a>=b))):=fun a b=>rfl
 have mulc:∀(a b:Int),(-(2 ^ 64) < b/\b < 2 ^ 64)->kl (.int a) (.int b)= .ok (.int (a*b)):=fun a b h=>by
  show R.a_ (decide _) (R.ok (D.int (a*b)))=_;exact bM _ (.inr h)
 have mulc':∀(a b:Int),(-(2 ^ 64) < a/\a < 2 ^ 64)->kl (.int a) (.int b)= .ok (.int (a*b)):=fun a b h=>by
  show R.a_ (decide _) (R.ok (D.int (a*b)))=_;exact bM _ (.inl h)
 unfold bg nT stir;by_cases h:(10:Int) ^ 18<=cell
 .rw [if_pos h];refine eF (NT.lI (qF (d_ (a:= .int cell) (b:= .int (10 ^ 18)) rfl (p1 _) ((ge _ _).trans (by rw[decide_eq_true h]))) (c_ (aq (a:= .int ((cell - 10 ^ 18) / 2 ^ (28*k).toNat)) (b:= .int (2 ^ 28)) (aq (a:= .int (cell - 10 ^ 18)) (b:= .int (28*k)) (aq (a:= .int cell) (b:= .int (10 ^ 18)) rfl (p1 _) rfl) (aq (a:= .int 28) (b:= .int k) rfl rfl (mulc' _ _ ⟨by omega,by omega⟩)) ?_) (p2 _) (oO (by omega))))))
  show R.a_ (decide ((0:Int)<=28*k)) (R.ok (D.int ((cell - 10 ^ 18) / 2 ^ (28*k).toNat)))=_;exact bM _ (by omega)
 .rw [if_neg h];refine eF (b9 (g9 (d_ (a:= .int cell) (b:= .int (10 ^ 18)) rfl (p1 _) ((ge _ _).trans (by rw[decide_eq_false h]))) rfl) (b9 (kD (d:= .int ((cell+1013*k+1)*16807 % 2147483647)) (aq (a:= .int ((cell+1013*k+1)*16807)) (b:= .int 2147483647) (aq (a:= .int (cell+1013*k+1)) (b:= .int 16807) (aq (a:= .int (cell+1013*k)) (b:= .int 1) (aq (a:= .int cell) (b:= .int (1013*k)) rfl (aq (a:= .int 1013) (b:= .int k) rfl rfl (mulc' _ _ ⟨by omega,by omega⟩)) rfl) rfl rfl) rfl (mulc _ _ ⟨by omega,by omega⟩)) rfl (oO (by omega))) (by simp [cY,je])) ?_))
  have b1:0<=(cell+1013*k+1)*16807 % 2147483647:=Int.emod_nonneg _ (by omega)
  have b2':(cell+1013*k+1)*16807 % 2147483647 < 2147483647:=Int.emod_lt_of_pos _ (by omega)
  generalize (cell+1013*k+1)*16807 % 2147483647=x at b1 b2';refine b9 (kD (d:= .int (x*x % 2147483629)) (aq (a:= .int (x*x)) (b:= .int 2147483629) (aq (a:= .int x) (b:= .int x) rfl rfl (mulc _ _ ⟨by omega,by omega⟩)) rfl (oO (by omega))) (by simp [cY,je])) (c_ ?_)
  exact aq (a:= .int (x*x % 2147483629*39373 % 2147483587)) (b:= .int 8) (aq (a:= .int (x*x % 2147483629*39373)) (b:= .int 2147483587) (aq (a:= .int (x*x % 2147483629)) (b:= .int 39373) rfl rfl (mulc _ _ ⟨by omega,by omega⟩)) rfl (oO (by omega))) rfl (vI (by omega) (by omega))
theorem CM(cell k:Int):0<=stir cell k:=by
 unfold stir;split <;> omega
def stN(cell:Int)(k:Nat):Nat:=(stir cell k).toNat
theorem iK(cell:Int)(k:Nat):bg [.int cell,nI k]= .ok (nI (stN cell k)):=by
 show bg [.int cell, .int k]=_;rw[B4 cell k (by omega)]
 unfold nI stN;rw[Int.toNat_of_nonneg (CM _ _)]
end K36
end
section
set_option maxHeartbeats 1000000
namespace K36
open PySem PySem.Spec PyProof.Rows L2 L3 MT JT
structure Kl (L:Str) (a:Nat->Str):Prop where
 ix:∀k,k < 3->b6 (.str L) (nI k)= .ok (.str (a k))
 sl:∀f:Nat,(f=0\/f=4)->∃C,D3 (.str L) (some (f:Int)) none= .ok (.str C)/\∀k,k < 3->b6 (.str C) (nI k)= .ok (.str (a (f+k)))
structure Any (a:Nat->Str) (ins:PR) (gs:List Gt) (os:PU):Prop where
 N:en ins gs os
 i1:1<=ins.length
 i3:ins.length<=3
 g:gs.length<=7
 o1:1<=os.length
 o3:os.length<=3
 iw:∀x∈ins,1<=x.2/\x.2<=3
 nI:ins.map (·.1)=(List.range ins.length).map a
 nO:∃f,(f=0\/f=4)/\os.map (·.1)=(List.range os.length).map fun k=>a (f+k)
def AO:D:= .lst [.int 1, .int 2, .int 3]
theorem Dm(n:Nat):b6 AO (nI (n % 3))= .ok (nI (1+n % 3)):=by
 have h:n % 3 < 3:=Nat.mod_lt _ (by omega)
 match n % 3,h with
 | 0,_=>rfl
 | 1,_=>rfl
 | 2,_=>rfl
theorem sumZ:∀ns:List Nat,(ns.map fun(n:Nat)=>(n:Int)).sum=(ns.sum:Int)
 | []=>rfl
 | n ::ns=>by
   show(n:Int)+(ns.map fun(n:Nat)=>(n:Int)).sum=((n+ns.sum:Nat):Int)
   rw[sumZ ns];omega
theorem Ae(ns:List Nat):mY [.lst (ns.map nI)]= .ok (nI ns.sum):=by
 rw[vj];show(match ints? ((ns.map fun(n:Nat)=>(n:Int)).map D.int) with | some ns=>R.ok (D.int ns.sum) | none=> .no)=_
 rw[L2.ints_map];show R.ok (D.int (ns.map fun(n:Nat)=>(n:Int)).sum)=_
 rw[sumZ];rfl
abbrev aE(c:Int)(f:Nat)(L:Str)(x4 x5 x6 x7 x8 x9 x10 x11 xZ ya x14:Option V3):DE:=[some (.d (.int c)),some (.d (nI f)),some (.d (.str L)),some (.d AO),x4,x5,x6,x7,x8,x9,x10,x11,xZ,ya,x14]
def yx(n:Nat)(G:List Gt):Prop:=∀(i:Nat) (x:Gt),G[i]? =some x->vc (n+i) x
theorem yx.push{P:Nat}{G:List Gt}{g:Gt}(h:yx P G)(hg:vc (P+G.length) g):yx P (G++[g]):=by
 intro i x hx;by_cases hi:i < G.length
 .rw [List.getElem?_append_left hi] at hx;exact h i x hx
 .rw [List.getElem?_append_right (by omega)] at hx
  have h0:i - G.length=0:=by
   cases q:i - G.length with
   | zero=>rfl
   | succ n=>rw [q] at hx;simp at hx
  rw[h0] at hx;cases hx;rw[show i=G.length by omega];exact hg
section
variable {S:bw} {c:Int} {f:Nat} {L:Str} {a:Nat->Str} {x4 x5 x9 x10 x11 xZ ya x14:Option V3}
theorem va{n i:Nat}{G:List Gt}(hn:0 < n)(hi:i < 10)(hG:yx n G)(hl:G.length=i) :
 W3 (gb (aE c f L x4 x5 (some (.d (nI n))) (some (.loc S.length)) (some (.d (nI i))) x9 x10 x11 none none none) (S++[.lst (G.map jb)])) fun o S2=>∃g y4 y9 CQ si,o= .nx (aE c f L y4 x5 (some (.d (nI n))) (some (.loc S.length)) (some (.d (nI i))) y9 CQ si none none none)/\S2=S++[SO.lst ((G++[g]).map jb)]/\vc (n+G.length) g:=by
 have hz:sizeLine=16777216:=sizeLine_eq;unfold gb;obtain⟨r,hr⟩:∃r,stN c (f+10+5*i)=r:=⟨_,rfl⟩;refine aS <| bf (by simp) <| cx (d:=nI r) ((ax (ds:=[.int c,nI (f+10+5*i)]) (az rfl (az (aq (a:=nI (f+10)) (b:=nI (5*i)) (aq (a:=nI f) (b:=nI 10) rfl rfl (dw _ _)) (aq (a:=nI 5) (b:=nI i) rfl rfl (tK (.inr (by omega)))) (dw _ _)) rfl)) (iK c _)).trans (by rw[hr])) ⟨_,rfl,?_⟩
 simp only[List.set];have hkd:=EC r;have hal:=tm (Eh r);refine aS <| bf (by simp) <| cx (d:= .str (kS (Eh r))) (Hk rfl) ⟨_,rfl,?_⟩
 simp only[List.set];generalize Eh r=kd at hkd hal;refine aS <| bf (by simp) <| cx (d:=nI (ar kd)) (GA hkd rfl) ⟨_,rfl,?_⟩
 simp only[List.set]
 let pk:Nat->Nat:=fun j=>stN c (f+11+5*i+j) % (n+i)
 refine aS <| bf (by simp) <| fS (fun j ds S2=>S2=S++[.lst (G.map jb)]/\ds=((List.range j).map pk).map nI) <| gu (jM (n:=ar kd) rfl (by omega)) ⟨by rw[List.length_map,List.length_map,List.length_range];omega,⟨rfl,rfl⟩,?_,?_⟩
 .rintro j v ds S2 hv ⟨rfl,rfl⟩;obtain⟨j',CO,rfl⟩:=NT.cQ hv;obtain⟨hjl,ej⟩:=List.getElem?_eq_some_iff.mp CO;rw[List.getElem_range] at ej;subst ej;refine⟨[some (.d (nI j)),some (.d (.int c)),some (.d (nI f)),some (.d (nI n)),some (.d (nI i))],rfl,oB ?_⟩;rw[if_pos rfl];refine cx (d:=nI (pk j)) (aq (a:=nI (stN c (f+11+5*i+j))) (b:=nI (n+i)) (ax (ds:=[.int c,nI (f+11+5*i+j)]) (az rfl (az (aq (a:=nI (f+11+5*i)) (b:=nI j) (aq (a:=nI (f+11)) (b:=nI (5*i)) (aq (a:=nI f) (b:=nI 11) rfl rfl (dw _ _)) (aq (a:=nI 5) (b:=nI i) rfl rfl (tK (.inr (by omega)))) (dw _ _)) rfl (dw _ _)) rfl)) (iK c _)) (aq (a:=nI n) (b:=nI i) rfl rfl (dw _ _)) (gK (by omega))) ⟨_,rfl,rfl,?_⟩
  rw[List.range_succ,List.map_append,List.map_append];rfl
 rintro ds S2 ⟨e1,rfl⟩;subst S2;rw[List.length_map,List.length_map,List.length_range];refine⟨_,rfl,?_⟩;simp only[List.set];refine qt (k:=S.length) rfl ⟨_,bx _ _⟩ (cx (d:=jb (kd,(List.range (ar kd)).map pk,decide (r / 5 % 3=0))) (c9 (az rfl (az (ax (ds:=[.lst (((List.range (ar kd)).map pk).map nI)]) rfl rfl) (az (aq (a:=nI (r / 5 % 3)) (b:=nI 0) (aq (a:=nI (r / 5)) (b:=nI 3) (aq (a:=nI r) (b:=nI 5) rfl rfl (Dn (by omega) (by omega))) rfl (gK (by omega))) rfl (BF _ _)) rfl))) (by simp;omega)) ⟨_,_,rfl,bx _ _,by rw[List.length_map];omega,(kd,(List.range (ar kd)).map pk,decide (r / 5 % 3=0)),_,_,_,_,rfl,?_,hkd,?_,fun w hw=>?_⟩)
 .rw [dH,List.map_append];rfl
 .show((List.range (ar kd)).map pk).length=_;rw[List.length_map,List.length_range]
 .obtain⟨j,_,rfl⟩:=List.mem_map.mp (show w∈(List.range (ar kd)).map pk from hw)
  rw[hl];exact Nat.mod_lt _ (by omega)
theorem yV{n i fo:Nat}{G:List Gt}{os:PU}(hn:0 < n)(hi:i < 3)(hG:G.length < 100)(hC:b6 (.str C) (nI i)= .ok (.str (a (fo+i))))(wJ:os.length < 100) :
 W3 (gf (aE c f L x4 x5 (some (.d (nI n))) (some (.d (.lst (G.map jb)))) (some (.d (nI i))) x9 x10 x11 (some (.loc S.length)) (some (.d (.str C))) x14) (S++[.lst (os.map j6)])) fun o S2=>∃ws si pX,o= .nx (aE c f L x4 x5 (some (.d (nI n))) (some (.d (.lst (G.map jb)))) (some (.d (nI i))) x9 x10 si (some (.loc S.length)) (some (.d (.str C))) pX)/\S2=S++[SO.lst ((os++[(a (fo+i),ws)]).map j6)]/\ws.length<=3/\∀w∈ws,w < n+G.length:=by
 have hz:sizeLine=16777216:=sizeLine_eq;unfold gf;obtain⟨r,hr⟩:∃r,stN c (f+60+5*i)=r:=⟨_,rfl⟩;have hr3:r % 3 < 3:=Nat.mod_lt _ (by omega)
 refine aS <| bf (by simp) <| cx (d:=nI (1+r % 3)) (aq (a:=AO) (b:=nI (r % 3)) rfl (aq (a:=nI r) (b:=nI 3) ((ax (ds:=[.int c,nI (f+60+5*i)]) (az rfl (az (aq (a:=nI (f+60)) (b:=nI (5*i)) (aq (a:=nI f) (b:=nI 60) rfl rfl (dw _ _)) (aq (a:=nI 5) (b:=nI i) rfl rfl (tK (.inr (by omega)))) (dw _ _)) rfl)) (iK c _)).trans (by rw[hr])) (ax (ds:=[AO]) rfl rfl) (gK (by omega))) (Dm r)) ⟨_,rfl,?_⟩
 simp only[List.set];obtain⟨wd,hwd⟩:∃wd,1+r % 3=wd:=⟨_,rfl⟩;rw[hwd]
 let pk:Nat->Nat:=fun j=>stN c (f+61+5*i+j) % (n+G.length)
 refine aS <| bf (by simp) <| fS (fun j ds S2=>S2=S++[.lst (os.map j6)]/\ds=((List.range j).map pk).map nI) <| gu (jM (n:=wd) rfl (by omega)) ⟨by rw[List.length_map,List.length_map,List.length_range];omega,⟨rfl,rfl⟩,?_,?_⟩
 .rintro j v ds S2 hv ⟨rfl,rfl⟩;obtain⟨j',CO,rfl⟩:=NT.cQ hv;obtain⟨hjl,ej⟩:=List.getElem?_eq_some_iff.mp CO;rw[List.getElem_range] at ej;subst ej;refine⟨[some (.d (nI j)),some (.d (.int c)),some (.d (nI f)),some (.d (nI n)),some (.d (.lst (G.map jb))),some (.d (nI i))],rfl,oB ?_⟩;rw[if_pos rfl];refine cx (d:=nI (pk j)) (aq (a:=nI (stN c (f+61+5*i+j))) (b:=nI (n+G.length)) (ax (ds:=[.int c,nI (f+61+5*i+j)]) (az rfl (az (aq (a:=nI (f+61+5*i)) (b:=nI j) (aq (a:=nI (f+61)) (b:=nI (5*i)) (aq (a:=nI f) (b:=nI 61) rfl rfl (dw _ _)) (aq (a:=nI 5) (b:=nI i) rfl rfl (tK (.inr (by omega)))) (dw _ _)) rfl (dw _ _)) rfl)) (iK c _)) (aq (a:=nI n) (b:=nI G.length) rfl (ax (ds:=[.lst (G.map jb)]) rfl (by rw[f7,List.length_map])) (dw _ _)) (gK (by omega))) ⟨_,rfl,rfl,?_⟩
  rw[List.range_succ,List.map_append,List.map_append];rfl
 rintro ds S2 ⟨e1,rfl⟩;subst S2;rw[List.length_map,List.length_map,List.length_range];refine⟨_,rfl,?_⟩;simp only[List.set];refine qt (k:=S.length) rfl ⟨_,bx _ _⟩ (cx (d:=j6 (a (fo+i),(List.range wd).map pk)) (c9 (az (aq (a:= .str C) (b:=nI i) rfl rfl hC) (az (ax (ds:=[.lst (((List.range wd).map pk).map nI)]) rfl rfl) rfl)) (by simp;omega)) ⟨_,_,rfl,bx _ _,by rw[List.length_map];omega,(List.range wd).map pk,_,_,rfl,?_,?_,fun w hw=>?_⟩)
 .rw [dH,List.map_append];rfl
 .rw [List.length_map,List.length_range];omega
 .obtain⟨j,_,rfl⟩:=List.mem_map.mp hw;exact Nat.mod_lt _ (by omega)
theorem zW(hL:Kl L a)(hS:Flat S){Q:V3->bw->Prop}(h:∀ins gs os,Any a ins gs os->Q (.d (aT ins gs os)) S) :
 W3 (fg [.d (.int c), .d (nI f), .d (.str L), .d AO] S) Q:=by
 have hz:sizeLine=16777216:=sizeLine_eq;unfold fg;refine j3 hS.HD (zQ rfl ?_);simp only[dg,cB,List.map,List.length,List.replicate,List.cons_append,List.nil_append,Nat.reduceAdd,Nat.reduceSub];unfold iz;obtain⟨m,hm⟩:∃m,1+stN c f % 3=m:=⟨_,rfl⟩;have hm3:1<=m/\m<=3:=by omega
 refine aS <| bf (by simp) <| cx (d:=nI m) ((aq (a:=nI 1) (b:=nI (stN c f % 3)) rfl (aq (a:=nI (stN c f)) (b:=nI 3) (ax (ds:=[.int c,nI f]) rfl (iK c f)) rfl (gK (by omega))) (dw _ _)).trans (by rw[hm])) ⟨_,rfl,?_⟩
 simp only[List.set]
 let ip:Nat->Str × Nat:=fun k=>(a k,1+stN c (f+1+k) % 3)
 let ins:PR:=(List.range m).map ip
 have hil:ins.length=m:=by show((List.range m).map ip).length=m;rw [List.length_map,List.length_range]
 have hiw:∀x∈ins,1<=x.2/\x.2<=3:=fun x hx=>by
  obtain⟨k,_,rfl⟩:=List.mem_map.mp hx;show 1<=1+stN c (f+1+k) % 3/\1+stN c (f+1+k) % 3<=3;omega
 refine aS <| bf (by simp) <| fS (fun j ds S2=>S2=S/\ds=((List.range j).map ip).map MT.inD) <| gu (jM (n:=m) rfl (by omega)) ⟨by rw[List.length_map,List.length_map,List.length_range];omega,⟨rfl,rfl⟩,?_,?_⟩
 .rintro j v ds S2 hv ⟨rfl,rfl⟩;obtain⟨j',CO,rfl⟩:=NT.cQ hv;obtain⟨hjl,ej⟩:=List.getElem?_eq_some_iff.mp CO;rw[List.getElem_range] at ej;subst ej;rw[List.length_range] at hjl;refine⟨[some (.d (nI j)),some (.d (.int c)),some (.d (nI f)),some (.d (.str L)),some (.d AO)],rfl,oB ?_⟩;rw[if_pos rfl];refine cx (d:=MT.inD (ip j)) (c9 (az (aq (a:= .str L) (b:=nI j) rfl rfl (hL.ix j (by omega))) (az (aq (a:=AO) (b:=nI (stN c (f+1+j) % 3)) rfl (aq (a:=nI (stN c (f+1+j))) (b:=nI 3) (ax (ds:=[.int c,nI (f+1+j)]) (az rfl (az (aq (a:=nI (f+1)) (b:=nI j) (aq (a:=nI f) (b:=nI 1) rfl rfl (dw _ _)) rfl (dw _ _)) rfl)) (iK c _)) (ax (ds:=[AO]) rfl rfl) (gK (by omega))) (Dm _)) rfl)) (by simp;omega)) ⟨_,rfl,rfl,?_⟩
  rw[List.range_succ,List.map_append,List.map_append];rfl
 rintro ds S2 ⟨e1,rfl⟩;subst S2;rw[List.length_map,List.length_map,List.length_range];refine⟨_,rfl,?_⟩;simp only[List.set];have hnI:ins.map (·.1)=(List.range ins.length).map a:=by
  rw[hil];show((List.range m).map ip).map _=_;rw[List.map_map];rfl
 have eI:((List.range m).map ip).map MT.inD=ins.map MT.inD:=rfl;rw[eI]
 clear eI
 generalize ins=ins at hil hiw hnI;have hws:bV ins<=9/\1<=bV ins:=by
  have:∀l:PR,(∀x∈l,1<=x.2/\x.2<=3)->bV l<=3*l.length/\l.length<=bV l:=by
   intro l
   induction l with
   | nil=>exact fun _=>⟨Nat.le_refl _,Nat.le_refl _⟩
   | cons x l ih=>
     intro hl;have h1:=ih fun y hy=>hl y (List.mem_cons_of_mem _ hy)
     have h2:=hl x List.mem_cons_self;unfold bV at h1 ⊢;rw[List.map_cons,List.sum_cons,List.length_cons];omega
  have:=this ins hiw;omega
 refine aS <| bf (by simp) <| cx (d:=nI (bV ins)) (ax (ds:=[.lst ((ins.map (·.2)).map nI)]) (az (cc (cj (ds:=ins.map MT.inD) (jZ rfl) (by rw[List.length_map];omega) (by
  rw[show(ins.map (·.2)).map nI=ins.map fun x=>nI x.2 from List.map_map]
  exact NT.bG MT.inD _ fun x hx=>⟨[.val (.str x.1), .val (nI x.2)],rfl,rfl,rfl⟩))) rfl) (Ae _)) ⟨_,rfl,?_⟩
 simp only[List.set];refine aS <| bf (by simp) <| qf (ds:=([]:List Gt).map jb) rfl ⟨_,rfl,?_⟩
 simp only[List.set];obtain⟨q,hq⟩:∃q,stN c (f+5) % 8=q:=⟨_,rfl⟩;have hq8:q < 8:=by omega
 refine aS <| g7 <| gu (jM (n:=q) ((aq (a:=nI (stN c (f+5))) (b:=nI 8) (ax (ds:=[.int c,nI (f+5)]) (az rfl (az (aq (a:=nI f) (b:=nI 5) rfl rfl (dw _ _)) rfl)) (iK c _)) rfl (gK (by omega))).trans (by rw[hq])) (by omega)) ?_
 refine(cm (fun i δ S2=>∃(G:List Gt) (x4 x8 x9 x10 x11:Option V3),G.length=i/\yx (bV ins) G/\δ=aE c f L x4 (some (.d (.lst (ins.map MT.inD)))) (some (.d (nI (bV ins)))) (some (.loc S.length)) x8 x9 x10 x11 none none none/\S2=S++[SO.lst (G.map jb)])
  ⟨[],_,_,_,_,_,rfl,fun i x hx=>(by cases hx),rfl,rfl⟩ ?_).mono fun o S2 ⟨ft,kB,G,x4,x8,x9,x10,x11,hGl,hG,hδ,m3⟩=>⟨ft,kB,?_⟩
 .rintro i v δ S2 hv ⟨G,x4,x8,x9,x10,x11,hGl,hG,rfl,rfl⟩;obtain⟨k,hk,rfl⟩:=NT.cQ hv;obtain⟨hkl,ek⟩:=List.getElem?_eq_some_iff.mp hk;rw[List.getElem_range] at ek;subst ek;rw[List.length_range] at hkl;refine⟨_,rfl,(va (x4:=x4) (x9:=x9) (x10:=x10) (x11:=x11) (by omega) (by omega) hG hGl).mono fun o S3 ⟨g,y4,y9,CQ,si,e1,e2,e3⟩=>⟨_,e1,G++[g],y4,some (.d (nI i)),y9,CQ,si,by rw[List.length_append,hGl];rfl,hG.push e3,rfl,e2⟩⟩
 rw[List.length_map,List.length_map,List.length_range] at hGl;subst hδ m3;refine yJ (i:=7) rfl (bx _ _) ?_;rw[dH];simp only[List.set];generalize hU:S++[SO.ic]=U;refine aS <| bf (by simp) <| qf (ds:=([]:PU).map j6) rfl ⟨_,rfl,?_⟩
 simp only[List.set];obtain⟨fo,hfo⟩:∃fo,4 - 4*(if decide (stN c (f+7) % 3=0) then 1 else 0)=fo:=⟨_,rfl⟩
 have hfo2:fo=0\/fo=4:=by rw[<-hfo];cases decide (stN c (f+7) % 3=0) <;> simp
 obtain⟨C,Oy,Ov⟩:=hL.sl fo hfo2;have hsl:(e2 lJ (eC (.int 4)) (e2 kl (eC (.int 4)) (aF kZ (aj (e2 tP (e2 fG (aF bg (aj (ae 0) (aj (e2 cf (ae 1) (eC (.int 7))) aG))) (eC (.int 3))) (eC (.int 0))) aG)))) (down (aE c f L x4 (some (.d (.lst (ins.map MT.inD)))) (some (.d (nI (bV ins)))) (some (.d (.lst (G.map jb)))) x8 x9 x10 x11 (some (.loc U.length)) none none))= .ok (.int (fo:Int)):=by
  refine aq (a:= .int 4) (b:=nI (4*(if decide (stN c (f+7) % 3=0) then 1 else 0))) rfl (aq (a:=nI 4) (b:=nI (if decide (stN c (f+7) % 3=0) then 1 else 0)) rfl (ax (ds:=[.bl (decide (stN c (f+7) % 3=0))]) (az (aq (a:=nI (stN c (f+7) % 3)) (b:=nI 0) (aq (a:=nI (stN c (f+7))) (b:=nI 3) (ax (ds:=[.int c,nI (f+7)]) (az rfl (az (aq (a:=nI f) (b:=nI 7) rfl rfl (dw _ _)) rfl)) (iK c _)) rfl (gK (by omega))) rfl (BF _ _)) rfl) (by cases decide (stN c (f+7) % 3=0) <;> rfl)) (tK (.inr (by omega)))) ?_
  rw[<-hfo];cases decide (stN c (f+7) % 3=0) <;> rfl
 refine aS <| bf (by simp) <| cx (d:= .str C) (qP (d:= .str L) (lo:=some (fo:Int)) (hi:=none) rfl (lY hsl) rfl Oy) ⟨_,rfl,?_⟩
 simp only[List.set];obtain⟨q2,OJ⟩:∃q2,1+stN c (f+6) % 3=q2:=⟨_,rfl⟩;have hq23:1<=q2/\q2<=3:=by omega
 refine aS <| g7 <| gu (jM (n:=q2) ((aq (a:=nI 1) (b:=nI (stN c (f+6) % 3)) rfl (aq (a:=nI (stN c (f+6))) (b:=nI 3) (ax (ds:=[.int c,nI (f+6)]) (az rfl (az (aq (a:=nI f) (b:=nI 6) rfl rfl (dw _ _)) rfl)) (iK c _)) rfl (gK (by omega))) (dw _ _)).trans (by rw[OJ])) (by omega)) ?_
 refine(cm (fun i δ S2=>∃(os:PU) (x8 x11 x14:Option V3),os.map (·.1)=(List.range i).map (fun k=>a (fo+k))/\(∀x∈os,x.2.length<=3/\∀w∈x.2,w < bV ins+G.length)/\δ=aE c f L x4 (some (.d (.lst (ins.map MT.inD)))) (some (.d (nI (bV ins)))) (some (.d (.lst (G.map jb)))) x8 x9 x10 x11 (some (.loc U.length)) (some (.d (.str C))) x14/\S2=U++[SO.lst (os.map j6)])
  ⟨[],_,_,_,rfl,by simp,rfl,rfl⟩ ?_).mono fun o S2 ⟨ft,kB,os,y8,si,pX,hon,hos,hδ,m3⟩=>⟨ft,kB,?_⟩
 .rintro i v δ S2 hv ⟨os,y8,si,pX,hon,hos,rfl,rfl⟩;obtain⟨k,hk,rfl⟩:=NT.cQ hv;obtain⟨hkl,ek⟩:=List.getElem?_eq_some_iff.mp hk;rw[List.getElem_range] at ek;subst ek;rw[List.length_range] at hkl;have wJ:os.length=i:=by have:=congrArg List.length hon;simpa using this
  refine⟨_,rfl,(yV (a:=a) (fo:=fo) (x4:=x4) (x9:=x9) (x10:=x10) (x11:=si) (x14:=pX) (by omega) (by omega) (by omega) (Ov i (by omega)) (by omega)).mono fun o S3 ⟨ws,Mb,KR,e1,e2,e3,e4⟩=>⟨_,e1,os++[(a (fo+i),ws)],some (.d (nI i)),Mb,KR,?_,fun x hx=>?_,rfl,e2⟩⟩
  .rw [List.map_append,hon,List.range_succ,List.map_append];rfl
  .rcases List.mem_append.mp hx with z | z
   .exact hos x z
   .rw [List.mem_singleton.mp z];exact⟨e3,e4⟩
 rw[List.length_map,List.length_map,List.length_range] at hon;subst hδ m3;have wJ:os.length=q2:=by have:=congrArg List.length hon;simpa using this
 refine yJ (i:=12) rfl (bx _ _) ?_;rw[dH];simp only[List.set];exact ko <| cx (d:=aT ins G os) (c9 rfl (by simp;omega)) ⟨_,rfl,rfl,⟨[SO.ic,SO.ic],by rw[<-hU,List.append_assoc];rfl⟩,_,rfl,h ins G os ⟨⟨by omega,fun x hx=>by have:=hiw x hx;omega,by omega,fun i x hx=>hG i x hx,by omega,fun x hx=>⟨by have:=(hos x hx).1;omega,(hos x hx).2⟩⟩,by omega,by omega,by omega,by omega,by omega,hiw,hnI,fo,hfo2,by rw[wJ];exact hon⟩⟩
end
end K36
end
section
namespace K36
open PySem PySem.Spec PyProof.Rows L2 L3 MT JT
theorem BH(l:List Nat):Dc (.lst (l.map nI)) (.lst [])= .ok (.bl (!l.isEmpty)):=by
 have f1:lG 1 (.lst (l.map nI)):=lG.lst fun d hd=>by obtain⟨b,_,rfl⟩:=List.mem_map.mp hd;exact lG.int _
 have f2:lG 1 (.lst []):=lG.lst fun d hd=>by cases hd
 show(Dr (.lst _) (.lst [])).bind _=_;rw[Aj,f1.pl,f2.pl,f1.sh (by omega),f2.sh (by omega)]
 cases l <;> rfl
section
variable {S:bw} {c:Int} {ai ah:PR} {gs1 gs2:List Gt} {aI cz:PU}
structure vh (aI:PU) (ah:PR) (i:Nat) (pairs:List (Nat × Nat)):Prop where
 F:Fits aI ah pairs
 nd:(pairs.map (·.2)).Nodup
 lt:∀q∈pairs,q.2 < i
 l:pairs.length<=i
theorem vh.push{i o:Nat}{pairs:List (Nat × Nat)}{x:Str × List Nat}{y:Str × Nat}(P:vh aI ah i pairs)(hx:aI[o]? =some x)(hy:ah[i]? =some y)(e:x.2.length=y.2):vh aI ah (i+1) (pairs++[(o,i)]):=by
 refine⟨fun q hq=>?_,?_,fun q hq=>?_,by rw[List.length_append,List.length_singleton];have:=P.l;omega⟩
 .rcases List.mem_append.mp hq with z | z
  .exact P.F q z
  .rw [List.mem_singleton.mp z];exact⟨x,y,hx,hy,e⟩
 .rw [List.map_append];refine List.nodup_append.mpr ⟨P.nd,by simp,fun x hx y hy=>?_⟩
  obtain⟨q,hq,rfl⟩:=List.mem_map.mp hx;have:=P.lt q hq;simp only[List.map_cons,List.map_nil,List.mem_singleton] at hy;omega
 .rcases List.mem_append.mp hq with z | z
  .have:=P.lt q z;omega
  .rw [List.mem_singleton.mp z];simp
theorem vh.keep{i:Nat}{pairs:List (Nat × Nat)}(P:vh aI ah i pairs):vh aI ah (i+1) pairs:=⟨P.F,P.nd,fun q hq=>by have:=P.lt q hq;omega,by have:=P.l;omega⟩
theorem vh.rev{i:Nat}{pairs:List (Nat × Nat)}(P:vh aI ah i pairs):vh aI ah i pairs.reverse:=
 ⟨fun q hq=>P.F q (List.mem_reverse.mp hq),by rw[List.map_reverse];exact List.pairwise_reverse.mpr (P.nd.imp fun h=>h.symm),fun q hq=>P.lt q (List.mem_reverse.mp hq),by rw[List.length_reverse];exact P.l⟩
theorem xn{i:Nat}{y:Str × Nat}{pairs:List (Nat × Nat)}{x5 x6:Option V3}(hO:aI.length < 1000)(hy:ah[i]? =some y)(P:vh aI ah i pairs)(hi:i < 100) :
 W3 (ik [some (.d (.int c)),some (.d (aT ai gs1 aI)),some (.d (aT ah gs2 cz)),some (.loc S.length),some (.d (nI i)),x5,x6] (S++[.lst (pairs.map g8)])) fun o S2=>∃iB y5 y6,o= .nx [some (.d (.int c)),some (.d (aT ai gs1 aI)),some (.d (aT ah gs2 cz)),some (.loc S.length),some (.d (nI i)),y5,y6]/\S2=S++[SO.lst (iB.map g8)]/\vh aI ah (i+1) iB:=by
 have hz:sizeLine=16777216:=sizeLine_eq;unfold ik
 let p:Nat->Bool:=fun o=>decide ((aI.getD o (Str.empty,[])).2.length=y.2)
 refine aS <| bf (by simp) <| fS (fun j ds S2=>S2=S++[.lst (pairs.map g8)]/\ds=((List.range j).filter p).map nI) <| gu (jM (n:=aI.length) (ax (ds:=[.lst (aI.map j6)]) rfl (by rw[f7,List.length_map])) (by omega)) ⟨by rw[List.length_map,List.length_map,List.length_range];omega,⟨rfl,rfl⟩,?_,?_⟩
 .rintro j v ds S2 hv ⟨rfl,rfl⟩;obtain⟨j',CO,rfl⟩:=NT.cQ hv;obtain⟨hjl,ej⟩:=List.getElem?_eq_some_iff.mp CO;rw[List.getElem_range] at ej;subst ej;rw[List.length_range] at hjl;have hgd:aI.getD j (Str.empty,[])=aI[j]:=by rw[List.getD_eq_getElem?_getD,List.getElem?_eq_getElem hjl];rfl
  refine⟨[some (.d (nI j)),some (.d (aT ai gs1 aI)),some (.d (aT ah gs2 cz)),some (.d (nI i))],rfl,xY (b:=p j) (d_ (a:=nI (aI.getD j (Str.empty,[])).2.length) (b:=nI y.2) (ax (ds:=[.tup ((aI.getD j (Str.empty,[])).2.map nI)]) (az (aq (a:=j6 (aI.getD j (Str.empty,[]))) (b:= .int 1) (aq (a:= .lst (aI.map j6)) (b:=nI j) (aq (a:=aT ai gs1 aI) (b:= .int 2) rfl rfl rfl) rfl (NT.de (by rw[hgd,List.getElem?_map,List.getElem?_eq_getElem hjl];rfl))) rfl rfl) rfl) (by rw[EN,List.length_map])) (aq (a:=MT.inD y) (b:= .int 1) (aq (a:= .lst (ah.map MT.inD)) (b:=nI i) (aq (a:=aT ah gs2 cz) (b:= .int 0) rfl rfl rfl) rfl (NT.de (by rw[List.getElem?_map,hy];rfl))) rfl rfl) (BF _ _)) ?_⟩
  rw[List.range_succ,List.filter_append,List.map_append];cases hp:p j with
  | true=>
    rw[if_pos rfl];exact cx (d:=nI j) rfl ⟨_,rfl,rfl,by rw[List.filter_cons,if_pos hp];rfl⟩
  | false=>
    rw[if_neg (by decide)]
    exact⟨rfl,by rw[List.filter_cons,if_neg (by rw[hp];decide)];simp⟩
 rintro ds S2 ⟨e1,rfl⟩;subst S2;rw[List.length_map,List.length_map,List.length_range];refine⟨_,rfl,?_⟩;simp only[List.set];have hF:∀o∈(List.range aI.length).filter p,o < aI.length/\(aI.getD o (Str.empty,[])).2.length=y.2:=fun o ho=>by
  obtain⟨h1,h2⟩:=List.mem_filter.mp ho;exact⟨List.mem_range.mp h1,of_decide_eq_true h2⟩
 generalize (List.range aI.length).filter p=Ft at hF;obtain⟨r,hr⟩:∃r,stN c (80+i)=r:=⟨_,rfl⟩;refine aS <| bf (by simp) <| cx (d:=nI r) ((ax (ds:=[.int c,nI (80+i)]) (az rfl (az (aq (a:=nI 80) (b:=nI i) rfl rfl (dw _ _)) rfl)) (iK c _)).trans (by rw[hr])) ⟨_,rfl,?_⟩
 simp only[List.set];refine xy <| xY (b:=!Ft.isEmpty && decide (0 < r % 4)) ?_ ?_
 .unfold BQ;rw[show b2 Dc (ae 5) (eNew (fB aG)) (down [some (.d (.int c)),some (.d (aT ai gs1 aI)),some (.d (aT ah gs2 cz)),some (.loc S.length),some (.d (nI i)),some (.d (.lst (Ft.map nI))),some (.d (nI r))])= .ok (!Ft.isEmpty) from d_ (a:= .lst (Ft.map nI)) (b:= .lst []) rfl rfl (BH Ft),R.aX]
  cases !Ft.isEmpty with
  | false=>rfl
  | true=>
    rw[if_pos rfl];refine(d_ (a:=nI (r % 4)) (b:=nI 0) (aq (a:=nI r) (b:=nI 4) rfl rfl (gK (by omega))) rfl (JN _ _)).trans ?_
    rw[Bool.true_and]
 cases hc:!Ft.isEmpty && decide (0 < r % 4) with
 | false=>rw [if_neg (by decide)];exact ph ⟨pairs,_,_,rfl,rfl,P.keep⟩
 | true=>
   rw[if_pos rfl];have DC:0 < Ft.length:=by
    cases Ft with
    | nil=>rw [Bool.and_eq_true] at hc;cases hc.1
    | cons g G=>simp
   have hm:r / 4 % Ft.length < Ft.length:=Nat.mod_lt _ DC;obtain⟨o,ho⟩:∃o,Ft[r / 4 % Ft.length]? =some o:=⟨_,List.getElem?_eq_getElem hm⟩;obtain⟨h1,h2⟩:=hF o (List.mem_of_getElem? ho);have hgd:aI.getD o (Str.empty,[])=aI[o]:=by rw[List.getD_eq_getElem?_getD,List.getElem?_eq_getElem h1];rfl
   have kN:=P.l;refine qt (k:=S.length) rfl ⟨_,bx _ _⟩ (cx (d:=g8 (o,i)) (c9 (az (aq (a:= .lst (Ft.map nI)) (b:=nI (r / 4 % Ft.length)) rfl (aq (a:=nI (r / 4)) (b:=nI Ft.length) (aq (a:=nI r) (b:=nI 4) rfl rfl (Dn (by omega) (by omega))) (ax (ds:=[.lst (Ft.map nI)]) rfl (by rw[f7,List.length_map])) (gK DC)) (I0 ho)) rfl) (by simp;omega)) ⟨_,_,rfl,bx _ _,by rw[List.length_map];omega,pairs++[(o,i)],_,_,rfl,?_,P.push (List.getElem?_eq_getElem h1) hy (by rw[<-hgd];exact h2)⟩)
   rw[dH,List.map_append];rfl
theorem yP(N1:en ai gs1 aI)(N2:en ah gs2 cz)(hS:Flat S){Q:V3->bw->Prop}(h:∀pairs,vh aI ah ah.length pairs->Q (.d (.lst (pairs.map g8))) S) :
 W3 (jl [.d (.int c), .d (aT ai gs1 aI), .d (aT ah gs2 cz)] S) Q:=by
 have hz:sizeLine=16777216:=sizeLine_eq;have h21:=N2.hi;unfold jl;refine j3 hS.HD (zQ rfl ?_);simp only[dg,fV,List.map,List.length,List.replicate,List.cons_append,List.nil_append,Nat.reduceAdd,Nat.reduceSub];unfold kf;refine aS <| bf (by simp) <| qf (ds:=([]:List (Nat × Nat)).map g8) rfl ⟨_,rfl,?_⟩
 simp only[List.set];refine aS <| g7 <| gu (jM (n:=ah.length) (ax (ds:=[.lst (ah.map MT.inD)]) rfl (by rw[f7,List.length_map])) (by omega)) ?_
 refine(cm (fun i δ S2=>∃(pairs:List (Nat × Nat)) (x4 x5 x6:Option V3),vh aI ah i pairs/\δ=[some (.d (.int c)),some (.d (aT ai gs1 aI)),some (.d (aT ah gs2 cz)),some (.loc S.length),x4,x5,x6]/\S2=S++[SO.lst (pairs.map g8)])
  ⟨[],_,_,_,⟨fun q hq=>(by cases hq),List.nodup_nil,fun q hq=>(by cases hq),Nat.le_refl _⟩,rfl,rfl⟩ ?_).mono fun o S2 ⟨ft,kB,pairs,x4,x5,x6,P,hδ,m3⟩=>⟨ft,kB,?_⟩
 .rintro i v δ S2 hv ⟨pairs,x4,x5,x6,P,rfl,rfl⟩;obtain⟨k,hk,rfl⟩:=NT.cQ hv;obtain⟨hkl,ek⟩:=List.getElem?_eq_some_iff.mp hk;rw[List.getElem_range] at ek;subst ek;rw[List.length_range] at hkl;exact⟨_,rfl,(xn N1.ho (List.getElem?_eq_getElem hkl) P (by omega)).mono fun o S3 ⟨iB,y5,y6,e1,e2,e3⟩=>⟨_,e1,iB,_,y5,y6,e3,rfl,e2⟩⟩
 rw[List.length_map,List.length_map,List.length_range] at P;subst hδ m3;refine yJ (i:=3) rfl (bx _ _) ?_;rw[dH];simp only[List.set];refine aS (W3.mono (Q:=fun o S2=>S2=S++[SO.ic]/\∃iB,vh aI ah ah.length iB/\o= .nx [some (.d (.int c)),some (.d (aT ai gs1 aI)),some (.d (aT ah gs2 cz)),some (.d (.lst (iB.map g8))),x4,x5,x6]) ?_ fun o S2 ⟨e1,iB,P',eo⟩=>⟨_,eo,?_⟩)
 .refine xy <| xY (b:=decide (stN c 84 % 2=0)) (d_ (a:=nI (stN c 84 % 2)) (b:=nI 0) (aq (a:=nI (stN c 84)) (b:=nI 2) (ax (ds:=[.int c,nI 84]) rfl (iK c 84)) rfl (gK (by omega))) rfl (BF _ _)) ?_
  cases decide (stN c 84 % 2=0) with
  | false=>rw [if_neg (by decide)];exact ph ⟨rfl,pairs,P,rfl⟩
  | true=>
    rw[if_pos rfl];refine bf (by simp) <| cx (d:= .lst (pairs.reverse.map g8)) (by rw[List.map_reverse];rfl) ⟨rfl,pairs.reverse,P.rev,?_⟩
    simp only[List.set]
 subst e1;exact ko <| cx (d:= .lst (iB.map g8)) rfl ⟨_,rfl,rfl,⟨[SO.ic],rfl⟩,_,rfl,h iB P'⟩
end
end K36
end
section
set_option maxHeartbeats 2000000
namespace K36
open PySem PySem.Spec PyProof.Rows L2 L3 MT JT
def Dv(b k:Nat):Str:=⟨#[b+k]⟩
abbrev LA:Str:=Str.ofString "abcdefg"
abbrev LN:Str:=Str.ofString "nopqrst"
theorem JH:Kl LA (Dv 97):=by
 have hz:sizeLine=16777216:=sizeLine_eq;have hl:LA.length<=sizeLine:=by rw[hz];decide+kernel
 refine⟨fun k hk=>?_,fun f hf=>?_⟩
 .match k,hk with
  | 0,_=>exact dv hl (by decide+kernel)
  | 1,_=>exact dv hl (by decide+kernel)
  | 2,_=>exact dv hl (by decide+kernel)
 .rcases hf with rfl | rfl
  .refine⟨_,bM _ hl,fun k hk=>?_⟩
   have h2:(Txt.slice LA (some ((0:Nat):Int)) none).length<=sizeLine:=by rw[hz];decide+kernel
   match k,hk with
   | 0,_=>exact dv h2 (by decide+kernel)
   | 1,_=>exact dv h2 (by decide+kernel)
   | 2,_=>exact dv h2 (by decide+kernel)
  .refine⟨_,bM _ hl,fun k hk=>?_⟩
   have h2:(Txt.slice LA (some ((4:Nat):Int)) none).length<=sizeLine:=by rw[hz];decide+kernel
   match k,hk with
   | 0,_=>exact dv h2 (by decide+kernel)
   | 1,_=>exact dv h2 (by decide+kernel)
   | 2,_=>exact dv h2 (by decide+kernel)
theorem Je:Kl LN (Dv 110):=by
 have hz:sizeLine=16777216:=sizeLine_eq;have hl:LN.length<=sizeLine:=by rw[hz];decide+kernel
 refine⟨fun k hk=>?_,fun f hf=>?_⟩
 .match k,hk with
  | 0,_=>exact dv hl (by decide+kernel)
  | 1,_=>exact dv hl (by decide+kernel)
  | 2,_=>exact dv hl (by decide+kernel)
 .rcases hf with rfl | rfl
  .refine⟨_,bM _ hl,fun k hk=>?_⟩
   have h2:(Txt.slice LN (some ((0:Nat):Int)) none).length<=sizeLine:=by rw[hz];decide+kernel
   match k,hk with
   | 0,_=>exact dv h2 (by decide+kernel)
   | 1,_=>exact dv h2 (by decide+kernel)
   | 2,_=>exact dv h2 (by decide+kernel)
  .refine⟨_,bM _ hl,fun k hk=>?_⟩
   have h2:(Txt.slice LN (some ((4:Nat):Int)) none).length<=sizeLine:=by rw[hz];decide+kernel
   match k,hk with
   | 0,_=>exact dv h2 (by decide+kernel)
   | 1,_=>exact dv h2 (by decide+kernel)
   | 2,_=>exact dv h2 (by decide+kernel)
theorem nL{n m:Nat}(h:n<=m){f:Nat->Str}:((List.range n).map f).Sublist ((List.range m).map f):=(List.range_sublist.mpr h).map f
theorem Ja:((List.range 3).map (Dv 97)++(List.range 3).map (Dv 110)).Nodup:=by decide+kernel
theorem JF:∀f∈[0,4],∀g∈[0,4],((List.range 3).map (fun k=>Dv 97 (f+k))++(List.range 3).map fun k=>Dv 110 (g+k)).Nodup:=by decide+kernel
theorem t8{pairs:List (Nat × Nat)}{ins:PR}:(dZ pairs ins).Sublist ins:=by
 unfold dZ;have h:((ins.zipIdx.filter fun x=>(b5 pairs x.2).isNone).map (·.1)).Sublist (ins.zipIdx.map (·.1)):=List.Sublist.map _ List.filter_sublist
 have e:ins.zipIdx.map (·.1)=ins:=List.ext_getElem? fun i=>by
  rw[List.getElem?_map,List.getElem?_zipIdx];cases ins[i]? <;> rfl
 rw[e] at h;exact h
theorem sO{pairs:List (Nat × Nat)}{os:PU}:(dY pairs os).Sublist os:=by
 unfold dY;have h:((os.zipIdx.filter fun x=>!(pairs.map (·.1)).contains x.2).map (·.1)).Sublist (os.zipIdx.map (·.1)):=List.Sublist.map _ List.filter_sublist
 have e:os.zipIdx.map (·.1)=os:=List.ext_getElem? fun i=>by
  rw[List.getElem?_map,List.getElem?_zipIdx];cases os[i]? <;> rfl
 rw[e] at h;exact h
section
variable {ai ah:PR} {gs1 gs2:List Gt} {aI cz:PU} {pairs:List (Nat × Nat)}
theorem NI(A1:Any (Dv 97) ai gs1 aI)(A2:Any (Dv 110) ah gs2 cz)(P:vh aI ah ah.length pairs):Ho ai ah gs1 gs2 aI cz pairs:=by
 have a1:=A1.i3;have a2:=A2.i3;have b1:=A1.o3;have b2':=A2.o3;have g1:=A1.g;have g2:=A2.g;obtain⟨f,hf,ef⟩:=A1.nO;obtain⟨g,hg,eg⟩:=A2.nO;refine⟨P.F,P.nd,?_,?_,?_,by omega,?_⟩
 .unfold jI;rw[List.map_append,A1.nI];refine List.Nodup.sublist (List.Sublist.append (nL a1) ((t8.map _).trans ?_)) Ja;rw[A2.nI];exact nL a2
 .unfold jO;rw[List.map_append,List.map_map,List.map_map];refine List.Nodup.sublist (List.Sublist.append ?_ ?_) (JF f (by rcases hf with rfl | rfl <;> simp) g (by rcases hg with rfl | rfl <;> simp))
  .have e:(dY pairs aI).map ((fun x=>x.1) ∘ kJ (C6 ai ah pairs))=(dY pairs aI).map (·.1):=rfl
   rw[e];refine(sO.map _).trans ?_;rw[ef];exact nL b1
  .have e:cz.map ((fun x=>x.1) ∘ kJ (AM ai ah gs1 aI pairs))=cz.map (·.1):=rfl
   rw[e,eg];exact nL b2'
 .rw [uF];have:=(t8 (pairs:=pairs) (ins:=ah)).length_le;omega
 .unfold jO;rw[List.length_append,List.length_map,List.length_map];have:=(sO (pairs:=pairs) (os:=aI)).length_le;omega
end
def kL(n:Nat):List D:=(List.range n).map fun k=>D.tup [nI k]
theorem C5{n r:Nat}(h:r < 1+n):∃T:List Nat,T.length<=1/\b6 (.lst (.tup [] ::kL n)) (nI r)= .ok (.tup (T.map nI)):=by
 match r,h with
 | 0,_=>exact⟨[],by simp,NT.de rfl⟩
 | r+1,h=>
   refine⟨[r],by simp,NT.de ?_⟩
   rw[List.getElem?_cons_succ];unfold kL;rw[List.getElem?_map,List.getElem?_range (by omega)];rfl
theorem B0(os:PU)(ws:List Bool):Dc (.lst (b4 os ws)) (.lst (b4 os ws))= .ok (.bl false):=by
 have f:lG 2 (.lst (b4 os ws)):=lG.lst fun d hd=>by
  obtain⟨x,_,rfl⟩:=List.mem_map.mp hd;exact lG.tup fun d hd=>by obtain⟨z,_,rfl⟩:=List.mem_map.mp hd;exact lG.int _
 show(Dr (.lst _) (.lst _)).bind _=_;rw[f.MI (by omega)];rfl
end K36
end
section
namespace K36
open PySem PySem.Spec PyProof.Rows L2 L3 MT JT
abbrev vE(sc:D)(c:Int)(x2 x3 x4 x5 x6 x7 x8 x9 x10 x11 xZ ya x14:Option V3):DE:=[some (.d sc),some (.d (.int c)),x2,x3,x4,x5,x6,x7,x8,x9,x10,x11,xZ,ya,x14]
section
variable {sc:D} {c:Int} {ai ah:PR} {gs1 gs2:List Gt} {aI cz:PU} {pairs:List (Nat × Nat)} {x6 x7 x8 x9 x10 x11:Option V3}
abbrev wh(ai ah:PR)(gs1 gs2:List Gt)(aI cz:PU)(pairs:List (Nat × Nat)):D:=aT (jI ai ah pairs) (jG ai ah gs1 gs2 aI pairs) (jO ai ah gs1 aI cz pairs)
theorem CK{bits:List Bool}{T B:List Nat}(N1:en ai gs1 aI)(N2:en ah gs2 cz)(J:Ho ai ah gs1 gs2 aI cz pairs)(hb:bits.length=(jI ai ah pairs).length)(hT:T.length<=1) :
 W3 (qJ (vE sc c (some (.d (aT ai gs1 aI))) (some (.d (aT ah gs2 cz))) (some (.d (.lst (pairs.map g8)))) (some (.d (wh ai ah gs1 gs2 aI cz pairs))) x6 x7 x8 x9 x10 x11 (some (.d (.tup (bits.map bI)))) (some (.d (.tup (T.map nI)))) (some (.d (.tup (B.map nI))))) []) fun o S1=>o= .nx (vE sc c (some (.d (aT ai gs1 aI))) (some (.d (aT ah gs2 cz))) (some (.d (.lst (pairs.map g8)))) (some (.d (wh ai ah gs1 gs2 aI cz pairs))) x6 x7 x8 x9 x10 x11 (some (.d (.tup (bits.map bI)))) (some (.d (.tup (T.map nI)))) (some (.d (.tup (B.map nI)))))/\S1=[]:=by
 have f0:yC ([]:bw):=Flat.nil.HD;unfold qJ;refine xy <| JI <| fq <| bb <| cx (d:=wh ai ah gs1 gs2 aI cz pairs) rfl <| bb <| cx (d:= .tup (bits.map bI)) rfl <| bb <| cx (d:= .tup (T.map nI)) rfl <| bb <| cx (d:= .tup (B.map nI)) rfl <| hJ <| Ed (n3 N1 N2 J) hb f0 ?_
 rw[nX N1 N2 J.F hb];refine fq <| bb <| cx (d:=aT ai gs1 aI) rfl <| bb <| cx (d:=aT ah gs2 cz) rfl <| bb <| cx (d:= .lst (pairs.map g8)) rfl <| bb <| cx (d:= .lst (bits.map bI)) (ax (ds:=[.tup (bits.map bI)]) rfl rfl) <| bb <| cx (d:= .tup (T.map nI)) rfl <| bb <| cx (d:= .tup (B.map nI)) rfl <| hJ <| E9 N1 N2 J.F J.nd hb (by omega) f0 ⟨_,_,false,rfl,rfl,by rw[<-nX N1 N2 J.F hb];exact B0 _ _,?_⟩
 rw[if_neg (by decide)]
 exact ph ⟨rfl,rfl⟩
theorem u7{p:Nat}{T B:List Nat}{xZ ya x14:Option V3}(N1:en ai gs1 aI)(N2:en ah gs2 cz)(J:Ho ai ah gs1 gs2 aI cz pairs)(hT:T.length<=1)(hl:(jI ai ah pairs).length<=6) :
 W3 (qN (vE sc c (some (.d (aT ai gs1 aI))) (some (.d (aT ah gs2 cz))) (some (.d (.lst (pairs.map g8)))) (some (.d (wh ai ah gs1 gs2 aI cz pairs))) (some (.d (nI (jI ai ah pairs).length))) x7 x8 (some (.d (.tup (T.map nI)))) (some (.d (.tup (B.map nI)))) (some (.d (nI p))) xZ ya x14) []) fun o S1=>(∃AB uk pX,o= .nx (vE sc c (some (.d (aT ai gs1 aI))) (some (.d (aT ah gs2 cz))) (some (.d (.lst (pairs.map g8)))) (some (.d (wh ai ah gs1 gs2 aI cz pairs))) (some (.d (nI (jI ai ah pairs).length))) x7 x8 (some (.d (.tup (T.map nI)))) (some (.d (.tup (B.map nI)))) (some (.d (nI p))) AB uk pX))/\S1=[]:=by
 have hz:sizeLine=16777216:=sizeLine_eq;unfold qN;obtain⟨m,hm⟩:∃m,(jI ai ah pairs).length=m:=⟨_,rfl⟩;rw[hm];rw[hm] at hl
 let bits:List Bool:=(List.range m).map fun k=>decide (p / 2 ^ (m - 1 - k) % 2=1)
 have hbl:bits.length=m:=by show((List.range m).map _).length=m;rw [List.length_map,List.length_range]
 refine aS <| bf (by simp) <| cx (d:= .tup (bits.map bI)) (ax (ds:=[.lst (bits.map bI)]) (az (cc (cj (ds:=(List.range m).map nI) (jM (n:=m) rfl (by omega)) (by rw[List.length_map,List.length_range];omega) ?_)) rfl) rfl) ⟨_,rfl,?_⟩
 .rw [show bits.map bI=(List.range m).map fun k=>bI (decide (p / 2 ^ (m - 1 - k) % 2=1)) from List.map_map]
  exact NT.bG nI _ fun k hk=>⟨[.val (nI k), .val (nI m), .val (nI p)],rfl,rfl,aq (a:=nI (p / 2 ^ (m - 1 - k))) (b:=nI 1) (aq (a:=nI p) (b:=nI (m - 1 - k)) rfl (aq (a:=nI (m - 1)) (b:=nI k) (aq (a:=nI m) (b:=nI 1) rfl rfl (C3 (by have:=List.mem_range.mp hk;omega))) rfl (C3 (by have:=List.mem_range.mp hk;omega))) (HI _ _)) rfl (EL _)⟩
 simp only[List.set];generalize bits=bits at hbl
 let prs:List (List Nat × List Nat):=[([],[]),(T,[]),([],B),(T,B)]
 let pD:List Nat × List Nat->D:=fun q=> .tup [.tup (q.1.map nI), .tup (q.2.map nI)]
 refine g7 <| gu (ds:=prs.map pD) (jZ (cc (nH (az (c9 rfl (by simp;omega)) (az (c9 rfl (by simp;omega)) (az (c9 rfl (by simp;omega)) (az (c9 rfl (by simp;omega)) rfl)))) (by show 4<=sizeLine;omega)))) ?_
 have hprs:∀q∈prs,q.1.length<=1:=fun q hq=>by
  simp only[prs,List.mem_cons,List.not_mem_nil,or_false] at hq;rcases hq with rfl | rfl | rfl | rfl
  .simp
  .exact hT
  .simp
  .exact hT
 refine(cm (fun i δ S2=>(∃uk pX,δ=vE sc c (some (.d (aT ai gs1 aI))) (some (.d (aT ah gs2 cz))) (some (.d (.lst (pairs.map g8)))) (some (.d (wh ai ah gs1 gs2 aI cz pairs))) (some (.d (nI m))) x7 x8 (some (.d (.tup (T.map nI)))) (some (.d (.tup (B.map nI)))) (some (.d (nI p))) (some (.d (.tup (bits.map bI)))) uk pX)/\S2=[])
  ⟨⟨_,_,rfl⟩,rfl⟩ ?_).mono fun o S2 ⟨ft,kB,⟨uk,pX,hδ⟩,m3⟩=>⟨⟨some (.d (.tup (bits.map bI))),uk,pX,by rw[kB,hδ]⟩,m3⟩
 rintro i v δ S2 hv ⟨⟨uk,pX,rfl⟩,rfl⟩;obtain⟨q,hq,rfl⟩:=NT.cQ hv;refine⟨_,rfl,(CK N1 N2 J (by rw[hbl,hm]) (hprs q (List.mem_of_getElem? hq))).mono fun o S3 ⟨e1,e2⟩=>⟨_,e1,⟨_,_,rfl⟩,e2⟩⟩
theorem zg{x2 x3 x4 x5 xZ ya x14:Option V3} :
 W3 (qT (vE sc c x2 x3 x4 x5 x6 x7 x8 x9 x10 x11 xZ ya x14) []) fun o S1=>(∃y2 y3 y4 y5 y6 y7 y8 y9 CQ si AB uk pX,o= .nx (vE sc c y2 y3 y4 y5 y6 y7 y8 y9 CQ si AB uk pX))/\S1=[]:=by
 have hz:sizeLine=16777216:=sizeLine_eq;have f0:Flat ([]:bw):=Flat.nil;unfold qT;refine aS <| bf (by simp) <| fq <| bb <| cx (d:= .int c) rfl <| bb <| cx (d:=nI 0) rfl <| bb <| cx (d:= .str LA) rfl <| bb <| cx (d:=AO) rfl <| hJ <| zW JH f0 fun ai gs1 aI A1=>⟨_,rfl,?_⟩
 simp only[List.set];refine aS <| bf (by simp) <| fq <| bb <| cx (d:= .int c) rfl <| bb <| cx (d:=nI 150) rfl <| bb <| cx (d:= .str LN) rfl <| bb <| cx (d:=AO) rfl <| hJ <| zW Je f0 fun ah gs2 cz A2=>⟨_,rfl,?_⟩
 simp only[List.set];refine aS <| bf (by simp) <| fq <| bb <| cx (d:= .int c) rfl <| bb <| cx (d:=aT ai gs1 aI) rfl <| bb <| cx (d:=aT ah gs2 cz) rfl <| hJ <| yP A1.N A2.N f0 fun pairs P=>⟨_,rfl,?_⟩
 simp only[List.set];have J:=NI A1 A2 P;have NJ:=n3 A1.N A2.N J;refine aS <| bf (by simp) <| fq <| bb <| cx (d:=aT ai gs1 aI) rfl <| bb <| cx (d:=aT ah gs2 cz) rfl <| bb <| cx (d:= .lst (pairs.map g8)) rfl <| hJ <| xt A1.N A2.N J f0.HD ⟨_,rfl,?_⟩
 simp only[List.set];have hri:=J.ri;have hg:=NJ.hg;have DD:=ib NJ.hw;refine aS <| bf (by simp) <| cx (d:=nI (jI ai ah pairs).length) (ax (ds:=[.lst ((jI ai ah pairs).map MT.inD)]) rfl (by rw[f7,List.length_map])) ⟨_,rfl,?_⟩
 simp only[List.set];have sng:∀{δ:DE} {it:av->R (List D)} {own:List Str} {n:Nat} {QV:V3->bw->Prop},own.length=1->it (down δ)= .ok ((List.range n).map nI)->n<=100000->QV (.d (.lst (kL n))) []->W3 (f6 (iP it) (g6 0) oq (xP (fH (aj (ae 0) aG))) own [] δ []) QV:=by
  intro δ it own n QV ho hit hn hq;refine fS (fun j ds S2=>S2=[]/\ds=(kL n).take j) <| gu hit ⟨by rw[List.length_map,List.length_map,List.length_range];omega,⟨rfl,rfl⟩,?_,?_⟩
  .rintro j v ds S2 hv ⟨rfl,rfl⟩;obtain⟨k,hk,rfl⟩:=NT.cQ hv;obtain⟨o,rfl⟩:∃o,own=[o]:=by
    match own,ho with
    | [o],_=>exact⟨o,rfl⟩
   refine⟨[some (.d (nI k))],rfl,oB ?_⟩;rw[if_pos rfl];refine cx (d:= .tup [nI k]) (c9 rfl (by simp;omega)) ⟨_,rfl,rfl,?_⟩
   unfold kL;rw[List.take_add_one,List.getElem?_map,hk];rfl
  .rintro ds S2 ⟨rfl,rfl⟩;rw[List.length_map,List.length_map,List.length_range,List.take_of_length_le (by unfold kL;rw [List.length_map,List.length_range];exact Nat.le_refl _)]
   exact hq
 refine aS <| bf (by simp) <| sng rfl (jM (n:=(jG ai ah gs1 gs2 aI pairs).length) (ax (ds:=[.lst ((jG ai ah gs1 gs2 aI pairs).map jb)]) rfl (by rw[f7,List.length_map])) (by omega)) (by omega) ⟨_,rfl,?_⟩
 simp only[List.set];refine aS <| bf (by simp) <| sng rfl (jM (n:=bV (jI ai ah pairs)) (ax (ds:=[.lst (((jI ai ah pairs).map (·.2)).map nI)]) (az (cc (cj (ds:=(jI ai ah pairs).map MT.inD) (jZ rfl) (by rw[List.length_map];omega) (by
  rw[show((jI ai ah pairs).map (·.2)).map nI=(jI ai ah pairs).map fun x=>nI x.2 from List.map_map]
  exact NT.bG MT.inD _ fun x hx=>⟨[.val (.str x.1), .val (nI x.2)],rfl,rfl,rfl⟩))) rfl) (Ae _)) (by omega)) (by omega) ⟨_,rfl,?_⟩
 simp only[List.set];obtain⟨n1,Mm⟩:∃n,(jG ai ah gs1 gs2 aI pairs).length=n:=⟨_,rfl⟩;obtain⟨n2,IK⟩:∃n,bV (jI ai ah pairs)=n:=⟨_,rfl⟩;rw[Mm] at hg;rw[IK] at DD;rw[Mm,IK];obtain⟨T,hT,eT⟩:=C5 (n:=n1) (r:=stN c 96 % (1+n1)) (Nat.mod_lt _ (by omega))
 obtain⟨B,hB,eB⟩:=C5 (n:=n2) (r:=stN c 97 % (1+n2)) (Nat.mod_lt _ (by omega))
 have sl:∀n,(kL n).length=n:=fun n=>by unfold kL;rw [List.length_map,List.length_range]
 refine aS <| bf (by simp) <| cx (d:= .tup (T.map nI)) (aq (a:= .lst (.tup [] ::kL n1)) (b:=nI (stN c 96 % (1+n1))) (aq (a:= .lst [.tup []]) (b:= .lst (kL n1)) rfl rfl (kT (by rw[sl];simp;omega))) (aq (a:=nI (stN c 96)) (b:=nI (1+n1)) (ax (ds:=[.int c,nI 96]) rfl (iK c 96)) (aq (a:=nI 1) (b:=nI n1) rfl (ax (ds:=[.lst (kL n1)]) rfl (by rw[f7,sl])) (dw _ _)) (gK (by omega))) eT) ⟨_,rfl,?_⟩
 simp only[List.set];refine aS <| bf (by simp) <| cx (d:= .tup (B.map nI)) (aq (a:= .lst (.tup [] ::kL n2)) (b:=nI (stN c 97 % (1+n2))) (aq (a:= .lst [.tup []]) (b:= .lst (kL n2)) rfl rfl (kT (by rw[sl];simp;omega))) (aq (a:=nI (stN c 97)) (b:=nI (1+n2)) (ax (ds:=[.int c,nI 97]) rfl (iK c 97)) (aq (a:=nI 1) (b:=nI n2) rfl (ax (ds:=[.lst (kL n2)]) rfl (by rw[f7,sl])) (dw _ _)) (gK (by omega))) eB) ⟨_,rfl,?_⟩
 simp only[List.set];have Mh:2 ^ (jI ai ah pairs).length<=64:=Nat.pow_le_pow_right (by omega) hri
 refine g7 <| gu (jM (n:=2 ^ (jI ai ah pairs).length) (aq (a:= .int 1) (b:=nI (jI ai ah pairs).length) rfl rfl (G0 (by omega))) (by omega)) ?_
 refine(cm (fun i δ S2=>(∃si AB uk pX,δ=vE sc c (some (.d (aT ai gs1 aI))) (some (.d (aT ah gs2 cz))) (some (.d (.lst (pairs.map g8)))) (some (.d (wh ai ah gs1 gs2 aI cz pairs))) (some (.d (nI (jI ai ah pairs).length))) (some (.d (.lst (kL n1)))) (some (.d (.lst (kL n2)))) (some (.d (.tup (T.map nI)))) (some (.d (.tup (B.map nI)))) si AB uk pX)/\S2=[])
  ⟨⟨_,_,_,_,rfl⟩,rfl⟩ ?_).mono fun o S2 ⟨ft,kB,⟨si,AB,uk,pX,hδ⟩,m3⟩=>by
    subst hδ kB;exact⟨⟨_,_,_,_,_,_,_,_,_,_,_,_,_,rfl⟩,m3⟩
 rintro i v δ S2 hv ⟨⟨si,AB,uk,pX,rfl⟩,rfl⟩;obtain⟨p,hp,rfl⟩:=NT.cQ hv;exact⟨_,rfl,(u7 A1.N A2.N J hT hri).mono fun o S3 ⟨⟨OG,Ol,KR,e1⟩,e2⟩=>⟨_,e1,⟨_,_,_,_,rfl⟩,e2⟩⟩
end
theorem GI(ns:List Int):D3 (.lst (ns.map .int)) none (some 6)= .ok (.lst ((ns.take 6).map .int)):=by
 show R.ok (D.lst (L2.cutD (ns.map .int) none (some ((6:Nat):Int))))=_;unfold L2.cutD;rw[List.length_map,HT.wk,HT.sT,List.map_take];congr 2;show(ns.map D.int).take (min 6 ns.length - 0)=(ns.map D.int).take 6;by_cases h:6<=ns.length
 .rw [Nat.min_eq_left h]
 .rw [Nat.min_eq_right (by omega),List.take_of_length_le (by rw[List.length_map];omega),List.take_of_length_le (by rw[List.length_map];omega)]
theorem An(ns:List Int)(hn:ns.length<=63):vt [.lst (ns.map D.int)]= .ok (.bl true):=by
 have hz:sizeLine=16777216:=sizeLine_eq;have f0:Flat ([]:bw):=Flat.nil;have key:W3 (rh jP n6 [.d (.lst (ns.map .int))] []) fun v S1=>v= .d (.bl true)/\S1=[]:=by
  refine j3 f0.HD (zQ rfl ?_);simp only[dg,jP,List.map,List.length,List.replicate,List.cons_append,List.nil_append,Nat.reduceAdd,Nat.reduceSub];unfold n6;have ht6:(ns.take 6).length<=6:=by rw[List.length_take];omega
  refine aS <| g7 <| gu (ds:=((0:Int) ::ns.take 6).map D.int) (jZ (aq (a:= .lst [.int 0]) (b:= .lst ((ns.take 6).map .int)) rfl (qP (d:= .lst (ns.map .int)) (lo:=none) (hi:=some 6) rfl rfl (lY rfl) (GI ns)) (kT (by rw[List.length_map];simp;omega)))) ?_
  refine(cm (fun i δ S2=>(∃x1 y2 y3 y4 y5 y6 y7 y8 y9 CQ si AB uk pX,δ=[some (.d (.lst (ns.map .int))),x1,y2,y3,y4,y5,y6,y7,y8,y9,CQ,si,AB,uk,pX])/\S2=[])
   ⟨⟨_,_,_,_,_,_,_,_,_,_,_,_,_,_,rfl⟩,rfl⟩ ?_).mono fun o S2 ⟨ft,kB,⟨x1,y2,y3,y4,y5,y6,y7,y8,y9,CQ,si,AB,uk,pX,hδ⟩,m3⟩=>⟨ft,kB,?_⟩
  .rintro i v δ S2 hv ⟨⟨x1,y2,y3,y4,y5,y6,y7,y8,y9,CQ,si,AB,uk,pX,rfl⟩,rfl⟩;obtain⟨c,hc,rfl⟩:=NT.cQ hv;exact⟨_,rfl,zg.mono fun o S3 ⟨⟨z2,z3,z4,z5,z6,z7,z8,z9,Pw,Mb,OG,Ol,KR,e1⟩,e2⟩=>⟨_,e1,⟨_,_,_,_,_,_,_,_,_,_,_,_,_,_,rfl⟩,e2⟩⟩
  subst hδ m3;exact ko <| cx (d:= .bl true) rfl ⟨_,rfl,rfl,⟨_,rfl⟩,_,rfl,rfl,trivial⟩
 obtain⟨v,S1,e1,kB,e3⟩:=key;unfold vt IE;show(match rh jP n6 ([D.lst (ns.map D.int)].map V3.d) [] with | .ok (.d d) []=>R.a_ d.atom (R.ok d) | _=> .no)=_
 rw[show [D.lst (ns.map D.int)].map V3.d=[V3.d (.lst (ns.map .int))] from rfl,e1,kB,e3]
 rfl
end K36
end
open PySem PySem.W PyProof.Rows
set_option maxRecDepth 100000 in
set_option maxHeartbeats 0 in
theorem PySem.Challenge.cw_bearfaults_k36_whole_joined_runs_on_holds : PySem.Challenge.rw_bearfaults_k36_whole_joined_runs_on.Holds := by
 w_on;o_law;k_head;(case hw=>w_witness2)
 k_fill
 refine L2.Hx (l:=PySem.Challenge.rw_bearfaults_k36_whole_joined_runs_on) (n:=63) (k:=5) (x:="script") (g:=K36.vt) rfl (by decide) rfl ⟨rfl,by decide,by decide⟩ (fun w h Y=>PySem.W.kIn_of Y) ?F K36.An
 case F=>
  intro w mg fa h KX G Iq
  have mL:L2.Def (L2.fA KX) mg "vote_of" K36.iW:=by
   dsimp only[L2.fA]
   refine' L2.cq KX G ?a ?l ?c ?k
   (case a=>k_is);(case l=>k_is);(case c=>k_is);(case k=>k_is)
  have kz:L2.Def (L2.fA KX) mg "gate_mask" K36.fX:=by
   dsimp only[L2.fA]
   refine' L2.cq KX G ?a ?l ?c ?k
   (case a=>k_is);(case l=>k_is);(case c=>k_is);(case k=>k_is)
  have gm:L2.Def (L2.fA KX) mg "in_wire_masks" K36.dm:=by
   dsimp only[L2.fA]
   refine' L2.cq KX G ?a ?l ?c ?k
   (case a=>k_is);(case l=>k_is);(case c=>k_is);(case k=>k_is)
  have lA:L2.Def (L2.fA KX) mg "masks_at" K36.gI:=by
   dsimp only[L2.fA]
   refine' L2.cq KX G ?a ?l ?c ?k
   (case a=>k_is);(case l=>k_is);(case c=>k_is);(case k=>k_is)
  have jz:L2.Def (L2.fA KX) mg "wire_masks" K36.eX:=by
   dsimp only[L2.fA]
   refine' L2.cq KX G ?a ?l ?c ?k
   (case a=>k_is);(case l=>k_is);(case c=>k_is);(case k=>k_is)
  have kC:L2.Def (L2.fA KX) mg "out_masks" K36.fU:=by
   dsimp only[L2.fA]
   refine' L2.cq KX G ?a ?l ?c ?k
   (case a=>k_is);(case l=>k_is);(case c=>k_is);(case k=>k_is)
  have AI:L2.Def (L2.fA KX) mg "run" K36.sI:=by
   dsimp only[L2.fA]
   refine' L2.cq KX G ?a ?l ?c ?k
   (case a=>k_is);(case l=>k_is);(case c=>k_is);(case k=>k_is)
  have jv:L2.Def (L2.fA KX) mg "check_fits" K36.eU:=by
   dsimp only[L2.fA]
   refine' L2.cq KX G ?a ?l ?c ?k
   (case a=>k_is);(case l=>k_is);(case c=>k_is);(case k=>k_is)
  have iH:L2.Def (L2.fA KX) mg "outs_of_ins" K36.ei:=by
   dsimp only[L2.fA]
   refine' L2.cq KX G ?a ?l ?c ?k
   (case a=>k_is);(case l=>k_is);(case c=>k_is);(case k=>k_is)
  have iA:L2.Def (L2.fA KX) mg "check_names" K36.el:=by
   dsimp only[L2.fA]
   refine' L2.cq KX G ?a ?l ?c ?k
   (case a=>k_is);(case l=>k_is);(case c=>k_is);(case k=>k_is)
  have jy:L2.Def (L2.fA KX) mg "check_room" K36.e_:=by
   dsimp only[L2.fA]
   refine' L2.cq KX G ?a ?l ?c ?k
   (case a=>k_is);(case l=>k_is);(case c=>k_is);(case k=>k_is)
  have jA:L2.Def (L2.fA KX) mg "many_wires" K36.eZ:=by
   dsimp only[L2.fA]
   refine' L2.cq KX G ?a ?l ?c ?k
   (case a=>k_is);(case l=>k_is);(case c=>k_is);(case k=>k_is)
  have mO:L2.Def (L2.fA KX) mg "rewired" K36.iL:=by
   dsimp only[L2.fA]
   refine' L2.cq KX G ?a ?l ?c ?k
   (case a=>k_is);(case l=>k_is);(case c=>k_is);(case k=>k_is)
  have gh:L2.Def (L2.fA KX) mg "rewired_gates" K36.dr:=by
   dsimp only[L2.fA]
   refine' L2.cq KX G ?a ?l ?c ?k
   (case a=>k_is);(case l=>k_is);(case c=>k_is);(case k=>k_is)
  have gU:L2.Def (L2.fA KX) mg "rewired_outs" K36.dE:=by
   dsimp only[L2.fA]
   refine' L2.cq KX G ?a ?l ?c ?k
   (case a=>k_is);(case l=>k_is);(case c=>k_is);(case k=>k_is)
  have iC:L2.Def (L2.fA KX) mg "one_numbers" K36.d7:=by
   dsimp only[L2.fA]
   refine' L2.cq KX G ?a ?l ?c ?k
   (case a=>k_is);(case l=>k_is);(case c=>k_is);(case k=>k_is)
  have gp:L2.Def (L2.fA KX) mg "other_numbers" K36.di:=by
   dsimp only[L2.fA]
   refine' L2.cq KX G ?a ?l ?c ?k
   (case a=>k_is);(case l=>k_is);(case c=>k_is);(case k=>k_is)
  have pC:L2.Def (L2.fA KX) mg "joined" K36.kj:=by
   dsimp only[L2.fA]
   refine' L2.cq KX G ?a ?l ?c ?k
   (case a=>k_is);(case l=>k_is);(case c=>k_is);(case k=>k_is)
  have lz:L2.Def (L2.fA KX) mg "_law_stir" K36.gG:=by
   dsimp only[L2.fA]
   refine' L2.cq KX G ?a ?l ?c ?k
   (case a=>k_is);(case l=>k_is);(case c=>k_is);(case k=>k_is)
  have iE:L2.Def (L2.fA KX) mg "_law_any_net" K36.d5:=by
   dsimp only[L2.fA]
   refine' L2.cq KX G ?a ?l ?c ?k
   (case a=>k_is);(case l=>k_is);(case c=>k_is);(case k=>k_is)
  have kA:L2.Def (L2.fA KX) mg "_law_pairs" K36.fW:=by
   dsimp only[L2.fA]
   refine' L2.cq KX G ?a ?l ?c ?k
   (case a=>k_is);(case l=>k_is);(case c=>k_is);(case k=>k_is)
  have mM:L2.Def (L2.fA KX) mg "_law_bit" K36.iJ:=by
   dsimp only[L2.fA]
   refine' L2.cq KX G ?a ?l ?c ?k
   (case a=>k_is);(case l=>k_is);(case c=>k_is);(case k=>k_is)
  have lC:L2.Def (L2.fA KX) mg "_law_gone" K36.gL:=by
   dsimp only[L2.fA]
   refine' L2.cq KX G ?a ?l ?c ?k
   (case a=>k_is);(case l=>k_is);(case c=>k_is);(case k=>k_is)
  have mN:L2.Def (L2.fA KX) mg "_law_due" K36.iI:=by
   dsimp only[L2.fA]
   refine' L2.cq KX G ?a ?l ?c ?k
   (case a=>k_is);(case l=>k_is);(case c=>k_is);(case k=>k_is)
  have D_law:L2.Def (L2.fA KX) mg "law" K36.vM:=by
   dsimp only[L2.fA]
   refine' L2.cq KX G ?a ?l ?c ?k
   (case a=>k_is);(case l=>k_is);(case c=>k_is);(case k=>k_is)
  have vn:L2.Glob (L2.fA KX) mg "MOST_INS" K36.fL:=by
   dsimp only[L2.fA]
   refine' L2.n9 KX G ?a
   (case a=>k_is)
  have sd:L2.Glob (L2.fA KX) mg "MOST_GATES" K36.dR:=by
   dsimp only[L2.fA]
   refine' L2.n9 KX G ?a
   (case a=>k_is)
  have ug:L2.Glob (L2.fA KX) mg "MOST_OUTS" K36.eP:=by
   dsimp only[L2.fA]
   refine' L2.n9 KX G ?a
   (case a=>k_is)
  have T:K36.Tp (L2.fA KX) mg:=by
   dsimp only[L2.fA]
   refine' ⟨PySem.W.mg_none_of KX G ?z_enumerate,PySem.W.mg_none_of KX G ?z_range,PySem.W.mg_none_of KX G ?z_len,PySem.W.mg_none_of KX G ?z_tuple,PySem.W.mg_none_of KX G ?z_sum,PySem.W.mg_none_of KX G ?z_list,PySem.W.mg_none_of KX G ?z_int,PySem.W.mg_none_of KX G ?z_min,PySem.W.mg_none_of KX G ?z_max,PySem.W.mg_none_of KX G ?z_dict,vn,sd,ug⟩
   (case z_enumerate=>k_is);(case z_range=>k_is);(case z_len=>k_is);(case z_tuple=>k_is);(case z_sum=>k_is);(case z_list=>k_is);(case z_int=>k_is);(case z_min=>k_is);(case z_max=>k_is);(case z_dict=>k_is)
  obtain⟨fl,fd,Fl,hl⟩:=D_law
  have e0:=Iq.symm.trans hl
  cases e0
  refine' ⟨fd,?b,fun base kb nb=>K36.E4 T mL kz gm lA jz kC AI jv iH iA jy jA mO gh gU iC gp pC lz iE kA mM lC mN Fl⟩
  obtain⟨_,_,_,_,_,_,_,_,_,e,_,_⟩:=Fl.ex
  subst e
  exact fun s u=> .of_eq rfl
